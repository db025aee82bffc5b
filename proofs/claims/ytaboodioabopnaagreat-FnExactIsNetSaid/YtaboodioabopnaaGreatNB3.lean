/- Joined: XEstimate XRedMath XReduce XDivSpec1 XNatDiv XNatGcd. Conditions: none. -/
import Derived.Test.YtaboodioabopnaaGreatProg
import Derived.Test.YtaboodioabopnaaGreatNDiv64
import Derived.Test.YtaboodioabopnaaGreatNB2
import Derived.Laws.AppendOwnNone
namespace Go.Proofs.YtaboodioabopnaaGreat
open Go.RowKit Nt
set_option linter.unusedVariables false
theorem est_bounds (P k u3 u0 v2 v0 : Nat) (hu : u0 < k) (hv : v0 < k) (hP : P ≤ v2) (hP0 : 0 < P) (hlt : u0 + k * u3 < P * (v0 + k * v2)) :
   (u0 + k * u3) / (v0 + k * v2) ≤ u3 / v2 ∧ u3 / v2 ≤ (u0 + k * u3) / (v0 + k * v2) + 1 ∧ u3 / v2 ≤ P := by
 have hk : 0 < k := by omega
 have hv2 : 0 < v2 := by omega
 have hV : 0 < v0 + k * v2 := Nat.lt_of_lt_of_le (Nat.mul_pos hk hv2) (Nat.le_add_left _ _)
 have hQ : (u0 + k * u3) / (v0 + k * v2) < P := by rw [Nat.div_lt_iff_lt_mul hV]; exact hlt
 have hlow := Nat.div_mul_le_self (u0 + k * u3) (v0 + k * v2)
 have hup := Nat.lt_div_mul_add (a := u0 + k * u3) hV
 generalize (u0 + k * u3) / (v0 + k * v2) = Q at *
 have h1 : Q ≤ u3 / v2 := by
   rw [Nat.le_div_iff_mul_le hv2]
   rcases Nat.lt_or_ge u3 (Q * v2) with h | h
   · exfalso
     have a1 : k * (u3 + 1) ≤ k * (Q * v2) := Nat.mul_le_mul_left k h
     have a2 : k * (Q * v2) ≤ Q * (v0 + k * v2) := by
       rw [Nat.mul_add, ← Nat.mul_assoc, ← Nat.mul_assoc, Nat.mul_comm k Q]; exact Nat.le_add_left _ _
     rw [Nat.mul_add, Nat.mul_one] at a1
     omega
   · exact h
 have h2 : u3 / v2 ≤ Q + 1 := by
   rcases Nat.lt_or_ge (Q + 1) (u3 / v2) with h | h
   · exfalso
     have b1 : (Q + 2) * v2 ≤ u3 := Nat.le_trans (Nat.mul_le_mul_right _ h) (Nat.div_mul_le_self u3 v2)
     have b2 : k * u3 < (Q + 1) * (v0 + k * v2) := by rw [Nat.add_mul, Nat.one_mul]; omega
     have b3 : (Q + 1) * (v0 + k * v2) ≤ (Q + 1) * (k * (v2 + 1)) := Nat.mul_le_mul_left _ (by rw [Nat.mul_add]; omega)
     have b4 : (Q + 1) * (k * (v2 + 1)) = k * ((Q + 1) * (v2 + 1)) := by rw [← Nat.mul_assoc, Nat.mul_comm (Q + 1) k, Nat.mul_assoc]
     have b5 : u3 < (Q + 1) * (v2 + 1) := by
       have : k * u3 < k * ((Q + 1) * (v2 + 1)) := by omega
       exact Nat.lt_of_mul_lt_mul_left this
     have b6 : (Q + 1) * (v2 + 1) = Q * v2 + v2 + Q + 1 := by rw [Nat.add_mul, Nat.mul_add]; omega
     have b7 : (Q + 2) * v2 = Q * v2 + v2 + v2 := by rw [Nat.add_mul]; omega
     omega
   · exact h
 exact ⟨h1, h2, by omega⟩
theorem val_top2 (xs : List Nat) (n : Nat) (hn : xs.length = n + 2) : val xs = val (xs.take n) + 1000000000 ^ n * (xs[n]'(by omega) + 1000000000 * (xs[n + 1]'(by omega))) := by
 rw [val_take_drop xs n (by omega), val_drop_succ xs n (by omega), val_drop_succ xs (n + 1) (by omega), List.drop_of_length_le (by omega)]
 rfl
theorem canon_top {xs : List Nat} (h : Canon xs) (n : Nat) (hn : xs.length = n + 1) : 0 < xs[n]'(by omega) := by
 rcases Nat.eq_zero_or_pos (xs[n]'(by omega)) with h0 | h0
 · exfalso
   apply h.2
   rw [List.getLast?_eq_getElem?, hn, Nat.add_sub_cancel, List.getElem?_eq_getElem (by omega), h0]
 · exact h0
theorem quiet_drew {P : Program} {f : FuncId} {args : Array Value} {w : World} {n : Nat} {v : Value}
   (h : Calls P f args (w.drewN n) fun e w' => e = .returned v ∧ ∃ q, w' = (w.drewN n).drewN q) : Calls P f args (w.drewN n) fun e w'' => e = .returned v ∧ ∃ m, w'' = w.drewN m :=
 h.mono fun _ _ ⟨he, q, hq⟩ => ⟨he, n + q, by rw [hq]; simp⟩
theorem sum_parts64 (K a w hi lo cy l2 : Nat) (h1 : a / K = hi) (h2 : a % K = lo) (h3 : (lo + w + 0) / K = cy) (h4 : (lo + w + 0) % K = l2) : (hi + cy) * K + l2 = a + w := by
 have e1 := Nat.div_add_mod a K
 have e2 := Nat.div_add_mod (lo + w + 0) K
 rw [h1, h2] at e1
 rw [h3, h4] at e2
 rw [Nat.add_mul, Nat.mul_comm hi, Nat.mul_comm cy]
 omega
def Est (U V q : Nat) : Prop := U / V ≤ q ∧ q ≤ U / V + 1 ∧ q ≤ 1000000000
set_option maxRecDepth 100000 in
set_option maxHeartbeats 2000000 in
theorem estimate_one (A B : Option Addr) (c d h w0 b0 : Nat) (w : World) (hA : VRow w A 1 (nats [w0])) (hB : VRow w B 1 (nats [b0])) (hw : w0 < 1000000000) (hb : b0 < 1000000000) (hb0 : 0 < b0) (hh : h < 1000000000) :
   Calls Tryz.prog 138 #[.int .i64 h, .slice A 1 c, .slice B 1 d] w fun e w' => e = .returned (.int .i64 (((h * 1000000000 + w0) / b0 : Nat) : Int)) ∧ ∃ q, w' = w.drewN q := by
 obtain ⟨ga, oa, rfl, hga, hca⟩ := hA.at_ (show 0 < 1 by omega)
 obtain ⟨gb, ob, rfl, hgb, hcb⟩ := hB.at_ (show 0 < 1 by omega)
 have hca' : w.cell? ⟨ga, oa, none⟩ = some (.int .i64 (w0 : Int)) := hca
 have hcb' : w.cell? ⟨gb, ob, none⟩ = some (.int .i64 (b0 : Int)) := hcb
 clear hca hcb hA hB
 have hb3 : ¬ (b0 : Int) = 0 := by omega
 have hb2 : ((b0 : Int) == 0) = false := beq_eq_false_iff_ne.mpr hb3
 have hq : ((h : Int) * 1000000000 + w0) / (b0 : Int) = (((h * 1000000000 + w0) / b0 : Nat) : Int) := by rw [Int.natCast_ediv, Int.natCast_add, Int.natCast_mul]; rfl
 have HQ := Lib.hid hq
 have hwr : IntKind.i64.wrap ((h : Int) * 1000000000) = (h : Int) * 1000000000 := by rw [IntKind.wrap_i64]; omega
 have hwr2 : IntKind.i64.wrap ((h : Int) * 1000000000 + w0) = (h : Int) * 1000000000 + w0 := by rw [IntKind.wrap_i64]; omega
 have hle := Nat.div_le_self (h * 1000000000 + w0) b0
 have hpos : (0 : Int) ≤ (h : Int) * 1000000000 + w0 := by omega
 have htd : ((h : Int) * 1000000000 + w0).tdiv (b0 : Int) = (((h * 1000000000 + w0) / b0 : Nat) : Int) := by rw [Int.tdiv_eq_ediv_of_nonneg hpos, hq]
 clear hq
 obtain ⟨q0, hq0⟩ : ∃ q0, (h * 1000000000 + w0) / b0 = q0 := ⟨_, rfl⟩
 rw [hq0] at htd hle ⊢
 have hwr3 : IntKind.i64.wrap (q0 : Int) = (q0 : Int) := by rw [IntKind.wrap_i64]; omega
 clear hq0 HQ
 go_enter Tryz.func138, Tryz.ntmps138
 go_wp2
 go_quiet (fail)
 go_wp2
 go_ret
 first | exact ⟨rfl, _, rfl⟩ | (simp only [hwr3]; exact ⟨rfl, _, rfl⟩)
set_option maxRecDepth 100000 in
set_option maxHeartbeats 2000000 in
theorem estimate_core (ga oa gb ob n c d h w1 w0 b1 b0 : Nat) (w : World)
   (hca : w.cell? ⟨ga, oa + (n + 1), none⟩ = some (.int .i64 (w1 : Int))) (hda : w.cell? ⟨ga, oa + n, none⟩ = some (.int .i64 (w0 : Int))) (hcb : w.cell? ⟨gb, ob + (n + 1), none⟩ = some (.int .i64 (b1 : Int))) (hdb : w.cell? ⟨gb, ob + n, none⟩ = some (.int .i64 (b0 : Int)))
   (w1b : w1 < 1000000000) (w0b : w0 < 1000000000) (b1b : b1 < 1000000000) (b0b : b0 < 1000000000) (b1p : 0 < b1) (hn : n ≤ 1048576) (hh : h < 1000000000) :
   Calls Tryz.prog 138 #[.int .i64 h, .slice (some ⟨ga, oa, none⟩) (n + 2) c, .slice (some ⟨gb, ob, none⟩) (n + 2) d] w fun e w' => e = .returned (.int .i64 ((((h * 1000000000 + w1) * 1000000000 + w0) / (b1 * 1000000000 + b0) : Nat) : Int)) ∧ ∃ q, w' = w.drewN q := by
 obtain ⟨x, hx⟩ : ∃ x, h * 1000000000 + w1 = x := ⟨_, rfl⟩
 obtain ⟨y, hy⟩ : ∃ y, b1 * 1000000000 + b0 = y := ⟨_, rfl⟩
 have hxb : x < 1000000000000000000 := by omega
 have hyb : y < 1000000000000000000 := by omega
 have hyn : 1000000000 ≤ y := by omega
 rw [hx, hy]
 obtain ⟨hi, hhi⟩ : ∃ hi, x * 1000000000 / 18446744073709551616 = hi := ⟨_, rfl⟩
 obtain ⟨lo, hlo⟩ : ∃ lo, x * 1000000000 % 18446744073709551616 = lo := ⟨_, rfl⟩
 obtain ⟨cy, hcy⟩ : ∃ cy, (lo + w0 + 0) / 18446744073709551616 = cy := ⟨_, rfl⟩
 obtain ⟨l2, hl2⟩ : ∃ l2, (lo + w0 + 0) % 18446744073709551616 = l2 := ⟨_, rfl⟩
 have hsum : (hi + cy) * 18446744073709551616 + l2 = x * 1000000000 + w0 := sum_parts64 _ _ _ _ _ _ _ hhi hlo hcy hl2
 have hhib : hi + cy < 1000000000 := by omega
 have hl2b : l2 < 18446744073709551616 := by omega
 have hlob : lo < 18446744073709551616 := by omega
 have HX := Lib.hid hx
 have HY := Lib.hid hy
 have hxz : IntKind.u64.wrap ((h : Int) * 1000000000 + w1) = (x : Int) := by rw [IntKind.wrap_u64]; omega
 have hxz2 : (h : Int) * 1000000000 + w1 = (x : Int) := by omega
 have hyz2 : (b1 : Int) * 1000000000 + b0 = (y : Int) := by omega
 have hwr1 : IntKind.i64.wrap ((h : Int) * 1000000000) = (h : Int) * 1000000000 := by rw [IntKind.wrap_i64]; omega
 have hwr2 : IntKind.i64.wrap (x : Int) = (x : Int) := by rw [IntKind.wrap_i64]; omega
 have hwr3 : IntKind.u64.wrap (x : Int) = (x : Int) := by rw [IntKind.wrap_u64]; omega
 have hwr4 : IntKind.i64.wrap ((b1 : Int) * 1000000000) = (b1 : Int) * 1000000000 := by rw [IntKind.wrap_i64]; omega
 have hwr5 : IntKind.i64.wrap (y : Int) = (y : Int) := by rw [IntKind.wrap_i64]; omega
 have hwr6 : IntKind.u64.wrap (y : Int) = (y : Int) := by rw [IntKind.wrap_u64]; omega
 have hwr7 : IntKind.u64.wrap (w0 : Int) = (w0 : Int) := by rw [IntKind.wrap_u64]; omega
 have hwr8 : IntKind.u64.wrap ((hi : Int) + cy) = (hi : Int) + cy := by rw [IntKind.wrap_u64]; omega
 have hn1 : IntKind.i64.wrap ((n : Int) + 2 - 1) = (n : Int) + 1 := by rw [IntKind.wrap_i64]; omega
 have hn2 : IntKind.i64.wrap ((n : Int) + 2 - 2) = (n : Int) := by rw [IntKind.wrap_i64]; omega
 have hne : ((n : Int) + 2 == 1) = false := beq_eq_false_iff_ne.mpr (by omega)
 have hadd : ∀ W : World, (callFunc 143 #[.int .u64 (lo : Int), .int .u64 (w0 : Int), .int .u64 0]).run Tryz.prog W = .ok (.value (.tuple #[.int .u64 (l2 : Int), .int .u64 (cy : Int)])) W := by
   intro W
   have h := add64_run lo w0 0 (by omega) W
   rw [hcy, hl2] at h
   exact h
 have hq : ((hi + cy) * 18446744073709551616 + l2) / y = (x * 1000000000 + w0) / y := by rw [hsum]
 have hqb : (x * 1000000000 + w0) / y ≤ 1000000000000000000 := by
   rw [Nat.div_le_iff_le_mul_add_pred (by omega)]
   have : 1000000000 * 1000000000000000000 ≤ y * 1000000000000000000 := Nat.mul_le_mul_right _ hyn
   omega
 obtain ⟨qq, hqq⟩ : ∃ qq, (x * 1000000000 + w0) / y = qq := ⟨_, rfl⟩
 rw [hqq] at hqb hq ⊢
 have HQ := Lib.hid hq
 have hwr9 : IntKind.i64.wrap (qq : Int) = (qq : Int) := by rw [IntKind.wrap_i64]; omega
 have HHI := Lib.hid hhi
 have HLO := Lib.hid hlo
 clear hcy hl2 hx hy hsum hq hqq hhi hlo
 obtain ⟨rm, hrm⟩ : ∃ rm, ((hi + cy) * 18446744073709551616 + l2) % y = rm := ⟨_, rfl⟩
 have hdiv : ∀ W : World, Calls Tryz.prog 144 #[.int .u64 ((hi : Int) + cy), .int .u64 (l2 : Int), .int .u64 (y : Int)] W fun e w' => e = .returned (.tuple #[.int .u64 (qq : Int), .int .u64 (rm : Int)]) ∧ ∃ q, w' = W.drewN q := by
   intro W
   have h := div64_any (hi + cy) l2 y W (by omega) (by omega) hl2b
   rw [HQ.out, hrm] at h
   exact h
 have HDIV := Lib.hid hdiv
 clear hdiv hrm
 go_enter Tryz.func138, Tryz.ntmps138
 go_wp2_with fail
 refine (Tryz.bits_Mul64 x 1000000000 (by omega) (by omega) _).mono ?_
 rintro e wm ⟨rfl, rfl⟩
 rw [HHI.out, HLO.out]
 go_wp2
 go_quiet ((go_at_call 144; refine quiet_drew (HDIV.out _)))
 go_wp2
 go_ret
 first | exact ⟨rfl, _, rfl⟩ | (simp only [hwr9]; exact ⟨rfl, _, rfl⟩)
theorem estimate_any (A B : Option Addr) (n c d h : Nat) (ws bs : List Nat) (w : World) (hA : VRow w A n (nats ws)) (hB : VRow w B n (nats bs)) (hws : Digs ws) (hbs : Canon bs) (hn0 : 0 < n) (hn : n ≤ 1048576) (hh : h < 1000000000) (hlt : val ws + 1000000000 ^ n * h < 1000000000 * val bs) :
   Calls Tryz.prog 138 #[.int .i64 h, .slice A n c, .slice B n d] w fun e w' => ∃ q : Nat, e = .returned (.int .i64 q) ∧ Est (val ws + 1000000000 ^ n * h) (val bs) q ∧ ∃ k, w' = w.drewN k := by
 have hwl : ws.length = n := by simpa [nats_len] using hA.1
 have hbl : bs.length = n := by simpa [nats_len] using hB.1
 by_cases h1 : n = 1
 · subst h1
   obtain ⟨w0, rfl⟩ : ∃ w0, ws = [w0] := List.length_eq_one_iff.mp hwl
   obtain ⟨b0, rfl⟩ : ∃ b0, bs = [b0] := List.length_eq_one_iff.mp hbl
   have hb0 := canon_top hbs 0 rfl
   simp only [List.getElem_cons_zero] at hb0
   refine (estimate_one A B c d h w0 b0 w hA hB (hws w0 (by simp)) (hbs.1 b0 (by simp)) hb0 hh).mono fun e w' ⟨h1, h2⟩ => ⟨_, h1, ?_, h2⟩
   have e1 : val [w0] + 1000000000 ^ 1 * h = h * 1000000000 + w0 := by simp [val]; omega
   have e2 : val [b0] = b0 := by simp [val]
   rw [e1, e2] at hlt ⊢
   refine ⟨Nat.le_refl _, Nat.le_succ _, ?_⟩
   have : (h * 1000000000 + w0) / b0 < 1000000000 := by rw [Nat.div_lt_iff_lt_mul hb0]; exact hlt
   omega
 · obtain ⟨m, rfl⟩ : ∃ m, n = m + 2 := ⟨n - 2, by omega⟩
   obtain ⟨ga, oa, rfl, hga, hca⟩ := hA.at_ (show m + 1 < m + 2 by omega)
   obtain ⟨gb, ob, rfl, hgb, hcb⟩ := hB.at_ (show m + 1 < m + 2 by omega)
   obtain ⟨ga2, oa2, ea, hga2, hda⟩ := hA.at_ (show m < m + 2 by omega)
   obtain ⟨gb2, ob2, eb, hgb2, hdb⟩ := hB.at_ (show m < m + 2 by omega)
   obtain ⟨rfl, rfl⟩ : ga = ga2 ∧ oa = oa2 := by simpa using ea
   obtain ⟨rfl, rfl⟩ : gb = gb2 ∧ ob = ob2 := by simpa using eb
   rw [nats_get] at hca hcb hda hdb
   refine (estimate_core ga oa gb ob m c d h _ _ _ _ w hca hda hcb hdb (hws.get (by omega)) (hws.get (by omega)) (hbs.1.get (by omega)) (hbs.1.get (by omega)) (canon_top hbs (m + 1) hbl) (by omega) hh).mono fun e w' ⟨h1, h2⟩ => ⟨_, h1, ?_, h2⟩
   have t1 := val_top2 ws m hwl
   have t2 := val_top2 bs m hbl
   have l1 := val_lt (hws.take m)
   have l2 := val_lt (hbs.1.take m)
   rw [List.length_take, Nat.min_eq_left (by omega)] at l1 l2
   have hbp := canon_top hbs (m + 1) hbl
   have e1 : val ws + 1000000000 ^ (m + 2) * h = val (ws.take m) + 1000000000 ^ m * ((h * 1000000000 + ws[m + 1]'(by omega)) * 1000000000 + ws[m]'(by omega)) := by
     rw [t1, Nat.pow_add, Nat.mul_assoc, Nat.add_assoc, ← Nat.mul_add]
     congr 2
     omega
   have e2 : val bs = val (bs.take m) + 1000000000 ^ m * (bs[m + 1]'(by omega) * 1000000000 + bs[m]'(by omega)) := by
     rw [t2]
     congr 2
     omega
   rw [e1, e2] at hlt ⊢
   exact est_bounds 1000000000 _ _ _ _ _ l1 l2 (by omega) (by decide) hlt
end Go.Proofs.YtaboodioabopnaaGreat
namespace Go.Proofs.YtaboodioabopnaaGreat
open Go.RowKit Nt
set_option linter.unusedVariables false
theorem uniq_mod {K x y a b : Nat} (hx : x < K) (hy : y < K) (h : x + K * a = y + K * b) : x = y := by
 have e := congrArg (· % K) h
 simp only [Nat.add_mul_mod_self_left, Nat.mod_eq_of_lt hx, Nat.mod_eq_of_lt hy] at e
 exact e
theorem vs_lt (g : Nat → Nat) (m : Nat) (h : Digs ((List.range m).map g)) : vs g m < 1000000000 ^ m := by
 have h1 := val_lt h
 rw [vs_range, List.length_map, List.length_range] at h1
 exact h1
theorem red_right (ws bs : List Nat) (m h q : Nat) (hwl : ws.length = m) (hbl : bs.length = m) (hws : Digs ws) (hbs : Digs bs) (hV : 0 < val bs) (he : Est (val ws + 1000000000 ^ m * h) (val bs) q) (hle : bor ws bs q m ≤ h) :
   q = (val ws + 1000000000 ^ m * h) / val bs ∧ vs (difAt ws bs q) m = (val ws + 1000000000 ^ m * h) % val bs := by
 have hs := bor_sum ws bs q m
 rw [List.take_of_length_le (show bs.length ≤ m by omega), List.take_of_length_le (show ws.length ≤ m by omega)] at hs
 have hVK : val bs < 1000000000 ^ m := by have := val_lt hbs; rwa [hbl] at this
 have hF := vs_lt _ m (difAt_digs ws bs q m hws)
 have hK := pow_pos m
 obtain ⟨h1, _, _⟩ := he
 have hdm := Nat.div_add_mod (val ws + 1000000000 ^ m * h) (val bs)
 have hml := Nat.mod_lt (val ws + 1000000000 ^ m * h) hV
 have hKb : 1000000000 ^ m * bor ws bs q m ≤ 1000000000 ^ m * h := Nat.mul_le_mul_left _ hle
 have hq : q = (val ws + 1000000000 ^ m * h) / val bs := by
   apply Nat.le_antisymm _ h1
   rw [Nat.le_div_iff_mul_le hV]
   omega
 refine ⟨hq, ?_⟩
 rw [← hq] at hdm
 refine uniq_mod (K := 1000000000 ^ m) (a := h) (b := bor ws bs q m) hF (Nat.lt_trans hml hVK) ?_
 rw [Nat.mul_comm (val bs) q] at hdm
 omega
theorem red_wrong (ws bs : List Nat) (m h q : Nat) (hwl : ws.length = m) (hbl : bs.length = m) (hws : Digs ws) (hbs : Digs bs) (hV : 0 < val bs) (he : Est (val ws + 1000000000 ^ m * h) (val bs) q) (hgt : h < bor ws bs q m) :
   0 < q ∧ q - 1 = (val ws + 1000000000 ^ m * h) / val bs ∧ vs (sumAt ((List.range m).map (difAt ws bs q)) bs 1) m = (val ws + 1000000000 ^ m * h) % val bs := by
 have hs := bor_sum ws bs q m
 rw [List.take_of_length_le (show bs.length ≤ m by omega), List.take_of_length_le (show ws.length ≤ m by omega)] at hs
 have hVK : val bs < 1000000000 ^ m := by have := val_lt hbs; rwa [hbl] at this
 have hF := vs_lt _ m (difAt_digs ws bs q m hws)
 have hG := vs_lt _ m (sumAt_digs ((List.range m).map (difAt ws bs q)) bs 1 m)
 have hc := car_sum ((List.range m).map (difAt ws bs q)) bs 1 m
 rw [List.take_of_length_le (show bs.length ≤ m by omega), List.take_of_length_le (by simp), vs_range, Nat.one_mul] at hc
 obtain ⟨h1, h2, _⟩ := he
 have hdm := Nat.div_add_mod (val ws + 1000000000 ^ m * h) (val bs)
 have hml := Nat.mod_lt (val ws + 1000000000 ^ m * h) hV
 have hKb : 1000000000 ^ m * (h + 1) ≤ 1000000000 ^ m * bor ws bs q m := Nat.mul_le_mul_left _ hgt
 rw [Nat.mul_add, Nat.mul_one] at hKb
 generalize vs (difAt ws bs q) m = f at *
 generalize vs (sumAt ((List.range m).map (difAt ws bs q)) bs 1) m = s at *
 generalize car ((List.range m).map (difAt ws bs q)) bs 1 m = cc at *
 generalize bor ws bs q m = bo at *
 generalize 1000000000 ^ m = K at *
 have hgtq : (val ws + K * h) / val bs < q := by rw [Nat.div_lt_iff_lt_mul hV]; omega
 have hqe : q = (val ws + K * h) / val bs + 1 := by
   apply Nat.le_antisymm h2 hgtq
 have hq0 : 0 < q := Nat.lt_of_le_of_lt (Nat.zero_le _) hgtq
 have hq1 : q - 1 = (val ws + K * h) / val bs := by rw [hqe]; rfl
 refine ⟨hq0, hq1, ?_⟩
 rw [← hq1] at hdm
 have hqV : q * val bs = val bs * (q - 1) + val bs := by
   obtain ⟨p, rfl⟩ : ∃ p, q = p + 1 := ⟨q - 1, by omega⟩
   rw [Nat.add_mul, Nat.one_mul, Nat.add_sub_cancel, Nat.mul_comm]
 have hbh : K * bo = K * (bo - h) + K * h := by rw [← Nat.mul_add]; congr 1; omega
 refine uniq_mod (K := K) (a := cc) (b := bo - h) hG (Nat.lt_trans hml hVK) ?_
 omega
theorem upd_take (Y : List Nat) (o k : Nat) (F : Nat → Nat) (h : o + k ≤ Y.length) : (upd Y o k F).take o = Y.take o := by
 unfold upd
 rw [List.take_left' (by simp; omega)]
theorem upd_upd (Y : List Nat) (o k : Nat) (F G : Nat → Nat) (h : o + k ≤ Y.length) : upd (upd Y o k F) o k G = upd Y o k G := by
 show (upd Y o k F).take o ++ ((List.range k).map G ++ (upd Y o k F).drop (o + k)) = _
 rw [upd_take Y o k F h, drop_upd Y o k F h]
 rfl
theorem upd_win (Y : List Nat) (o k : Nat) (F : Nat → Nat) (h : o + k ≤ Y.length) : ((upd Y o k F).drop o).take k = (List.range k).map F := by
 unfold upd
 rw [List.drop_left' (by simp; omega), List.take_left' (by simp)]
structure Red (Y R QS : List Nat) (V k L m h : Nat) : Prop where
 len : R.length = Y.length
 digs : Digs R
 low : R.take k = Y.take k
 rem : val ((R.drop k).take (m - 1)) + 1000000000 ^ (m - 1) * h < V
 eqn : val ((Y.take L).drop k) = V * val QS + (val ((R.drop k).take (m - 1)) + 1000000000 ^ (m - 1) * h)
 qd : Digs QS
 ql : QS.length + k = L - m + 1
 hb : h < 1000000000
 top : k = L - m + 1 ∨ (k ≤ L - m ∧ h = R.getD (k + m - 1) 0)
theorem red_start (Y bs : List Nat) (L m : Nat) (hY : Digs Y) (hL : L ≤ Y.length) (hm : 0 < m) (hmL : m ≤ L) (hbl : bs.length = m) (hbs : Canon bs) : Red Y Y [] (val bs) (L - m + 1) L m 0 := by
 have e : (Y.take L).drop (L - m + 1) = (Y.drop (L - m + 1)).take (m - 1) := by
   rw [List.drop_take]
   congr 1
   omega
 refine ⟨rfl, hY, rfl, ?_, ?_, Digs.nil, by simp, by decide, .inl rfl⟩
 · have h1 := val_lt ((hY.drop (L - m + 1)).take (m - 1))
   have h2 := can_pos hbs (by omega)
   have h3 : ((Y.drop (L - m + 1)).take (m - 1)).length = m - 1 := by simp; omega
   rw [h3] at h1
   rw [hbl] at h2
   omega
 · rw [e]; simp [val]
theorem red_window {Y R QS : List Nat} {V i L m h : Nat} (r : Red Y R QS V (i + 1) L m h) (hm : 0 < m) (hmL : m ≤ L) (hL : L ≤ Y.length) :
   ((R.drop i).take m).length = m ∧ Digs ((R.drop i).take m) ∧ ∃ y, Y.getD i 0 = y ∧ y < 1000000000 ∧ val ((R.drop i).take m) + 1000000000 ^ m * h = y + 1000000000 * (val ((R.drop (i + 1)).take (m - 1)) + 1000000000 ^ (m - 1) * h) ∧ val ((Y.take L).drop i) = y + 1000000000 * val ((Y.take L).drop (i + 1)) := by
 have hq := r.ql
 have hl := r.len
 have hiR : i < R.length := by omega
 have hiY : i < Y.length := by omega
 have hyR : R[i] = Y[i] := by
   have h1 : (R.take (i + 1))[i]? = (Y.take (i + 1))[i]? := by rw [r.low]
   rw [List.getElem?_take_of_lt (by omega), List.getElem?_take_of_lt (by omega), List.getElem?_eq_getElem hiR, List.getElem?_eq_getElem hiY] at h1
   simpa using h1
 obtain ⟨p, rfl⟩ : ∃ p, m = p + 1 := ⟨m - 1, by omega⟩
 refine ⟨by simp; omega, (r.digs.drop i).take _, Y[i], by simp [hiY], by rw [← hyR]; exact r.digs.get hiR, ?_, ?_⟩
 · rw [List.drop_eq_getElem_cons hiR, List.take_succ_cons, val, hyR, Nat.add_sub_cancel, Nat.pow_succ]
   generalize val ((R.drop (i + 1)).take p) = a
   generalize 1000000000 ^ p = b
   have : b * 1000000000 * h = 1000000000 * (b * h) := by rw [Nat.mul_comm b, Nat.mul_assoc]
   omega
 · have hit : i < (Y.take L).length := by simp; omega
   rw [val_drop_succ (Y.take L) i hit, List.getElem_take]
theorem red_next {Y R QS : List Nat} {V i L m h : Nat} (r : Red Y R QS V (i + 1) L m h) (hm : 0 < m) (hmL : m ≤ L) (hL : L ≤ Y.length) (hV : 0 < V) (hVm : V < 1000000000 ^ m) (G : Nat → Nat) (q : Nat) (hG : Digs ((List.range m).map G))
   (hq : q = (val ((R.drop i).take m) + 1000000000 ^ m * h) / V) (hv : vs G m = (val ((R.drop i).take m) + 1000000000 ^ m * h) % V) :
   Red Y (upd R i m G) (q :: QS) V i L m ((upd R i m G).getD (i + m - 1) 0) ∧ q < 1000000000 ∧ val ((R.drop i).take m) + 1000000000 ^ m * h < 1000000000 * V := by
 obtain ⟨hwl, hwd, y, hy, hyb, hU, hYi⟩ := red_window r hm hmL hL
 have hql := r.ql
 have hlen := r.len
 have him : i + m ≤ R.length := by omega
 have hrem := r.rem
 have hUlt : val ((R.drop i).take m) + 1000000000 ^ m * h < 1000000000 * V := by rw [hU]; omega
 have hqb : q < 1000000000 := by rw [hq, Nat.div_lt_iff_lt_mul hV]; exact hUlt
 have hul := upd_len R i m G him
 have hw := upd_win R i m G him
 have hdm := Nat.div_add_mod (val ((R.drop i).take m) + 1000000000 ^ m * h) V
 have hml := Nat.mod_lt (val ((R.drop i).take m) + 1000000000 ^ m * h) hV
 rw [← hq, ← hv] at hdm
 rw [← hv] at hml
 have hval : val (((upd R i m G).drop i).take (m - 1)) + 1000000000 ^ (m - 1) * (upd R i m G).getD (i + m - 1) 0 = vs G m := by
   rw [← vs_range, ← hw]
   obtain ⟨p, rfl⟩ : ∃ p, m = p + 1 := ⟨m - 1, by omega⟩
   have hpl : p < ((upd R i (p + 1) G).drop i).length := by rw [List.length_drop, hul]; omega
   rw [val_take_succ _ _ hpl, Nat.add_sub_cancel, List.getElem_drop]
   congr 2
   have : i + (p + 1) - 1 = i + p := by omega
   rw [this]
   simp [List.getD, List.getElem?_eq_getElem (show i + p < (upd R i (p + 1) G).length by omega)]
 refine ⟨⟨hul.trans hlen, digs_upd r.digs hG, ?_, ?_, ?_, ?_, by simp; omega, ?_, ?_⟩, hqb, hUlt⟩
 · rw [upd_take R i m G him]
   have h1 := congrArg (List.take i) r.low
   rw [List.take_take, List.take_take, Nat.min_eq_left (by omega)] at h1
   exact h1
 · rw [hval]; exact hml
 · rw [hval, hYi, r.eqn, val]
   rw [hU] at hdm
   rw [Nat.mul_add V]
   have e1 : V * (1000000000 * val QS) = 1000000000 * (V * val QS) := by rw [← Nat.mul_assoc, Nat.mul_comm V, Nat.mul_assoc]
   rw [e1]
   omega
 · intro d hd
   rcases List.mem_cons.mp hd with rfl | hd
   · exact hqb
   · exact r.qd d hd
 · exact (digs_upd r.digs hG).getD _
 · exact .inr ⟨by omega, rfl⟩
theorem red_end {Y R QS : List Nat} {V L m h : Nat} (r : Red Y R QS V 0 L m h) (hm : 0 < m) (hmL : m ≤ L) (hL : L ≤ Y.length) : val QS = val (Y.take L) / V ∧ val (R.take m) = val (Y.take L) % V ∧ QS.length = L - m + 1 := by
 have hlen := r.len
 have hh : h = R.getD (m - 1) 0 := by
   rcases r.top with h1 | ⟨_, h1⟩
   · omega
   · rw [h1]; congr 1; omega
 obtain ⟨p, rfl⟩ : ∃ p, m = p + 1 := ⟨m - 1, by omega⟩
 have hpl : p < R.length := by omega
 have e : val (R.take (p + 1)) = val (R.take p) + 1000000000 ^ p * h := by
   rw [val_take_succ R p hpl, hh, Nat.add_sub_cancel]
   simp [List.getD, List.getElem?_eq_getElem hpl]
 have hr := r.rem
 have he := r.eqn
 simp only [List.drop_zero, Nat.add_sub_cancel] at hr he
 rw [← e] at hr he
 have hV : 0 < V := Nat.lt_of_le_of_lt (Nat.zero_le _) hr
 rw [he]
 refine ⟨?_, ?_, by have := r.ql; omega⟩
 · rw [Nat.mul_add_div hV, Nat.div_eq_of_lt hr, Nat.add_zero]
 · rw [Nat.mul_add_mod, Nat.mod_eq_of_lt hr]
end Go.Proofs.YtaboodioabopnaaGreat
namespace Go.Proofs.YtaboodioabopnaaGreat
open Go.RowKit Nt
set_option linter.unusedVariables false
structure Leaves (w w' : World) (g1 g2 : Nat) : Prop where
 os : w'.os = w.os
 tape : w'.tape = w.tape
 output : w'.output = w.output
 size : w.heap.size ≤ w'.heap.size
 block : ∀ k, k < w.heap.size → k ≠ g1 → k ≠ g2 → w'.heap[k]? = w.heap[k]?
section
variable {w w' w2 : World} {g1 g2 : Nat}
theorem Leaves.refl (w : World) (g1 g2 : Nat) : Leaves w w g1 g2 := ⟨rfl, rfl, rfl, Nat.le_refl _, fun _ _ _ _ => rfl⟩
theorem Leaves.drewN (h : Leaves w w' g1 g2) (k : Nat) : Leaves w (w'.drewN k) g1 g2 := ⟨h.os, h.tape, h.output, h.size, h.block⟩
theorem Leaves.grown1 (h : Leaves w w' g1 g2) (hg : w'.grownBy w2 (some g1)) : Leaves w w2 g1 g2 :=
 ⟨hg.os.trans h.os, hg.tape.trans h.tape, hg.output.trans h.output, Nat.le_trans h.size hg.size, fun k hk n1 n2 => (hg.block k (Nat.lt_of_lt_of_le hk h.size) (by simpa using n1)).trans (h.block k hk n1 n2)⟩
theorem Leaves.grown2 (h : Leaves w w' g1 g2) (hg : w'.grownBy w2 (some g2)) : Leaves w w2 g1 g2 :=
 ⟨hg.os.trans h.os, hg.tape.trans h.tape, hg.output.trans h.output, Nat.le_trans h.size hg.size, fun k hk n1 n2 => (hg.block k (Nat.lt_of_lt_of_le hk h.size) (by simpa using n2)).trans (h.block k hk n1 n2)⟩
theorem Leaves.below {B : Nat} {a : World} (h : Leaves w w' g1 g2) (hb : Below B a w) (hB : B ≤ w.heap.size) (h1 : B ≤ g1) (h2 : B ≤ g2) : Below B a w' :=
 ⟨h.os.trans hb.os, h.tape.trans hb.tape, h.output.trans hb.output, Nat.le_trans hb.size h.size, fun k hk => (h.block k (Nat.lt_of_lt_of_le hk hB) (by omega) (by omega)).trans (hb.block k hk)⟩
theorem VRow.leaves {A : Option Addr} {n : Nat} {xs : List Value} (h : VRow w A n xs) (hl : Leaves w w' g1 g2) (hne : 0 < n → ∀ a : Addr, A = some a → a.block ≠ g1 ∧ a.block ≠ g2) : VRow w' A n xs := by
 refine ⟨h.1, fun hn => ?_⟩
 obtain ⟨g, o, rfl, hlt, hc⟩ := h.2 hn
 have h2 := hne hn _ rfl
 refine ⟨g, o, rfl, Nat.lt_of_lt_of_le hlt hl.size, fun k hk => ?_⟩
 rw [World.cell?_of_block (w := w) (a := ⟨g, o + k, none⟩) (hl.block g hlt h2.1 h2.2)]
 exact hc k hk
theorem Whole.leaves {base g : Nat} {e : TypeId} {ys : List Value} (h : Whole w base g e ys) (hl : Leaves w w' g1 g2) (h1 : g ≠ g1) (h2 : g ≠ g2) : Whole w' base g e ys :=
 whole_of h.lt.1 ((hl.block g h.lt.2 h1 h2).trans (whole_heap h)) h.len_le
end
def qrow (Z QS : List Nat) (k : Nat) : List Nat := Z.take k ++ (QS ++ Z.drop (k + QS.length))
theorem qrow_len (Z QS : List Nat) (k : Nat) (h : k + QS.length ≤ Z.length) : (qrow Z QS k).length = Z.length := by simp [qrow]; omega
theorem qrow_nil (Z : List Nat) (k : Nat) : qrow Z [] k = Z := by simp [qrow]
theorem qrow_set (Z QS : List Nat) (i q : Nat) (h : i + 1 + QS.length ≤ Z.length) : (qrow Z QS (i + 1)).set i q = qrow Z (q :: QS) i := by
 unfold qrow
 rw [List.set_append_left _ _ (by simp; omega), List.take_add_one, List.getElem?_eq_getElem (by omega), Option.toList_some, List.set_append_right _ _ (by simp; omega)]
 have e : i - (Z.take i).length = 0 := by simp; omega
 rw [e]
 simp [List.append_assoc]
 congr 1
 omega
set_option maxRecDepth 100000 in
set_option maxHeartbeats 4000000 in
theorem reduceRow_any (gr gq L c nq cq m d base : Nat) (Y Z bs : List Nat) (B : Option Addr) (w : World)
   (hY : Whole w base gr 3 (nats Y)) (hZ : Whole w base gq 3 (nats Z)) (hB : VRow w B m (nats bs)) (hBr : ∀ a : Addr, B = some a → a.block ≠ gr ∧ a.block ≠ gq) (hrq : gr ≠ gq)
   (hYd : Digs Y) (hYc : Canon (Y.take L)) (hbs : Canon bs) (hL : L ≤ c) (hcY : c ≤ Y.length) (hm : 0 < m) (hq : L ≤ nq) (hqZ : nq ≤ Z.length) (hn : Y.length ≤ 1048576) (hm2 : m ≤ 1048576) :
   Calls Tryz.prog 120 #[.slice (some ⟨gr, 0, none⟩) L c, .slice B m d, .slice (some ⟨gq, 0, none⟩) nq cq] w fun e w' => ∃ r rc : Nat, ∃ R QS : List Nat,
     e = .returned (.slice (some ⟨gr, 0, none⟩) r rc) ∧ r = (dig (val (Y.take L) % val bs)).length ∧ r ≤ rc ∧ rc ≤ R.length ∧ R.length = Y.length ∧ Digs R ∧ R.take r = dig (val (Y.take L) % val bs) ∧ Whole w' base gr 3 (nats R) ∧
     Whole w' base gq 3 (nats (qrow Z QS 0)) ∧ QS.length ≤ L ∧ Digs QS ∧ val QS = val (Y.take L) / val bs ∧ Leaves w w' gr gq := by
 have HBL := Lib.hid (show bs.length = m by simpa [nats_len] using hB.1)
 have hV : 0 < val bs := by
   have := can_pos hbs (by have := HBL.out; omega)
   have := pow_pos (bs.length - 1)
   omega
 have HV := Lib.hid hV
 have HVm := Lib.hid (show val bs < 1000000000 ^ m by have := val_lt hbs.1; rwa [HBL.out] at this)
 have HYC := Lib.hid hYc
 have HYD := Lib.hid hYd
 have HBS := Lib.hid hbs
 have HY := Lib.hid hY
 have HZ := Lib.hid hZ
 have HB := Lib.hid hB
 have HBR := Lib.hid hBr
 clear hV hYc hYd hbs hY hZ hB hBr
 by_cases hlt : L < m
 · have hl : (Y.take L).length = L := by simp; omega
   have hvl := val_lt_len HYC.out.1 HBS.out (by rw [hl, HBL.out]; exact hlt)
   have HMOD := Lib.hid (Nat.mod_eq_of_lt hvl)
   have HDIV := Lib.hid (Nat.div_eq_of_lt hvl)
   have HDG := Lib.hid (dig_of_can HYC.out)
   have HTL := Lib.hid hl
   clear hvl hl
   go_enter Tryz.func120, Tryz.ntmps120
   go_wp2
   go_ret
   refine ⟨L, c, Y, [], rfl, ?_, hL, hcY, rfl, HYD.out, ?_, HY.out, ?_, Nat.zero_le _, Digs.nil, ?_, Leaves.refl _ _ _⟩
   · rw [HMOD.out, HDG.out, HTL.out]
   · rw [HMOD.out, HDG.out]
   · rw [qrow_nil]; exact HZ.out
   · rw [HDIV.out]; rfl
 · go_enter Tryz.func120, Tryz.ntmps120
   go_wp2
   go_loopw [8, 9] (fun a i wr => ∃ (k h : Nat) (R QS : List Nat), k ≤ L - m + 1 ∧ i = .int .i64 ((k : Int) - 1) ∧ a = .int .i64 h ∧ Red Y R QS (val bs) k L m h ∧ Whole wr base gr 3 (nats R) ∧ Whole wr base gq 3 (nats (qrow Z QS k)) ∧ Leaves w wr gr gq) (fun _ i _ => (intOf i + 1).toNat)
   case atStart => exact ⟨L - m + 1, 0, Y, [], Nat.le_refl _, by go_num, rfl, red_start Y bs L m HYD.out (by omega) hm (by omega) HBL.out HBS.out, HY.out, by rw [qrow_nil]; exact HZ.out, Leaves.refl _ _ _⟩
   case round =>
     obtain ⟨k, h, R, QS, hk, rfl, rfl, hred, hwr, hwq, hlv⟩ := hrel
     have HRED := Lib.hid hred
     have HWR := Lib.hid hwr
     have HWQ := Lib.hid hwq
     have HLV := Lib.hid hlv
     have hRl : R.length = Y.length := hred.len
     have hhb := hred.hb
     clear hred hwr hwq hlv
     by_cases h0 : k = 0
     · subst h0
       have HEND := Lib.hid (red_end HRED.out hm (by omega) (by omega))
       have HRD := Lib.hid HRED.out.digs
       have hrow : VRow wr (some ⟨gr, 0, none⟩) m (nats (R.take m)) := by
         have hh := HWR.out.row 0 m (by rw [nats_len]; omega)
         rwa [List.drop_zero, nats_take] at hh
       have HROW := Lib.hid hrow
       clear hrow
       go_wp2_with fail
       refine (trimmed_any _ m m (R.take m) _ HROW.out (HRD.out.take m) (Nat.le_refl _) (by unfold maxLen; omega) (fun hh => by simp at hh)).mono ?_
       rintro e w1 ⟨rfl, rfl⟩
       have hdl : (dig (val (R.take m))).length ≤ m := Nat.le_trans (dig_le_len (HRD.out.take m)) (by simp; omega)
       have htk := take_dig (HRD.out.take m)
       rw [List.take_take, Nat.min_eq_left hdl] at htk
       rw [HEND.out.2.1] at hdl htk ⊢
       have HTK := Lib.hid htk
       clear htk
       go_wp2
       go_ret
       refine ⟨_, _, R, QS, rfl, rfl, Nat.le_refl _, by omega, hRl, HRD.out, HTK.out, HWR.out, HWQ.out, by have := HEND.out.2.2; omega, HRED.out.qd, HEND.out.1, HLV.out⟩
     · obtain ⟨i, rfl⟩ : ∃ i, k = i + 1 := ⟨k - 1, by omega⟩
       have hwi : ((i + 1 : Nat) : Int) - 1 = (i : Int) := by omega
       rw [hwi]
       clear hwi
       obtain ⟨hwl, hwd, y, hy1, hyb, hU, hy2⟩ := red_window HRED.out hm (by omega) (by omega)
       have hUlt : val ((R.drop i).take m) + 1000000000 ^ m * h < 1000000000 * val bs := by rw [hU]; have := HRED.out.rem; omega
       have HWL := Lib.hid hwl
       have HWD := Lib.hid hwd
       have HUL := Lib.hid hUlt
       have hrow : VRow wr (some ⟨gr, i, none⟩) m (nats ((R.drop i).take m)) := by
         have hh := HWR.out.row i m (by rw [nats_len]; omega)
         rwa [nats_drop, nats_take] at hh
       have HROW := Lib.hid hrow
       have HBB := Lib.hid (HB.out.leaves HLV.out (fun _ => HBR.out))
       clear hwl hwd hUlt hU hrow hyb hy2 hy1
       have hic : i + m ≤ c := by omega
       have hicz : (i : Int) + (m : Int) ≤ (c : Int) := by omega
       go_wp2_with fail
       rw [show i + m - i = m by omega]
       refine (estimate_any _ _ m _ _ h _ bs _ HROW.out HBB.out HWD.out HBS.out hm (by omega) hhb HUL.out).mono ?_
       rintro e w2 ⟨q, rfl, hest, k2, rfl⟩
       have HEST := Lib.hid hest
       have hqb : q ≤ 1000000000 := hest.2.2
       clear hest
       go_wp2_with fail
       refine (subtractTimes_any gr i m _ base R _ m d bs q _ (by first | rfl | omega) _ (HWR.out.drewN k2) (by omega) HRED.out.digs (HBB.out.drewN k2) (fun _ a ha => (HBR.out a ha).1) HBS.out.1 hqb (by omega) (by omega)).mono ?_
       rintro e w3 ⟨rfl, hw3, hg3⟩
       have HW3 := Lib.hid hw3
       have HLV3 := Lib.hid ((HLV.out.drewN k2).grown1 hg3)
       have HQ3 := Lib.hid ((HWQ.out.drewN k2).kept hg3 (by simp; exact fun e => hrq e.symm))
       clear hw3 hg3
       obtain ⟨ws, hws⟩ : ∃ ws, (R.drop i).take m = ws := ⟨_, rfl⟩
       have hRR := red_right ws bs m h q (by rw [← hws]; exact HWL.out) HBL.out (by rw [← hws]; exact HWD.out) HBS.out.1 HV.out (by rw [← hws]; exact HEST.out)
       have hRW := red_wrong ws bs m h q (by rw [← hws]; exact HWL.out) HBL.out (by rw [← hws]; exact HWD.out) HBS.out.1 HV.out (by rw [← hws]; exact HEST.out)
       have HNEXT := Lib.hid (fun G q hG => red_next (i := i) HRED.out hm (by omega) (by omega) HV.out HVm.out G q hG)
       rw [hws] at HW3 HNEXT ⊢
       have HWSD := Lib.hid (show Digs ws by rw [← hws]; exact HWD.out)
       clear hws
       have hbob := bor_le ws bs q m HBS.out.1 hqb
       by_cases hgt : h < bor ws bs q m
       · have HW := Lib.hid (hRW hgt)
         have hq0 := HW.out.1
         have hgtz : (h : Int) < ((bor ws bs q m : Nat) : Int) := by omega
         clear hRR hRW
         obtain ⟨bo, hbo⟩ : ∃ bo, bor ws bs q m = bo := ⟨_, rfl⟩
         rw [hbo] at hgtz hbob ⊢
         clear hbo hgt
         have hul := upd_len R i m (difAt ws bs q) (by omega)
         have HUD := Lib.hid (digs_upd (o := i) HRED.out.digs (difAt_digs ws bs q m HWSD.out))
         go_wp2_with fail
         refine (addTimes_any gr i m _ base (upd R i m (difAt ws bs q)) _ m d bs 1 _ (by first | rfl | omega) _ HW3.out (by omega) HUD.out ((HB.out.leaves HLV3.out (fun _ => HBR.out))) (fun _ a ha => (HBR.out a ha).1) HBS.out.1 (by omega) (by omega) (by omega)).mono ?_
         rintro e w4 ⟨rfl, hw4, hg4⟩
         rw [upd_win R i m _ (by omega), upd_upd _ _ _ _ _ (by omega)] at hw4
         have HW4 := Lib.hid hw4
         have HLV4 := Lib.hid (HLV3.out.grown1 hg4)
         have HQ4 := Lib.hid (HQ3.out.kept hg4 (by simp; exact fun e => hrq e.symm))
         clear hw4 hg4 hul
         have HND := Lib.hid (HNEXT.out _ _ (sumAt_digs _ _ _ _) HW.out.2.1 HW.out.2.2)
         have hulen : (upd R i m (sumAt ((List.range m).map (difAt ws bs q)) bs 1)).length = Y.length := HND.out.1.len
         have hcellr : w4.cell? ⟨gr, i + (m - 1), none⟩ = some (.int .i64 (((upd R i m (sumAt ((List.range m).map (difAt ws bs q)) bs 1)).getD (i + m - 1) 0 : Nat) : Int)) := by
           rw [HW4.out.cell (i + (m - 1)) (by rw [nats_len]; omega), nats_get]
           congr 3
           have e : i + m - 1 = i + (m - 1) := by omega
           rw [e]
           simp [List.getD, List.getElem?_eq_getElem (show i + (m - 1) < (upd R i m (sumAt ((List.range m).map (difAt ws bs q)) bs 1)).length by omega)]
         have hqz : i < (qrow Z QS (i + 1)).length := by rw [qrow_len _ _ _ (by have := HRED.out.ql; omega)]; omega
         have hcellq : w4.cell? ⟨gq, i, none⟩ = some (.int .i64 (((qrow Z QS (i + 1))[i]'hqz : Nat) : Int)) := by
           rw [HQ4.out.cell i (by rw [nats_len]; exact hqz), nats_get]
         have hfzq := HQ4.out.frozen i
         have HSQ := Lib.hid (HQ4.out.set i (.int .i64 (((q - 1) : Nat) : Int)))
         have HSG := Lib.hid (HQ4.out.setGrown i (.int .i64 (((q - 1) : Nat) : Int)))
         have HRK := Lib.hid (HW4.out.kept HSG.out (by simp; exact hrq))
         obtain ⟨h', hh'⟩ : ∃ h', (upd R i m (sumAt ((List.range m).map (difAt ws bs q)) bs 1)).getD (i + m - 1) 0 = h' := ⟨_, rfl⟩
         rw [hh'] at hcellr
         have HHH := Lib.hid hh'
         clear hh'
         obtain ⟨zz, hzz⟩ : ∃ zz, (qrow Z QS (i + 1))[i]'hqz = zz := ⟨_, rfl⟩
         rw [hzz] at hcellq
         clear hzz hqz hulen
         have hinq : i < nq := by omega
         have hinqz : (i : Int) < (nq : Int) := by omega
         have hm1 : IntKind.i64.wrap ((m : Int) - 1) = ((m - 1 : Nat) : Int) := by rw [IntKind.wrap_i64]; omega
         have hm1z : ((m - 1 : Nat) : Int) = (m : Int) - 1 := by omega
         have hmlt : m - 1 < m := by omega
         have hgne : ¬ gq = gr := fun e => hrq e.symm
         have hcell5 : ∀ u, (w4.setCell ⟨gq, i, none⟩ u).cell? ⟨gr, i + (m - 1), none⟩ = some (.int .i64 (h' : Int)) := by
           intro u
           rw [World.cell?_setCell_other _ _ _ _ (by simp)]
           exact hcellr
         clear hm1z
         have hqs : ((q - 1 : Nat) : Int) = (q : Int) - 1 := by omega
         rw [hqs] at HSQ HSG HRK
         go_wp2
         refine ⟨⟨i, h', _, (q - 1) :: QS, by omega, by go_num, rfl, HHH.out ▸ HND.out.1, HRK.out, ?_, (HLV4.out.grown2 HSG.out)⟩, by simp [intOf]⟩
         have hz := HSQ.out
         rw [← hqs, nats_set, qrow_set _ _ _ _ (by have := HRED.out.ql; omega), hqs] at hz
         exact hz
       · have HR := Lib.hid (hRR (by omega))
         have hgtz : ¬ (h : Int) < ((bor ws bs q m : Nat) : Int) := by omega
         clear hRR hRW
         obtain ⟨bo, hbo⟩ : ∃ bo, bor ws bs q m = bo := ⟨_, rfl⟩
         rw [hbo] at hgtz hbob ⊢
         clear hbo hgt
         obtain ⟨w4, hw4e⟩ : ∃ w4, w4 = w3 := ⟨_, rfl⟩
         subst hw4e
         have HW4 := HW3
         have HLV4 := HLV3
         have HQ4 := HQ3
         have HND := Lib.hid (HNEXT.out _ _ (difAt_digs _ _ _ _ HWSD.out) HR.out.1 HR.out.2)
         have hulen : (upd R i m (difAt ws bs q)).length = Y.length := HND.out.1.len
         have hcellr : w4.cell? ⟨gr, i + (m - 1), none⟩ = some (.int .i64 (((upd R i m (difAt ws bs q)).getD (i + m - 1) 0 : Nat) : Int)) := by
           rw [HW4.out.cell (i + (m - 1)) (by rw [nats_len]; omega), nats_get]
           congr 3
           have e : i + m - 1 = i + (m - 1) := by omega
           rw [e]
           simp [List.getD, List.getElem?_eq_getElem (show i + (m - 1) < (upd R i m (difAt ws bs q)).length by omega)]
         have hqz : i < (qrow Z QS (i + 1)).length := by rw [qrow_len _ _ _ (by have := HRED.out.ql; omega)]; omega
         have hcellq : w4.cell? ⟨gq, i, none⟩ = some (.int .i64 (((qrow Z QS (i + 1))[i]'hqz : Nat) : Int)) := by
           rw [HQ4.out.cell i (by rw [nats_len]; exact hqz), nats_get]
         have hfzq := HQ4.out.frozen i
         have HSQ := Lib.hid (HQ4.out.set i (.int .i64 ((q : Nat) : Int)))
         have HSG := Lib.hid (HQ4.out.setGrown i (.int .i64 ((q : Nat) : Int)))
         have HRK := Lib.hid (HW4.out.kept HSG.out (by simp; exact hrq))
         obtain ⟨h', hh'⟩ : ∃ h', (upd R i m (difAt ws bs q)).getD (i + m - 1) 0 = h' := ⟨_, rfl⟩
         rw [hh'] at hcellr
         have HHH := Lib.hid hh'
         clear hh'
         obtain ⟨zz, hzz⟩ : ∃ zz, (qrow Z QS (i + 1))[i]'hqz = zz := ⟨_, rfl⟩
         rw [hzz] at hcellq
         clear hzz hqz hulen
         have hinq : i < nq := by omega
         have hinqz : (i : Int) < (nq : Int) := by omega
         have hm1 : IntKind.i64.wrap ((m : Int) - 1) = ((m - 1 : Nat) : Int) := by rw [IntKind.wrap_i64]; omega
         have hm1z : ((m - 1 : Nat) : Int) = (m : Int) - 1 := by omega
         have hmlt : m - 1 < m := by omega
         have hgne : ¬ gq = gr := fun e => hrq e.symm
         have hcell5 : ∀ u, (w4.setCell ⟨gq, i, none⟩ u).cell? ⟨gr, i + (m - 1), none⟩ = some (.int .i64 (h' : Int)) := by
           intro u
           rw [World.cell?_setCell_other _ _ _ _ (by simp)]
           exact hcellr
         clear hm1z
         go_wp2
         refine ⟨⟨i, h', _, q :: QS, by omega, by go_num, rfl, HHH.out ▸ HND.out.1, HRK.out, ?_, (HLV4.out.grown2 HSG.out)⟩, by simp [intOf]⟩
         have hz := HSQ.out
         rw [nats_set, qrow_set _ _ _ _ (by have := HRED.out.ql; omega)] at hz
         exact hz
end Go.Proofs.YtaboodioabopnaaGreat
namespace Go.Proofs.YtaboodioabopnaaGreat
open Go.RowKit Nt
set_option linter.unusedVariables false
theorem small_step (x d X Q r : Nat) (hd : 0 < d) (h : X = d * Q + r) : (x + 1000000000 * X) / d = (r * 1000000000 + x) / d + 1000000000 * Q ∧ (x + 1000000000 * X) % d = (r * 1000000000 + x) % d := by
 have e : x + 1000000000 * X = d * (1000000000 * Q) + (r * 1000000000 + x) := by
   have : d * (1000000000 * Q) = 1000000000 * (d * Q) := by rw [← Nat.mul_assoc, Nat.mul_comm d, Nat.mul_assoc]
   omega
 rw [e, Nat.mul_add_div hd, Nat.mul_add_mod]
 exact ⟨by rw [Nat.add_comm], rfl⟩
set_option maxRecDepth 100000 in
set_option maxHeartbeats 2000000 in
theorem l02Small_any (A : Option Addr) (n c : Nat) (ds : List Nat) (d : Nat) (w : World) (hA : VRow w A n (nats ds)) (hds : Digs ds) (hd : 0 < d) (hdb : d < 1000000000) (hn : n ≤ 1048576) :
   Calls Tryz.prog 127 #[.slice A n c, .int .i64 d] w fun e w' => ∃ v, e = .returned (.tuple #[v, .int .i64 (val ds % d : Nat)]) ∧ OwnV w' w.heap.size 3 v (nats (dig (val ds / d))) ∧ Below w.heap.size w w' := by
 obtain ⟨i0, hi, hz0, hz1, hz2⟩ := info_parts info_int
 have HL := Lib.hid (show ds.length = n by simpa [nats_len] using hA.1)
 have HA := Lib.hid hA
 have HD := Lib.hid hds
 clear hA hds
 have hdz : ¬ (d : Int) = 0 := by omega
 have hdzb : ((d : Int) == 0) = false := beq_eq_false_iff_ne.mpr hdz
 go_enter Tryz.func127, Tryz.ntmps127
 go_wp2_with (at_make; refine wpList_make_full _ rfl _ _ _ rfl w.heap.size 3 i0 _ 1 Tryz.underlying33 hi hz0 hz1 .i64 .i64 _ _ n rfl rfl rfl rfl (by rw [hz2]; omega) (by unfold maxLen; omega) (Nat.le_refl _) ?_; intro w1 hown hgrow)
 have HB1 := Lib.hid ((Below.refl w.heap.size w).grown hgrow (Nat.le_refl _) (by simp))
 have HW1 := Lib.hid (made_whole hown)
 clear hown hgrow
 go_wp2
 go_loopw [7, 8] (fun a i wr => ∃ (k r : Nat) (QS : List Nat), k ≤ n ∧ i = .int .i64 ((k : Int) - 1) ∧ a = .int .i64 r ∧ r < d ∧ val (ds.drop k) = d * val QS + r ∧ Digs QS ∧ QS.length + k = n ∧ Whole wr w.heap.size w.heap.size 3 (nats (qrow (List.replicate n 0) QS k)) ∧ Below w.heap.size w wr) (fun _ i _ => (intOf i + 1).toNat)
 case atStart => exact ⟨n, 0, [], Nat.le_refl _, by go_num, rfl, hd, by rw [List.drop_of_length_le (by have := HL.out; omega)]; simp [val], Digs.nil, by simp, by rw [qrow_nil]; exact HW1.out, HB1.out⟩
 case round =>
   obtain ⟨k, r, QS, hk, rfl, rfl, hr, hv, hqd, hql, hw, hb⟩ := hrel
   have HV := Lib.hid hv
   have HQD := Lib.hid hqd
   have HW := Lib.hid hw
   have HB := Lib.hid hb
   clear hv hqd hw hb
   by_cases h0 : k = 0
   · subst h0
     have hQl : (qrow (List.replicate n 0) QS 0) = QS := by
       unfold qrow
       rw [List.take_zero, List.nil_append, List.drop_of_length_le (by simp; omega), List.append_nil]
     have hov := OwnV.of_whole HW.out
     rw [hQl, nats_len, show QS.length = n by omega] at hov
     have HOV := Lib.hid hov
     clear hov hQl
     go_wp2_with fail
     refine (l02Trim_own _ _ _ _ _ _ HOV.out HQD.out).mono ?_
     rintro e w2 ⟨rfl, hov, rfl⟩
     have hv := HV.out
     rw [List.drop_zero] at hv
     have hvq : val QS = val ds / d := by rw [hv, Nat.mul_add_div hd, Nat.div_eq_of_lt hr, Nat.add_zero]
     have hvr : r = val ds % d := by rw [hv, Nat.mul_add_mod, Nat.mod_eq_of_lt hr]
     rw [hvq] at hov ⊢
     have HOV2 := Lib.hid hov
     have HVR := Lib.hid hvr
     clear hov hv hvq hvr
     go_wp2
     go_ret2
     refine ⟨_, ?_, HOV2.out, HB.out⟩
     rw [← HVR.out]
     rfl
   · obtain ⟨i, rfl⟩ : ∃ i, k = i + 1 := ⟨k - 1, by omega⟩
     have hwi : ((i + 1 : Nat) : Int) - 1 = (i : Int) := by omega
     rw [hwi]
     clear hwi
     obtain ⟨ga, oa, rfl, hga, hca⟩ := (HA.out.below HB.out (Nat.le_refl _)).at_ (show i < n by omega)
     rw [nats_get] at hca
     have hxl : i < ds.length := by have := HL.out; omega
     obtain ⟨x, hx⟩ : ∃ x, ds[i] = x := ⟨_, rfl⟩
     have hxb : x < 1000000000 := hx ▸ HD.out.get hxl
     have hvd := val_drop_succ ds i hxl
     rw [hx] at hca hvd
     have hst := small_step x d _ _ r hd HV.out
     rw [← hvd] at hst
     have HST := Lib.hid hst
     clear hx hvd hst
     obtain ⟨q, hq⟩ : ∃ q, (r * 1000000000 + x) / d = q := ⟨_, rfl⟩
     obtain ⟨r2, hr2⟩ : ∃ r2, (r * 1000000000 + x) % d = r2 := ⟨_, rfl⟩
     have hqb : q < 1000000000 := by rw [← hq, Nat.div_lt_iff_lt_mul hd]; omega
     have hr2b : r2 < d := by rw [← hr2]; exact Nat.mod_lt _ hd
     have hqz : ((r : Int) * 1000000000 + x) / (d : Int) = (q : Int) := by rw [← hq, Int.natCast_ediv, Int.natCast_add, Int.natCast_mul]; rfl
     have hrz : ((r : Int) * 1000000000 + x) % (d : Int) = (r2 : Int) := by rw [← hr2, Int.natCast_emod, Int.natCast_add, Int.natCast_mul]; rfl
     rw [hq, hr2] at HST
     have HDM := Lib.hid (show val (ds.drop i) = d * (q + 1000000000 * val QS) + r2 by
       have := Nat.div_add_mod (val (ds.drop i)) d
       rw [HST.out.1, HST.out.2] at this
       exact this.symm)
     have hzl : i < (qrow (List.replicate n 0) QS (i + 1)).length := by rw [qrow_len _ _ _ (by simp; omega)]; simp; omega
     have hcq : wr.cell? ⟨w.heap.size, i, none⟩ = some (.int .i64 (((qrow (List.replicate n 0) QS (i + 1))[i]'hzl : Nat) : Int)) := by
       rw [HW.out.cell i (by rw [nats_len]; exact hzl), nats_get]
     have hfz := HW.out.frozen i
     have HSQ := Lib.hid (HW.out.set i (.int .i64 (q : Int)))
     obtain ⟨zz, hzz⟩ : ∃ zz, (qrow (List.replicate n 0) QS (i + 1))[i]'hzl = zz := ⟨_, rfl⟩
     rw [hzz] at hcq
     clear hzz hzl hq hr2
     have hin : i < n := by omega
     have hinz : (i : Int) < (n : Int) := by omega
     have hnn : (0 : Int) ≤ (r : Int) * 1000000000 + x := by omega
     go_wp2
     refine ⟨⟨i, r2, q :: QS, by omega, by go_num, by first | rfl | go_num, hr2b, HDM.out, ?_, by simp; omega, ?_, HB.out.setCell (Nat.le_refl _) _⟩, by simp [intOf]⟩
     · intro y hy
       rcases List.mem_cons.mp hy with rfl | hy
       · exact hqb
       · exact HQD.out y hy
     · have hz := HSQ.out
       rw [nats_set, qrow_set _ _ _ _ (by simp; omega)] at hz
       exact hz
set_option maxRecDepth 100000 in
set_option maxHeartbeats 2000000 in
theorem l02Digit_any (A B : Option Addr) (n c m d : Nat) (rs bs : List Nat) (w : World) (hA : VRow w A n (nats rs)) (hB : VRow w B m (nats bs)) (hrs : Canon rs) (hbs : Canon bs) (hV : 0 < val bs) (hlt : val rs < 1000000000 * val bs) (hn : n ≤ 1048576) (hm : m ≤ 1048000) :
   Calls Tryz.prog 128 #[.slice A n c, .slice B m d] w fun e w' => e = .returned (.int .i64 (val rs / val bs : Nat)) ∧ Below w.heap.size w w' := by
 have HA := Lib.hid hA
 have HB := Lib.hid hB
 have HR := Lib.hid hrs
 have HS := Lib.hid hbs
 have hQb : val rs / val bs < 1000000000 := by rw [Nat.div_lt_iff_lt_mul hV]; exact hlt
 have HIFF := Lib.hid (fun q : Nat => Nat.le_div_iff_mul_le (x := q) (y := val rs) hV)
 obtain ⟨Q, hQ⟩ : ∃ Q, val rs / val bs = Q := ⟨_, rfl⟩
 rw [hQ] at hQb HIFF ⊢
 clear hA hB hrs hbs hV hlt hQ
 go_enter Tryz.func128, Tryz.ntmps128
 go_wp2
 go_loopw [5, 6] (fun a b wr => ∃ lo hi : Nat, a = .int .i64 lo ∧ b = .int .i64 hi ∧ lo ≤ Q ∧ Q ≤ hi ∧ hi < 1000000000 ∧ Below w.heap.size w wr) (fun a b _ => (intOf b - intOf a).toNat)
 case atStart => exact ⟨0, 999999999, rfl, rfl, by omega, by omega, by omega, Below.refl _ _⟩
 case round =>
   obtain ⟨lo, hi, rfl, rfl, hlo, hhi, hhb, hb⟩ := hrel
   have HBr := Lib.hid hb
   clear hb
   by_cases hc : lo < hi
   · obtain ⟨q, hq⟩ : ∃ q, (lo + hi + 1) / 2 = q := ⟨_, rfl⟩
     have hqz : ((lo : Int) + hi + 1) / 2 = (q : Int) := by omega
     have hqr : lo < q ∧ q ≤ hi := by omega
     have hcz : (lo : Int) < (hi : Int) := by omega
     have hiq := HIFF.out q
     go_wp2_with fail
     refine (natOf_spec (q : Int) _ (by omega)).mono ?_
     rintro e w1 ⟨v1, rfl, ho1, hb1⟩
     rw [Int.toNat_natCast] at ho1
     obtain ⟨A1, c1, rfl⟩ := ho1.shape
     have hl1 : (nats (dig q)).length ≤ 4 := by rw [nats_len]; exact dig_len (by omega)
     obtain ⟨n1, hn1⟩ : ∃ n1, (nats (dig q)).length = n1 := ⟨_, rfl⟩
     rw [hn1] at hl1 ho1 ⊢
     have HO1 := Lib.hid ho1
     have HB1 := Lib.hid (HBr.out.trans (hb1.mono HBr.out.size))
     clear ho1 hb1 hn1
     go_wp2_with fail
     refine (l02Mul_any _ _ _ _ _ _ bs (dig q) _ (HB.out.below HB1.out (Nat.le_refl _)) HO1.out.row HS.out.1 (dig_digs _) (by omega)).mono ?_
     rintro e w2 ⟨v2, rfl, ho2, hb2⟩
     rw [val_dig] at ho2
     obtain ⟨A2, c2, rfl⟩ := ho2.shape
     have hl2 := ho2.cap
     obtain ⟨n2, hn2⟩ : ∃ n2, (nats (dig (val bs * q))).length = n2 := ⟨_, rfl⟩
     rw [hn2] at hl2 ho2 ⊢
     have HO2 := Lib.hid ho2
     have HB2 := Lib.hid (HB1.out.trans (hb2.mono HB1.out.size))
     have HL2 := Lib.hid (Nat.le_trans hl2.1 hl2.2)
     clear ho2 hb2 hn2 hl2
     go_wp2_with fail
     refine (l02Cmp_any _ _ _ _ _ _ (dig (val bs * q)) rs _ HO2.out.row (HA.out.below HB2.out (Nat.le_refl _)) (dig_can _) HR.out HL2.out (by unfold maxLen; omega)).mono ?_
     rintro e w3 ⟨rfl, hb3⟩
     rw [val_dig]
     have HB3 := Lib.hid (HB2.out.trans (hb3.mono HB2.out.size))
     clear hb3
     by_cases hle : q ≤ Q
     · have hle2 := hiq.mp hle
       have hs : sgn (val bs * q) (val rs) ≤ 0 := by
         rw [Nat.mul_comm] at hle2
         unfold sgn
         by_cases h1 : val bs * q < val rs
         · rw [if_pos h1]; decide
         · rw [if_neg h1, if_pos (by omega)]; decide
       generalize sgn (val bs * q) (val rs) = s at *
       clear hiq hle2
       go_wp2
       exact ⟨⟨q, hi, rfl, rfl, hle, hhi, hhb, HB3.out⟩, by simp [intOf]; omega⟩
     · have hgt : ¬ q * val bs ≤ val rs := fun h => hle (hiq.mpr h)
       have hs : ¬ sgn (val bs * q) (val rs) ≤ 0 := by
         rw [Nat.mul_comm] at hgt
         unfold sgn
         rw [if_neg (by omega), if_neg (by omega)]; decide
       generalize sgn (val bs * q) (val rs) = s at *
       clear hiq hgt
       go_wp2
       exact ⟨⟨lo, q - 1, rfl, by go_num, hlo, by omega, by omega, HB3.out⟩, by simp [intOf]; omega⟩
   · obtain rfl : lo = Q := by omega
     go_wp2
     go_ret
     exact ⟨rfl, HBr.out⟩
end Go.Proofs.YtaboodioabopnaaGreat
namespace Go.Proofs.YtaboodioabopnaaGreat
open Go.RowKit Nt
set_option linter.unusedVariables false
theorem wpList_append_row {P : Program} {w : World} {ops : Array Oper} {rest : List Oper} {o : Oper} {a : Act} {Q : Exit → Act → World → Prop} (hgd : o.guard = none) (s x : Operand) (t : TypeId)
   (ho : o.op = .call { callee := .builtin .append, args := #[s, x], argTypes := #[t, t] })
   (base : Nat) (e : TypeId) (i : TypeInfo) (z : Value) (bytes : Nat) (ht : P.underlying t = some (.slice e)) (hi : P.info? e = some i) (hz : i.zero = some z)
   (hsize : i.size = 1) (hby : i.bytes = bytes) (hzs : z.cells.size = 1)
   (v : Value) (n : Nat) (xs : List Value) (hs : a.eval s = v) (hown : w.ownsRow base e 1 v n xs)
   (A : Option Addr) (m c : Nat) (news : List Value) (hx : a.eval x = .slice A m c) (hrow : VRow w A m news) (hnil : A = none → c = 0) (h1 : ∀ u ∈ news, u.oneCell' = true)
   (h63 : n + m ≤ maxLen) (hbytes : (n + m) * bytes ≤ 140737488355328) (hbase : base ≤ w.heap.size)
   (h : ∀ v' w', w'.ownsRow base e 1 v' (n + m) (xs ++ news) → w.grownBy w' v.ownBlock → wpList P ops Q rest (a.put o.dst v') w') : wpList P ops Q (o :: rest) a w := by
 cases A with
 | none =>
   have h0 : m = 0 := by
     rcases Nat.eq_zero_or_pos m with h0 | h0
     · exact h0
     · obtain ⟨g, o, e, _⟩ := hrow.2 h0; simp at e
   subst h0
   have hc := hnil rfl
   subst hc
   have hn := List.eq_nil_of_length_eq_zero hrow.1
   subst hn
   refine wpList_append_own_none hgd s x t ho base e i 1 ht hi v n xs hs hown hx ?_
   exact h v w (by simpa using hown) (World.grownBy.refl _ _)
 | some ad =>
   refine wpList_append_own w hgd s x t ho base e i z 1 bytes ht hi hz hsize hby hzs (by decide) v n xs hs hown ad m c news hx (by have := hrow.1; omega) ?_ h1 h63 hbytes hbase (fun v' w' a1 a2 _ => h v' w' a1 a2)
   intro j u hj
   have hjl : j < m := by have h2 := (List.getElem?_eq_some_iff.mp hj).1; have := hrow.1; omega
   obtain ⟨g, o, e, hlt, hc⟩ := hrow.2 (by omega)
   obtain rfl : ad = ⟨g, o, none⟩ := by simpa using e
   rw [add_off, hc j hjl]
   exact hj
def quoN (xs ys : List Int) : List Nat := if okI xs = true ∧ okI ys = true then dig (val (toN xs) / val (toN ys)) else []
def remN (xs ys : List Int) : List Nat := if okI xs = true ∧ okI ys = true ∧ val (toN ys) ≠ 0 then dig (val (toN xs) % val (toN ys)) else []
theorem divN_no {xs ys : List Int} (h : okI xs = false ∨ okI ys = false) : quoN xs ys = [] ∧ remN xs ys = [] := by
 constructor
 · rw [quoN, if_neg (by rintro ⟨h1, h2⟩; rcases h with h | h <;> simp_all)]
 · rw [remN, if_neg (by rintro ⟨h1, h2, _⟩; rcases h with h | h <;> simp_all)]
theorem divN_yes {xs ys : List Int} (h1 : okI xs = true) (h2 : okI ys = true) : quoN xs ys = dig (val (toN xs) / val (toN ys)) ∧ remN xs ys = if val (toN ys) ≠ 0 then dig (val (toN xs) % val (toN ys)) else [] := by
 constructor
 · rw [quoN, if_pos ⟨h1, h2⟩]
 · simp [remN, h1, h2]
def OwnR2 (e : TypeId) (xs ys : List Value) (w : World) (en : Ending) (w' : World) : Prop :=
 ∃ v0 v1, en = .returned (.tuple #[v0, v1]) ∧ OwnV w' w.heap.size e v0 xs ∧ OwnV w' w.heap.size e v1 ys ∧ (v0.ownBlock = none ∨ v0.ownBlock ≠ v1.ownBlock) ∧ (v1.ownBlock = none ∨ v1.ownBlock ≠ v0.ownBlock) ∧ Below w.heap.size w w'
theorem own2_nil (e : TypeId) (w w' : World) (h : Below w.heap.size w w') : OwnR2 e [] [] w (.returned (.tuple #[.slice none 0 0, .slice none 0 0])) w' :=
 ⟨_, _, rfl, OwnV.nil _ _ _, OwnV.nil _ _ _, .inl rfl, .inl rfl, h⟩
theorem qrow_zero (n : Nat) (QS : List Nat) (i : Nat) (h : i < n) : qrow (List.replicate n 0) (0 :: QS) i = qrow (List.replicate n 0) QS (i + 1) := by
 unfold qrow
 rw [List.take_replicate, List.take_replicate, Nat.min_eq_left (by omega), Nat.min_eq_left (by omega), List.replicate_succ' (n := i), List.drop_replicate, List.drop_replicate, List.append_assoc]
 have e : n - (i + (0 :: QS).length) = n - (i + 1 + QS.length) := by simp; omega
 rw [e]
 rfl
theorem OwnV.ne_of_lt {w : World} {base g : Nat} {e : TypeId} {v : Value} {xs : List Value} (h : OwnV w base e v xs) (hg : g < base) : v.ownBlock = none ∨ v.ownBlock ≠ some g := by
 cases hv : v.ownBlock with
 | none => exact .inl rfl
 | some k =>
   refine .inr fun e => ?_
   have := (h.lt k hv).1
   have e2 : k = g := Option.some.inj e
   omega
theorem qrow_all (n : Nat) (QS : List Nat) (h : QS.length ≤ n) : Digs QS → Digs (qrow (List.replicate n 0) QS 0) ∧ val (qrow (List.replicate n 0) QS 0) = val QS ∧ (qrow (List.replicate n 0) QS 0).length = n := by
 intro hd
 unfold qrow
 rw [List.take_zero, List.nil_append, List.drop_replicate, Nat.zero_add]
 exact ⟨digs_pad hd _, val_pad _ _, by simp; omega⟩
set_option maxRecDepth 100000 in
set_option maxHeartbeats 4000000 in
theorem l02Div_any (A B : Option Addr) (n c m d : Nat) (ds bs : List Nat) (w : World) (hA : VRow w A n (nats ds)) (hB : VRow w B m (nats bs)) (hds : Digs ds) (hbs : Canon bs) (hm0 : 0 < m) (hn : n ≤ 500000) (hm : m ≤ 500000) :
   Calls Tryz.prog 107 #[.slice A n c, .slice B m d] w (OwnR2 3 (nats (dig (val ds / val bs))) (nats (dig (val ds % val bs))) w) := by
 obtain ⟨i0, hi, hz0, hz1, hz2⟩ := info_parts info_int
 have HL := Lib.hid (show ds.length = n by simpa [nats_len] using hA.1)
 have HM := Lib.hid (show bs.length = m by simpa [nats_len] using hB.1)
 have hV : 0 < val bs := by
   have := can_pos hbs (by have := HM.out; omega)
   have := pow_pos (bs.length - 1)
   omega
 have HV := Lib.hid hV
 have HA := Lib.hid hA
 have HB := Lib.hid hB
 have HD := Lib.hid hds
 have HS := Lib.hid hbs
 clear hA hB hds hbs hV
 by_cases h1 : m = 1
 · subst h1
   obtain ⟨b0, rfl⟩ : ∃ b0, bs = [b0] := List.length_eq_one_iff.mp HM.out
   have hb0 := canon_top HS.out 0 rfl
   have hb0b := HS.out.1 b0 (by simp)
   simp only [List.getElem_cons_zero] at hb0
   have e2 : val [b0] = b0 := by simp [val]
   obtain ⟨gb, ob, rfl, hgb, hcb⟩ := HB.out.at_ (show 0 < 1 by omega)
   have hcb' : w.cell? ⟨gb, ob, none⟩ = some (.int .i64 (b0 : Int)) := hcb
   clear hcb
   rw [e2]
   go_enter Tryz.func107, Tryz.ntmps107
   go_wp2_with fail
   refine (l02Small_any _ _ _ ds b0 _ HA.out HD.out hb0 hb0b (by omega)).mono ?_
   rintro e w1 ⟨v1, rfl, ho1, hb1⟩
   have HO1 := Lib.hid ho1
   have HB1 := Lib.hid hb1
   have hrb : val ds % b0 < b0 := Nat.mod_lt _ hb0
   obtain ⟨r, hr⟩ : ∃ r, val ds % b0 = r := ⟨_, rfl⟩
   rw [hr] at hrb ⊢
   have HRR := Lib.hid hr
   clear ho1 hb1 e2 hr
   go_wp2_with fail
   refine (natOf_spec (r : Int) _ (by omega)).mono ?_
   rintro e w2 ⟨v2, rfl, ho2, hb2⟩
   rw [Int.toNat_natCast] at ho2
   have HO2 := Lib.hid ho2
   have HO1' := Lib.hid (HO1.out.below hb2)
   have HAP := Lib.hid (OwnV.apart HO1.out ho2 (Nat.le_refl _))
   have HAP2 := Lib.hid (OwnV.apart' ho2 HO1.out (Nat.le_refl _))
   have HB2 := Lib.hid (HB1.out.trans (hb2.mono HB1.out.size))
   clear ho2 hb2
   go_wp2
   go_ret2
   refine ⟨v1, v2, rfl, HO1'.out, ?_, HAP.out, HAP2.out, HB2.out⟩
   rw [HRR.out]
   exact HO2.out.based HB1.out.size
 · have h1b : ((m : Int) == 1) = false := beq_eq_false_iff_ne.mpr (by omega)
   go_enter Tryz.func107, Tryz.ntmps107
   go_wp2_with (at_make; refine wpList_make_full _ rfl _ _ _ rfl w.heap.size 3 i0 _ 1 Tryz.underlying33 hi hz0 hz1 .i64 .i64 _ _ n rfl rfl rfl rfl (by rw [hz2]; omega) (by unfold maxLen; omega) (Nat.le_refl _) ?_; intro w1 hown hgrow)
   have HB1 := Lib.hid ((Below.refl w.heap.size w).grown hgrow (Nat.le_refl _) (by simp))
   have HW1 := Lib.hid (made_whole hown)
   have HSZ := Lib.hid (made_whole hown).lt.2
   clear hown hgrow
   go_wp2
   go_loopw [9, 10] (fun v i wr => ∃ (k : Nat) (QS : List Nat), k ≤ n ∧ i = .int .i64 ((k : Int) - 1) ∧ val QS = val (ds.drop k) / val bs ∧ Digs QS ∧ QS.length + k = n ∧ Whole wr w.heap.size w.heap.size 3 (nats (qrow (List.replicate n 0) QS k)) ∧ OwnV wr (w.heap.size + 1) 3 v (nats (dig (val (ds.drop k) % val bs))) ∧ Below w.heap.size w wr) (fun _ i _ => (intOf i + 1).toNat)
   case atStart =>
     refine ⟨n, [], Nat.le_refl _, by go_num, ?_, Digs.nil, by simp, ?_, ?_, HB1.out.alloc HB1.out.size _⟩
     · rw [List.drop_of_length_le (by have := HL.out; omega)]; simp [val]
     · rw [qrow_nil]; exact World.ownsRow.alloc HW1.out _
     · rw [List.drop_of_length_le (by have := HL.out; omega)]
       simp only [val, Nat.zero_mod, dig_zero]
       exact OwnV.of_own (World.ownsRow_made w1 #[] 0 (by have := HSZ.out; omega) (Nat.zero_le _) rfl)
   case round =>
     obtain ⟨k, QS, hk, rfl, hqv, hqd, hql, hw, ho, hb⟩ := hrel
     have HQV := Lib.hid hqv
     have HQD := Lib.hid hqd
     have HW := Lib.hid hw
     have HO := Lib.hid ho
     have HBr := Lib.hid hb
     have HSZ2 := Lib.hid hw.lt.2
     clear hqv hqd hw ho hb
     by_cases h0 : k = 0
     · subst h0
       obtain ⟨hq1, hq2, hq3⟩ := qrow_all n QS (by omega) HQD.out
       have hov := OwnV.of_whole HW.out
       rw [nats_len, hq3] at hov
       have HOV := Lib.hid hov
       have HQ1 := Lib.hid hq1
       have HQ2 := Lib.hid hq2
       clear hov hq1 hq2 hq3
       go_wp2_with fail
       refine (l02Trim_own _ _ _ _ _ _ HOV.out HQ1.out).mono ?_
       rintro e w2 ⟨rfl, hov, rfl⟩
       rw [HQ2.out, HQV.out, List.drop_zero] at hov ⊢
       have HOV2 := Lib.hid hov
       clear hov
       have hor := HO.out
       rw [List.drop_zero] at hor
       have HOR := Lib.hid hor
       clear hor
       go_wp2
       go_ret2
       refine ⟨.slice (some ⟨w.heap.size, 0, none⟩) (dig (val ds / val bs)).length n, u9, rfl, HOV2.out, HOR.out.based (Nat.le_succ _), ?_, ?_, HBr.out⟩
       · refine .inr fun e => ?_
         have h2 := (HOR.out.lt w.heap.size e.symm).1
         omega
       · cases hu : u9.ownBlock with
         | none => exact .inl rfl
         | some g =>
           refine .inr fun e => ?_
           have := (HOR.out.lt g hu).1
           have e2 : some g = some w.heap.size := e
           simp at e2
           omega
     · obtain ⟨i, rfl⟩ : ∃ i, k = i + 1 := ⟨k - 1, by omega⟩
       have hwi : ((i + 1 : Nat) : Int) - 1 = (i : Int) := by omega
       rw [hwi]
       clear hwi
       obtain ⟨ga, oa, rfl, hga, hca⟩ := (HA.out.below HBr.out (Nat.le_refl _)).at_ (show i < n by omega)
       rw [nats_get] at hca
       have hxl : i < ds.length := by have := HL.out; omega
       obtain ⟨x, hx⟩ : ∃ x, ds[i] = x := ⟨_, rfl⟩
       have hxb : x < 1000000000 := hx ▸ HD.out.get hxl
       have hvd := val_drop_succ ds i hxl
       rw [hx] at hca hvd
       have HVD := Lib.hid hvd
       clear hx hvd
       -- the rest of the rounds before
       obtain ⟨r, hr⟩ : ∃ r, val (ds.drop (i + 1)) % val bs = r := ⟨_, rfl⟩
       have hrV : r < val bs := by rw [← hr]; exact Nat.mod_lt _ HV.out
       have HRV := Lib.hid hrV
       have hEQ : val (ds.drop (i + 1)) = val bs * val QS + r := by rw [HQV.out, ← hr]; exact (Nat.div_add_mod _ _).symm
       have HEQ := Lib.hid hEQ
       rw [hr] at HO
       clear hr hrV hEQ
       obtain ⟨A9, c9, hu9⟩ := HO.out.shape
       have hl9 : (nats (dig r)).length ≤ m := by
         rw [nats_len]
         have := can_len_le (dig_can r) (k := m) (by rw [val_dig]; have h2 := val_lt HS.out.1; rw [HM.out] at h2; exact Nat.lt_trans HRV.out h2)
         exact this
       obtain ⟨n9, hn9⟩ : ∃ n9, (nats (dig r)).length = n9 := ⟨_, rfl⟩
       rw [hn9] at hu9 hl9
       subst hu9
       have hlit : (wr.alloc (.cells #[.int .i64 (x : Int)] 3)).ownsRow (w.heap.size + 1) 3 1 (.slice (some ⟨wr.heap.size, 0, none⟩) 1 1) 1 [.int .i64 (x : Int)] :=
         World.ownsRow_lit wr #[.int .i64 (x : Int)] 1 (by have := HSZ2.out; omega) (by unfold maxLen; omega) rfl
       have HLIT := Lib.hid hlit
       have HR9 := Lib.hid ((HO.out.row).below ((Below.refl _ _).alloc (Nat.le_refl _) (.cells #[.int .i64 (x : Int)] 3)) (Nat.le_refl _))
       have HN9 := Lib.hid HO.out.nil_cap
       have HOC := Lib.hid (nats_oneCell (dig r))
       clear hlit
       have hin : i < n := by omega
       have hinz : (i : Int) < (n : Int) := by omega
       go_wp2_with (at_builtin; refine wpList_append_row rfl (.tmp 41) (.tmp 42) 33 rfl (w.heap.size + 1) 3 i0 _ 8 Tryz.underlying33 hi hz0 hz1 hz2 rfl _ 1 [.int .i64 (x : Int)] rfl HLIT.out A9 n9 c9 (nats (dig r)) rfl HR9.out HN9.out HOC.out (by unfold maxLen; omega) (by omega) (by have := HSZ2.out; simp; omega) ?_; intro v3 w3 hown3 hgrow3)
       have e3 : [.int .i64 (x : Int)] ++ nats (dig r) = nats (x :: dig r) := rfl
       rw [e3] at hown3
       obtain ⟨A3, c3, rfl⟩ := own_shape hown3
       have HO3 := Lib.hid (OwnV.of_own hown3)
       have HB3 := Lib.hid ((HBr.out.alloc HBr.out.size _).grown hgrow3 (by have := HBr.out.size; simp; omega) (fun k hk => by have e9 : wr.heap.size = k := Option.some.inj hk; have := HBr.out.size; omega))
       have hWal : Whole (wr.alloc (.cells #[.int .i64 (x : Int)] 3)) w.heap.size w.heap.size 3 (nats (qrow (List.replicate n 0) QS (i + 1))) := World.ownsRow.alloc HW.out _
       have HW3 := Lib.hid (hWal.kept hgrow3 (fun e => by have e9 : w.heap.size = wr.heap.size := Option.some.inj e; have := HSZ2.out; omega))
       clear hown3 hgrow3 e3 hWal
       have HXD := Lib.hid (show Digs (x :: dig r) from fun y hy => by
         rcases List.mem_cons.mp hy with rfl | hy
         · exact hxb
         · exact dig_digs r y hy)
       go_wp2_with fail
       refine (l02Trim_own _ _ _ _ _ _ HO3.out HXD.out).mono ?_
       rintro e w4 ⟨rfl, ho4, rfl⟩
       have e4 : val (x :: dig r) = x + 1000000000 * r := by rw [val, val_dig]
       rw [e4] at ho4 ⊢
       obtain ⟨U, hU⟩ : ∃ U, x + 1000000000 * r = U := ⟨_, rfl⟩
       have HUV := Lib.hid (show U < 1000000000 * val bs by have := HRV.out; omega)
       have hst := small_step x (val bs) _ _ r HV.out HEQ.out
       rw [← HVD.out, show r * 1000000000 + x = U by omega] at hst
       have HST := Lib.hid hst
       rw [hU] at ho4 ⊢
       have HO4 := Lib.hid ho4
       clear ho4 e4 hst hU HO3 HO HR9
       have hl4 : (dig U).length ≤ m + 1 := by
         refine dig_len (Nat.lt_trans HUV.out ?_)
         have h2 := val_lt HS.out.1
         rw [HM.out] at h2
         rw [Nat.pow_succ]
         omega
       obtain ⟨n4, hn4⟩ : ∃ n4, (dig U).length = n4 := ⟨_, rfl⟩
       rw [hn4] at HO4 hl4 ⊢
       have HN4 := Lib.hid hn4
       clear hn4
       have HBB4 := Lib.hid (HB.out.below HB3.out (Nat.le_refl _))
       go_wp2_with fail
       refine (l02Cmp_any _ _ _ _ _ _ (dig U) bs _ HO4.out.row HBB4.out (dig_can U) HS.out (by unfold maxLen; omega) (by unfold maxLen; omega)).mono ?_
       rintro e w5 ⟨rfl, hb5⟩
       rw [val_dig]
       have HB5 := Lib.hid (HB3.out.trans (hb5.mono HB3.out.size))
       have HO5 := Lib.hid (HO4.out.below hb5)
       have HW5 := Lib.hid (HW3.out.below hb5)
       clear hb5
       have hzl : i < (qrow (List.replicate n 0) QS (i + 1)).length := by rw [qrow_len _ _ _ (by simp; omega)]; simp; omega
       by_cases hlt : U < val bs
       · rw [sgn_lt hlt]
         have hq0 : U / val bs = 0 := Nat.div_eq_of_lt hlt
         have hr0 : U % val bs = U := Nat.mod_eq_of_lt hlt
         have HST2 := Lib.hid HST.out
         rw [hq0, hr0, Nat.zero_add] at HST2
         clear hq0 hr0 hlt
         go_wp2
         refine ⟨⟨i, 0 :: QS, by omega, by go_num, ?_, ?_, by simp; omega, ?_, ?_, HB5.out⟩, by simp [intOf]⟩
         · rw [HST2.out.1]; simp [val]
         · intro y hy
           rcases List.mem_cons.mp hy with rfl | hy
           · omega
           · exact HQD.out y hy
         · have e6 := qrow_zero n QS i (by omega)
           rw [e6]
           exact HW5.out
         · rw [HST2.out.2]; exact HO5.out
       · have hs : ¬ sgn U (val bs) < 0 := by
           by_cases h2 : U = val bs
           · rw [sgn_eq h2]; decide
           · rw [sgn_gt (by omega)]; decide
         generalize sgn U (val bs) = sg at *
         have HGE := Lib.hid (show val bs ≤ U by omega)
         clear hlt
         go_wp2_with fail
         refine (l02Digit_any _ _ _ _ _ _ (dig U) bs _ HO5.out.row (HB.out.below HB5.out (Nat.le_refl _)) (dig_can U) HS.out HV.out (by rw [val_dig]; exact HUV.out) (by omega) (by omega)).mono ?_
         rintro e w6 ⟨rfl, hb6⟩
         rw [val_dig]
         have HB6 := Lib.hid (HB5.out.trans (hb6.mono HB5.out.size))
         have HO6 := Lib.hid (HO5.out.below hb6)
         have HW6 := Lib.hid (HW5.out.below hb6)
         clear hb6 HO5 HW5 HO4 HW3
         have hqb : U / val bs < 1000000000 := by rw [Nat.div_lt_iff_lt_mul HV.out]; exact HUV.out
         have hmod : U - val bs * (U / val bs) = U % val bs := by have := Nat.div_add_mod U (val bs); omega
         have hmle : val bs * (U / val bs) ≤ U := Nat.mul_div_le U (val bs)
         obtain ⟨q, hq⟩ : ∃ q, U / val bs = q := ⟨_, rfl⟩
         rw [hq] at HST hqb hmod hmle ⊢
         have HMOD := Lib.hid hmod
         have HMLE := Lib.hid hmle
         clear hq hmod hmle
         have hcq : w6.cell? ⟨w.heap.size, i, none⟩ = some (.int .i64 (((qrow (List.replicate n 0) QS (i + 1))[i]'hzl : Nat) : Int)) := by
           rw [HW6.out.cell i (by rw [nats_len]; exact hzl), nats_get]
         have hfz := HW6.out.frozen i
         have hzq := HW6.out.set i (.int .i64 (q : Int))
         rw [nats_set, qrow_set _ _ _ _ (by simp; omega)] at hzq
         have HW7 := Lib.hid hzq
         have HSG := Lib.hid (HW6.out.setGrown i (.int .i64 (q : Int)))
         have HO7 := Lib.hid (HO6.out.kept HSG.out (HO6.out.ne_of_lt (Nat.lt_succ_self _)))
         have HB7 := Lib.hid (HB6.out.grown HSG.out HB6.out.size (fun k hk => by have e9 : w.heap.size = k := Option.some.inj hk; omega))
         obtain ⟨zz, hzz⟩ : ∃ zz, (qrow (List.replicate n 0) QS (i + 1))[i]'hzl = zz := ⟨_, rfl⟩
         rw [hzz] at hcq
         clear hzz hzl hzq HO6 HW6
         go_wp2_with fail
         refine (natOf_spec (q : Int) _ (by omega)).mono ?_
         rintro e w8 ⟨v8, rfl, ho8, hb8⟩
         rw [Int.toNat_natCast] at ho8
         obtain ⟨A8, c8, rfl⟩ := ho8.shape
         have hl8 : (nats (dig q)).length ≤ 4 := by rw [nats_len]; exact dig_len (by omega)
         obtain ⟨n8, hn8⟩ : ∃ n8, (nats (dig q)).length = n8 := ⟨_, rfl⟩
         rw [hn8] at hl8 ho8 ⊢
         have HO8 := Lib.hid ho8
         have HB8 := Lib.hid (HB7.out.trans (hb8.mono HB7.out.size))
         have HW8 := Lib.hid (HW7.out.below hb8)
         have HR8 := Lib.hid (HO7.out.below hb8)
         clear ho8 hb8 hn8 HW7 HO7
         go_wp2_with fail
         refine (l02Mul_any _ _ _ _ _ _ bs (dig q) _ (HB.out.below HB8.out (Nat.le_refl _)) HO8.out.row HS.out.1 (dig_digs _) (by omega)).mono ?_
         rintro e w10 ⟨v10, rfl, ho10, hb10⟩
         rw [val_dig] at ho10
         obtain ⟨A10, c10, rfl⟩ := ho10.shape
         have hl10 : (nats (dig (val bs * q))).length ≤ n4 := by
           rw [nats_len, ← HN4.out]
           exact canon_len (dig_can _) (dig_digs _) (by rw [val_dig, val_dig]; exact HMLE.out)
         obtain ⟨n10, hn10⟩ : ∃ n10, (nats (dig (val bs * q))).length = n10 := ⟨_, rfl⟩
         rw [hn10] at hl10 ho10 ⊢
         have HO10 := Lib.hid ho10
         have HB10 := Lib.hid (HB8.out.trans (hb10.mono HB8.out.size))
         have HW10 := Lib.hid (HW8.out.below hb10)
         have HR10 := Lib.hid (HR8.out.below hb10)
         clear ho10 hb10 hn10 HW8 HR8 HO8
         go_wp2_with fail
         refine (l02Sub_any _ _ _ _ _ _ (dig U) (dig (val bs * q)) _ HR10.out.row HO10.out.row (dig_digs _) (dig_digs _) hl10 (by rw [val_dig, val_dig]; exact HMLE.out) (by omega)).mono ?_
         rintro e w11 ⟨v11, rfl, ho11, hb11⟩
         rw [val_dig, val_dig, HMOD.out] at ho11
         have HSZ10 := Lib.hid HW10.out.lt.2
         have HO11 := Lib.hid (ho11.based (show w.heap.size + 1 ≤ w10.heap.size by have := HSZ10.out; omega))
         have HB11 := Lib.hid (HB10.out.trans (hb11.mono HB10.out.size))
         have HW11 := Lib.hid (HW10.out.below hb11)
         clear ho11 hb11
         go_wp2
         refine ⟨⟨i, q :: QS, by omega, by go_num, ?_, ?_, by simp; omega, HW11.out, ?_, HB11.out⟩, by simp [intOf]⟩
         · rw [HST.out.1]; rfl
         · intro y hy
           rcases List.mem_cons.mp hy with rfl | hy
           · exact hqb
           · exact HQD.out y hy
         · rw [HST.out.2]; exact HO11.out
set_option maxRecDepth 100000 in
set_option maxHeartbeats 2000000 in
theorem natDiv_impl (A B : Option Addr) (n c m d : Nat) (xs ys : List Int) (w : World) (hA : VRow w A n (ints xs)) (hB : VRow w B m (ints ys)) (hn : n ≤ maxLen) (hm : m ≤ maxLen) :
   Calls Tryz.prog 110 #[.slice A n c, .slice B m d] w (OwnR2 3 (nats (quoN xs ys)) (nats (remN xs ys)) w) := by
 have HA := Lib.hid hA
 have HB := Lib.hid hB
 clear hA hB
 cases hx : okI xs with
 | false =>
   have HEQ := Lib.hid (divN_no (xs := xs) (ys := ys) (.inl hx))
   go_enter Tryz.func110, Tryz.ntmps110
   go_wp2_with fail
   refine (natOk_impl _ _ _ xs _ HA.out hn).mono ?_
   rintro e w1 ⟨rfl, hb⟩
   rw [hx]
   have HB1 := Lib.hid hb
   clear hb
   go_wp2
   go_ret2
   rw [HEQ.out.1, HEQ.out.2]
   exact own2_nil _ _ _ HB1.out
 | true =>
   obtain ⟨hxn, hxc, hxl⟩ := okI_nats hx
   go_enter Tryz.func110, Tryz.ntmps110
   go_wp2_with fail
   refine (natOk_impl _ _ _ xs _ HA.out hn).mono ?_
   rintro e w1 ⟨rfl, hb⟩
   rw [hx]
   have HB1 := Lib.hid hb
   clear hb
   go_wp2_with fail
   refine (natOk_impl _ _ _ ys _ (HB.out.below HB1.out (Nat.le_refl _)) hm).mono ?_
   rintro e w2 ⟨rfl, hb⟩
   have HB2 := Lib.hid (HB1.out.trans (hb.mono HB1.out.size))
   clear hb
   cases hy : okI ys with
   | false =>
     have HEQ := Lib.hid (divN_no (xs := xs) (ys := ys) (.inr hy))
     go_wp2
     go_ret2
     rw [HEQ.out.1, HEQ.out.2]
     exact own2_nil _ _ _ HB2.out
   | true =>
     obtain ⟨hyn, hyc, hyl⟩ := okI_nats hy
     have hA2 := HA.out.below HB2.out (Nat.le_refl _)
     have hBB2 := HB.out.below HB2.out (Nat.le_refl _)
     rw [hxn] at hA2
     rw [hyn] at hBB2
     have HEQ := Lib.hid (divN_yes hx hy)
     clear hxn hyn hx hy HA HB HB1
     generalize toN xs = ds at *
     generalize toN ys = es at *
     have HL := Lib.hid (show ds.length = n by simpa [nats_len] using hA2.1)
     have HM := Lib.hid (show es.length = m by simpa [nats_len] using hBB2.1)
     have hn60 : n ≤ 60 := by have := HL.out; omega
     have hm60 : m ≤ 60 := by have := HM.out; omega
     have HX := Lib.hid hxc
     have HY := Lib.hid hyc
     have HA2 := Lib.hid hA2
     have HBB2 := Lib.hid hBB2
     clear hxc hyc hA2 hBB2 hn hm hxl hyl
     by_cases hm0 : m = 0
     · subst hm0
       have HE0 := Lib.hid (show val es = 0 by rw [List.eq_nil_of_length_eq_zero HM.out]; rfl)
       go_wp2
       go_ret2
       rw [HEQ.out.1, HEQ.out.2, HE0.out, Nat.div_zero, dig_zero]
       exact own2_nil _ _ _ HB2.out
     have hm0b : ((m : Int) == 0) = false := beq_eq_false_iff_ne.mpr (by omega)
     have hV : val es ≠ 0 := by
       intro h
       have := (can_zero_iff HY.out).mp h
       have h2 := HM.out
       rw [this] at h2
       simp at h2
       omega
     have HR := Lib.hid (show remN xs ys = dig (val ds % val es) by rw [HEQ.out.2, if_pos hV])
     have HQ := Lib.hid HEQ.out.1
     clear hV
     obtain ⟨i0, hi, hz0, hz1, hz2⟩ := info_parts info_int
     go_wp2_with (at_make; refine wpList_make_full _ rfl _ _ _ rfl w2.heap.size 3 i0 _ 1 Tryz.underlying33 hi hz0 hz1 .i64 .i64 _ _ n rfl rfl rfl rfl (by rw [hz2]; omega) (by unfold maxLen; omega) (Nat.le_refl _) ?_; intro w3 hown hgrow)
     have hb3 := (Below.refl w2.heap.size w2).grown hgrow (Nat.le_refl _) (by simp)
     have HW3 := Lib.hid (made_whole hown)
     have HSZ3 := Lib.hid (made_whole hown).lt.2
     have HA3 := Lib.hid (HA2.out.below hb3 (Nat.le_refl _))
     have HBB3 := Lib.hid (HBB2.out.below hb3 (Nat.le_refl _))
     have HB3 := Lib.hid (HB2.out.trans (hb3.mono HB2.out.size))
     have HBL := Lib.hid (HBB2.out.off (Nat.le_refl _))
     clear hown hgrow hb3
     go_wp2_with fail
     refine (rowOf_any _ n c n _ (by first | rfl | omega) ds _ HA3.out (Nat.le_refl _) (by omega)).mono ?_
     rintro e w4 ⟨rfl, hw4, hb4⟩
     rw [Nat.sub_self, List.replicate_zero, List.append_nil] at hw4
     have HW4 := Lib.hid (hw4.based (Nat.le_of_lt HSZ3.out))
     have HZ4 := Lib.hid (HW3.out.below hb4)
     have HBB4 := Lib.hid (HBB3.out.below hb4 (Nat.le_refl _))
     have HBR := Lib.hid (show ∀ a : Addr, B = some a → a.block ≠ w3.heap.size ∧ a.block ≠ w2.heap.size from fun a ha => ⟨HBB3.out.off (Nat.le_refl _) (by omega) a ha, HBL.out (by omega) a ha⟩)
     have HB4 := Lib.hid (HB3.out.trans (hb4.mono HB3.out.size))
     clear hw4 hb4
     go_wp2_with fail
     refine (reduceRow_any w3.heap.size w2.heap.size n n n n m d w2.heap.size ds (List.replicate n 0) es B _ HW4.out HZ4.out HBB4.out HBR.out (by have := HSZ3.out; omega) HX.out.1 (by rw [List.take_of_length_le (by rw [HL.out]; exact Nat.le_refl _)]; exact HX.out) HY.out (Nat.le_refl _) (by rw [HL.out]; exact Nat.le_refl _) (by omega) (Nat.le_refl _) (by simp) (by rw [HL.out]; omega) (by omega)).mono ?_
     rintro e w5 ⟨r, rc, R, QS, rfl, hr1, hr2, hr3, hr4, hr5, hr6, hr7, hz5, hq1, hq2, hq3, hlv⟩
     have htk : ds.take n = ds := List.take_of_length_le (by rw [HL.out]; exact Nat.le_refl _)
     rw [htk] at hr1 hr6 hq3
     have hrow : OwnV w5 w2.heap.size 3 (.slice (some ⟨w3.heap.size, 0, none⟩) r rc) (nats (dig (val ds % val es))) := by
       have h := (OwnV.of_whole hr7).cut (m := r) (c2 := rc) (by rw [nats_len]; omega) hr2 (by rw [nats_len]; exact hr3)
       rw [nats_take, hr6] at h
       exact h
     have hqq := qrow_all n QS hq1 hq2
     have HO1 := Lib.hid hrow
     have HZ5 := Lib.hid hz5
     have HQQ := Lib.hid hqq
     have HQV := Lib.hid hq3
     have HB5 := Lib.hid (hlv.below HB4.out HB4.out.size (Nat.le_trans HB3.out.size (Nat.le_refl _)) HB2.out.size)
     clear hr1 hr2 hr3 hr4 hr5 hr6 hr7 hz5 hq1 hq2 hq3 hlv hrow hqq
     go_wp2_with fail
     refine (natOrNil_any _ n _ _ HQQ.out.2.2 _ HZ5.out HQQ.out.1 (by omega)).mono ?_
     rintro e w6 ⟨⟨v6, rfl, ho6, hblk⟩, rfl⟩
     have hlt : val ds / val es < 1000000000 ^ 60 := Nat.lt_of_le_of_lt (Nat.div_le_self _ _) (Nat.lt_of_lt_of_le (val_lt HX.out.1) (Nat.pow_le_pow_right (by decide) (by rw [HL.out]; omega)))
     rw [HQQ.out.2.1, HQV.out, capd_of hlt] at ho6
     have HO6 := Lib.hid ho6
     have HBK := Lib.hid hblk
     clear ho6 hblk hlt
     go_wp2
     go_ret2
     refine ⟨v6, .slice (some ⟨w3.heap.size, 0, none⟩) r rc, rfl, ?_, ?_, ?_, ?_, HB5.out⟩
     · rw [HQ.out]; exact HO6.out.based HB2.out.size
     · rw [HR.out]; exact HO1.out.based HB2.out.size
     · rcases HBK.out with h | h
       · exact .inl h
       · refine .inr fun e => ?_
         rw [h] at e
         have e9 : w2.heap.size = w3.heap.size := Option.some.inj e
         have := HSZ3.out
         omega
     · refine .inr fun e => ?_
       rcases HBK.out with h | h
       · rw [h] at e; simp [Value.ownBlock] at e
       · rw [h] at e
         have e9 : w3.heap.size = w2.heap.size := Option.some.inj e
         have := HSZ3.out
         omega
end Go.Proofs.YtaboodioabopnaaGreat
namespace Go.Proofs.YtaboodioabopnaaGreat
open Go.RowKit Nt
set_option linter.unusedVariables false
def rowVal (w : World) : Value → Nat
 | .slice (some ⟨g, o, none⟩) n _ => vs (fun k => match w.cell? ⟨g, o + k, none⟩ with | some (.int _ z) => z.toNat | _ => 0) n
 | _ => 0
theorem vs_congr (f g : Nat → Nat) (n : Nat) (h : ∀ k, k < n → f k = g k) : vs f n = vs g n := by
 induction n with
 | zero => rfl
 | succ n ih => rw [vs, vs, ih (fun k hk => h k (by omega)), h n (by omega)]
theorem rowVal_of {w : World} {A : Option Addr} {n c : Nat} {ds : List Nat} (h : VRow w A n (nats ds)) : rowVal w (.slice A n c) = val ds := by
 have hl : ds.length = n := by simpa [nats_len] using h.1
 by_cases h0 : n = 0
 · subst h0
   have e := List.eq_nil_of_length_eq_zero hl
   subst e
   cases A with
   | none => rfl
   | some a => obtain ⟨g, o, s⟩ := a; cases s <;> rfl
 · obtain ⟨g, o, rfl, hlt, hc⟩ := h.2 (by omega)
   have e : val ds = vs (fun j => ds.getD j 0) n := by rw [vs_all ds n (by omega)]
   rw [e]
   refine vs_congr _ _ n fun k hk => ?_
   have hk2 : k < ds.length := by omega
   rw [hc k hk]
   simp [nats, ints, hk2]
theorem gcd_step (x y : Nat) : Nat.gcd y (x % y) = Nat.gcd x y := by
 rw [Nat.gcd_comm y (x % y), ← Nat.gcd_rec, Nat.gcd_comm]
def gcdN (xs ys : List Int) : List Nat := if okI xs = true ∧ okI ys = true then dig (Nat.gcd (val (toN xs)) (val (toN ys))) else []
theorem gcdN_yes {xs ys : List Int} (h1 : okI xs = true) (h2 : okI ys = true) : gcdN xs ys = dig (Nat.gcd (val (toN xs)) (val (toN ys))) := by rw [gcdN, if_pos ⟨h1, h2⟩]
theorem gcdN_no {xs ys : List Int} (h : okI xs = false ∨ okI ys = false) : gcdN xs ys = [] := by rw [gcdN, if_neg (by rintro ⟨h1, h2⟩; rcases h with h | h <;> simp_all)]
theorem gcd_lt {a b k : Nat} (ha : a < 1000000000 ^ k) (hb : b < 1000000000 ^ k) : Nat.gcd a b < 1000000000 ^ k := by
 rcases Nat.eq_zero_or_pos a with h | h
 · subst h; rw [Nat.gcd_zero_left]; exact hb
 · exact Nat.lt_of_le_of_lt (Nat.gcd_le_left b h) ha
set_option maxRecDepth 100000 in
set_option maxHeartbeats 1000000 in
theorem l02Plain_any (X Y : Nat) (w : World) (hX : X ≤ 9223372036854775807) (hY : Y ≤ 9223372036854775807) :
   Calls Tryz.prog 106 #[.int .i64 X, .int .i64 Y] w (OwnR 3 (nats (dig (Nat.gcd X Y))) w) := by
 go_enter Tryz.func106, Tryz.ntmps106
 go_wp2
 go_loop [0, 1] (fun a b => ∃ x y : Nat, a = .int .i64 x ∧ b = .int .i64 y ∧ x ≤ 9223372036854775807 ∧ y ≤ 9223372036854775807 ∧ Nat.gcd x y = Nat.gcd X Y) (fun _ b => (intOf b).toNat)
 case atStart => exact ⟨X, Y, rfl, rfl, hX, hY, rfl⟩
 case round =>
   obtain ⟨x, y, rfl, rfl, hx, hy, hg⟩ := hrel
   have HG := Lib.hid hg
   clear hg
   by_cases h0 : 0 < y
   · obtain ⟨r, hr⟩ : ∃ r, x % y = r := ⟨_, rfl⟩
     have hrb : r < y := by rw [← hr]; exact Nat.mod_lt _ h0
     have hrz : (x : Int) % (y : Int) = (r : Int) := by rw [← hr, Int.natCast_emod]
     have hyz : ¬ (y : Int) = 0 := by omega
     have hyb : ((y : Int) == 0) = false := beq_eq_false_iff_ne.mpr hyz
     have HR := Lib.hid hr
     clear hr
     go_wp2
     exact ⟨⟨y, r, rfl, by first | rfl | go_num, hy, by omega, by rw [← HR.out, gcd_step]; exact HG.out⟩, by simp [intOf]; omega⟩
   · obtain rfl : y = 0 := by omega
     go_wp2_with fail
     refine (natOf_spec (x : Int) _ (by omega)).mono ?_
     rintro e w1 ⟨v, rfl, ho, hb⟩
     have HO := Lib.hid ho
     have HB := Lib.hid hb
     clear ho hb
     go_wp2
     go_ret
     have hg := HG.out
     rw [Nat.gcd_zero_right] at hg
     have hv := HO.out
     rw [Int.toNat_natCast, hg] at hv
     exact ⟨_, rfl, hv, HB.out⟩
theorem intI_dig (X : Nat) (h : X < 1000000000 ^ 2) : intI ((dig X).map fun d : Nat => (d : Int)) = (X : Int) ∧ fitsI ((dig X).map fun d : Nat => (d : Int)) = true := by
 have hl : (dig X).length ≤ 60 := Nat.le_trans (dig_len h) (by decide)
 have hf : fitsI ((dig X).map fun d : Nat => (d : Int)) = true := by
   rw [fits_iff, toN_nats, val_dig]
   exact ⟨okI_of_nats (dig_can X) hl, by omega⟩
 refine ⟨?_, hf⟩
 rw [← int_yes hf, toN_nats, val_dig]
set_option maxRecDepth 100000 in
set_option maxHeartbeats 4000000 in
theorem l02Gcd_any (A B : Option Addr) (n c m d : Nat) (ds bs : List Nat) (w : World) (hA : VRow w A n (nats ds)) (hB : VRow w B m (nats bs)) (hds : Canon ds) (hbs : Canon bs) (hnA : A = none → c = 0) (hnB : B = none → d = 0) (hn : n ≤ 60) (hm : m ≤ 60) :
   Calls Tryz.prog 73 #[.slice A n c, .slice B m d] w (OwnR 3 (nats (dig (Nat.gcd (val ds) (val bs)))) w) := by
 obtain ⟨i0, hi, hz0, hz1, hz2⟩ := info_parts info_int
 have HL := Lib.hid (show ds.length = n by simpa [nats_len] using hA.1)
 have HM := Lib.hid (show bs.length = m by simpa [nats_len] using hB.1)
 have HNA := Lib.hid hnA
 have HNB := Lib.hid hnB
 have HA := Lib.hid hA
 have HB := Lib.hid hB
 have HD := Lib.hid hds
 have HS := Lib.hid hbs
 have HA1 := Lib.hid (hA.below ((Below.refl _ _).alloc (Nat.le_refl _) (.cells #[] 3)) (Nat.le_refl _))
 have HM1 := Lib.hid (World.ownsRow_made (base := w.heap.size) (e := 3) (size := 1) w #[] 0 (Nat.le_refl _) (Nat.zero_le _) rfl)
 have HOCd := Lib.hid (nats_oneCell ds)
 have HOCb := Lib.hid (nats_oneCell bs)
 clear hA hB hds hbs hnA hnB
 go_enter Tryz.func73, Tryz.ntmps73
 go_wp2_with (first
   | (at_builtin
      refine wpList_append_row rfl (.tmp 13) (.tmp 14) 33 rfl w.heap.size 3 i0 _ 8 Tryz.underlying33 hi hz0 hz1 hz2 rfl _ 0 [] rfl HM1.out A n c (nats ds) rfl HA1.out HNA.out HOCd.out (by unfold maxLen; omega) (by omega) (by simp) ?_
      intro v1 w1 hown1 hgrow1
      rw [Nat.zero_add, List.nil_append] at hown1
      have HO1 := Lib.hid (OwnV.of_own hown1)
      have HB1 := Lib.hid (((Below.refl w.heap.size w).alloc (Nat.le_refl _) _).grown hgrow1 (by simp) (fun k hk => by have e9 : w.heap.size = k := Option.some.inj hk; omega))
      clear hown1 hgrow1
      have HBB1 := Lib.hid ((HB.out.below HB1.out (Nat.le_refl _)).below ((Below.refl _ _).alloc (Nat.le_refl _) (.cells #[] 3)) (Nat.le_refl _))
      have HM2 := Lib.hid (World.ownsRow_made (base := w1.heap.size) (e := 3) (size := 1) w1 #[] 0 (Nat.le_refl _) (Nat.zero_le _) rfl))
   | (at_builtin
      refine wpList_append_row rfl (.tmp 16) (.tmp 17) 33 rfl w1.heap.size 3 i0 _ 8 Tryz.underlying33 hi hz0 hz1 hz2 rfl _ 0 [] rfl HM2.out B m d (nats bs) rfl HBB1.out HNB.out HOCb.out (by unfold maxLen; omega) (by omega) (by simp) ?_
      intro v2 w2 hown2 hgrow2))
 rw [Nat.zero_add, List.nil_append] at hown2
 have hb2 := ((Below.refl w1.heap.size w1).alloc (Nat.le_refl _) (.cells #[] 3)).grown hgrow2 (by simp) (fun k hk => by have e9 : w1.heap.size = k := Option.some.inj hk; omega)
 have HO2 := Lib.hid ((OwnV.of_own hown2).based HB1.out.size)
 have HO1' := Lib.hid (HO1.out.below hb2)
 have HB2 := Lib.hid (HB1.out.trans (hb2.mono HB1.out.size))
 clear hown2 hgrow2 hb2
 go_wp2
 go_loopw [5, 6] (fun a b wr => ∃ X Y : Nat, OwnV wr w.heap.size 3 a (nats (dig X)) ∧ OwnV wr w.heap.size 3 b (nats (dig Y)) ∧ X < 1000000000 ^ 60 ∧ Y < 1000000000 ^ 60 ∧ Nat.gcd X Y = Nat.gcd (val ds) (val bs) ∧ Below w.heap.size w wr) (fun _ b wr => rowVal wr b)
 case atStart =>
   refine ⟨val ds, val bs, ?_, ?_, ?_, ?_, rfl, HB2.out⟩
   · rw [dig_of_can HD.out]; exact HO1'.out
   · rw [dig_of_can HS.out]; exact HO2.out
   · exact Nat.lt_of_lt_of_le (val_lt HD.out.1) (Nat.pow_le_pow_right (by decide) (by rw [HL.out]; exact hn))
   · exact Nat.lt_of_lt_of_le (val_lt HS.out.1) (Nat.pow_le_pow_right (by decide) (by rw [HM.out]; exact hm))
 case round =>
   obtain ⟨X, Y, hox, hoy, hX, hY, hg, hb⟩ := hrel
   obtain ⟨Ax, cx, rfl⟩ := hox.shape
   obtain ⟨Ay, cy, rfl⟩ := hoy.shape
   have hlx : (nats (dig X)).length ≤ 60 := by rw [nats_len]; exact dig_len hX
   have hly : (nats (dig Y)).length ≤ 60 := by rw [nats_len]; exact dig_len hY
   have hRV : rowVal wr (.slice Ay (nats (dig Y)).length cy) = Y := by rw [rowVal_of hoy.row, val_dig]
   obtain ⟨lx, hlxe⟩ : ∃ lx, (nats (dig X)).length = lx := ⟨_, rfl⟩
   obtain ⟨ly, hlye⟩ : ∃ ly, (nats (dig Y)).length = ly := ⟨_, rfl⟩
   rw [hlxe] at hox hlx ⊢
   rw [hlye] at hoy hly hRV ⊢
   rw [nats_len] at hlxe hlye
   have HOX := Lib.hid hox
   have HOY := Lib.hid hoy
   have HX := Lib.hid hX
   have HY := Lib.hid hY
   have HG := Lib.hid hg
   have HBr := Lib.hid hb
   have HLX := Lib.hid hlxe
   have HLY := Lib.hid hlye
   have HRV := Lib.hid hRV
   clear hox hoy hX hY hg hb hlxe hlye hRV
   by_cases h0 : ly = 0
   · subst h0
     go_wp2
     go_ret
     have hY0 : Y = 0 := dig_nil_iff.mp (List.eq_nil_of_length_eq_zero HLY.out)
     have hg := HG.out
     rw [hY0, Nat.gcd_zero_right] at hg
     rw [← hg]
     exact ⟨_, rfl, HOX.out, HBr.out⟩
   · have hyp : 0 < Y := by
       rcases Nat.eq_zero_or_pos Y with h | h
       · exfalso; apply h0; rw [← HLY.out, h, dig_zero]; rfl
       · exact h
     have hlz : (0 : Int) < (ly : Int) := by omega
     by_cases hs : lx < 3 ∧ ly < 3
     · obtain ⟨hs1, hs2⟩ := hs
       have hX2 : X < 1000000000 ^ 2 := dig_len_iff.mp (by rw [HLX.out]; omega)
       have hY2 : Y < 1000000000 ^ 2 := dig_len_iff.mp (by rw [HLY.out]; omega)
       have hs1z : (lx : Int) < 3 := by omega
       have hs2z : (ly : Int) < 3 := by omega
       go_wp2_with fail
       refine (natToInt_spec _ _ _ ((dig X).map fun d : Nat => (d : Int)) _ HOX.out.row (by unfold maxLen; omega)).mono ?_
       rintro e w3 ⟨rfl, hb3⟩
       rw [(intI_dig X hX2).1, (intI_dig X hX2).2]
       have HB3 := Lib.hid (HBr.out.trans (hb3.mono HBr.out.size))
       have HOY3 := Lib.hid (HOY.out.below hb3)
       clear hb3
       go_wp2_with fail
       refine (natToInt_spec _ _ _ ((dig Y).map fun d : Nat => (d : Int)) _ HOY3.out.row (by unfold maxLen; omega)).mono ?_
       rintro e w4 ⟨rfl, hb4⟩
       rw [(intI_dig Y hY2).1, (intI_dig Y hY2).2]
       have HB4 := Lib.hid (HB3.out.trans (hb4.mono HB3.out.size))
       have hXm : X ≤ 9223372036854775807 := by omega
       have hYm : Y ≤ 9223372036854775807 := by omega
       clear hb4 hX2 hY2
       go_wp2_with fail
       refine (l02Plain_any X Y _ hXm hYm).mono ?_
       rintro e w5 ⟨v5, rfl, ho5, hb5⟩
       have HO5 := Lib.hid ho5
       have HB5 := Lib.hid (HB4.out.trans (hb5.mono HB4.out.size))
       clear ho5 hb5
       go_wp2
       go_ret
       refine ⟨_, rfl, ?_, HB5.out⟩
       rw [← HG.out]
       exact HO5.out.based HB4.out.size
     · by_cases hs1 : lx < 3
       · have hs2 : ¬ ly < 3 := fun h => hs ⟨hs1, h⟩
         have hs1z : (lx : Int) < 3 := by omega
         have hs2z : ¬ (ly : Int) < 3 := by omega
         go_wp2_with fail
         refine (l02Div_any _ _ _ _ _ _ (dig X) (dig Y) _ HOX.out.row HOY.out.row (dig_digs _) (dig_can _) (by omega) (by omega) (by omega)).mono ?_
         rintro e w3 ⟨v0, v3, rfl, ho0, ho3, _, _, hb3⟩
         rw [val_dig, val_dig] at ho3
         have HO3 := Lib.hid (ho3.based HBr.out.size)
         have HOY3 := Lib.hid (HOY.out.below hb3)
         have HB3 := Lib.hid (HBr.out.trans (hb3.mono HBr.out.size))
         clear ho0 ho3 hb3
         go_wp2
         refine ⟨⟨Y, X % Y, HOY3.out, HO3.out, HY.out, Nat.lt_trans (Nat.mod_lt _ hyp) HY.out, by rw [gcd_step]; exact HG.out, HB3.out⟩, ?_⟩
         rw [HRV.out]
         obtain ⟨A9, c9, hv9⟩ := HO3.out.shape
         have hr9 := HO3.out
         rw [hv9] at hr9 ⊢
         rw [rowVal_of hr9.row, val_dig]
         exact Nat.mod_lt _ hyp
       · have hs1z : ¬ (lx : Int) < 3 := by omega
         go_wp2_with fail
         refine (l02Div_any _ _ _ _ _ _ (dig X) (dig Y) _ HOX.out.row HOY.out.row (dig_digs _) (dig_can _) (by omega) (by omega) (by omega)).mono ?_
         rintro e w3 ⟨v0, v3, rfl, ho0, ho3, _, _, hb3⟩
         rw [val_dig, val_dig] at ho3
         have HO3 := Lib.hid (ho3.based HBr.out.size)
         have HOY3 := Lib.hid (HOY.out.below hb3)
         have HB3 := Lib.hid (HBr.out.trans (hb3.mono HBr.out.size))
         clear ho0 ho3 hb3
         go_wp2
         refine ⟨⟨Y, X % Y, HOY3.out, HO3.out, HY.out, Nat.lt_trans (Nat.mod_lt _ hyp) HY.out, by rw [gcd_step]; exact HG.out, HB3.out⟩, ?_⟩
         rw [HRV.out]
         obtain ⟨A9, c9, hv9⟩ := HO3.out.shape
         have hr9 := HO3.out
         rw [hv9] at hr9 ⊢
         rw [rowVal_of hr9.row, val_dig]
         exact Nat.mod_lt _ hyp
set_option maxRecDepth 100000 in
set_option maxHeartbeats 2000000 in
theorem natGcd_impl (A B : Option Addr) (n c m d : Nat) (xs ys : List Int) (w : World) (hA : VRow w A n (ints xs)) (hB : VRow w B m (ints ys)) (hn : n ≤ maxLen) (hm : m ≤ maxLen) :
   Calls Tryz.prog 87 #[.slice A n c, .slice B m d] w (OwnR 3 (nats (gcdN xs ys)) w) := by
 have HA := Lib.hid hA
 have HB := Lib.hid hB
 clear hA hB
 cases hx : okI xs with
 | false =>
   have HEQ := Lib.hid (gcdN_no (xs := xs) (ys := ys) (.inl hx))
   go_enter Tryz.func87, Tryz.ntmps87
   go_wp2_with fail
   refine (natOk_impl _ _ _ xs _ HA.out hn).mono ?_
   rintro e w1 ⟨rfl, hb⟩
   rw [hx]
   have HB1 := Lib.hid hb
   clear hb
   go_wp2
   go_ret
   rw [HEQ.out]
   exact ⟨_, rfl, OwnV.nil _ _ _, HB1.out⟩
 | true =>
   obtain ⟨hxn, hxc, hxl⟩ := okI_nats hx
   go_enter Tryz.func87, Tryz.ntmps87
   go_wp2_with fail
   refine (natOk_impl _ _ _ xs _ HA.out hn).mono ?_
   rintro e w1 ⟨rfl, hb⟩
   rw [hx]
   have HB1 := Lib.hid hb
   clear hb
   go_wp2_with fail
   refine (natOk_impl _ _ _ ys _ (HB.out.below HB1.out (Nat.le_refl _)) hm).mono ?_
   rintro e w2 ⟨rfl, hb⟩
   have HB2 := Lib.hid (HB1.out.trans (hb.mono HB1.out.size))
   clear hb
   cases hy : okI ys with
   | false =>
     have HEQ := Lib.hid (gcdN_no (xs := xs) (ys := ys) (.inr hy))
     go_wp2
     go_ret
     rw [HEQ.out]
     exact ⟨_, rfl, OwnV.nil _ _ _, HB2.out⟩
   | true =>
     obtain ⟨hyn, hyc, hyl⟩ := okI_nats hy
     have hA2 := HA.out.below HB2.out (Nat.le_refl _)
     have hBB2 := HB.out.below HB2.out (Nat.le_refl _)
     rw [hxn] at hA2
     rw [hyn] at hBB2
     have HEQ := Lib.hid (gcdN_yes hx hy)
     clear hxn hyn hx hy HA HB HB1
     generalize toN xs = ds at *
     generalize toN ys = es at *
     have HL := Lib.hid (show ds.length = n by simpa [nats_len] using hA2.1)
     have HM := Lib.hid (show es.length = m by simpa [nats_len] using hBB2.1)
     have hn60 : n ≤ 60 := by have := HL.out; omega
     have hm60 : m ≤ 60 := by have := HM.out; omega
     have HX := Lib.hid hxc
     have HY := Lib.hid hyc
     have HA2 := Lib.hid hA2
     have HBB2 := Lib.hid hBB2
     clear hxc hyc hA2 hBB2 hn hm hxl hyl
     obtain ⟨i0, hi, hz0, hz1, hz2⟩ := info_parts info_int
     by_cases hnm : n < m
     · have HMX := Lib.hid (show max (n : Int) (m : Int) = (m : Int) by omega)
       go_wp2_with fail
       refine (rowOf_any _ n c n _ (by first | rfl | omega) ds _ HA2.out (Nat.le_refl _) (by omega)).mono ?_
       rintro e w3 ⟨rfl, hw3, hb3⟩
       rw [Nat.sub_self, List.replicate_zero, List.append_nil] at hw3
       have HW3 := Lib.hid hw3
       have HSZ3 := Lib.hid hw3.lt.2
       have HBB3 := Lib.hid (HBB2.out.below hb3 (Nat.le_refl _))
       have HB3 := Lib.hid (HB2.out.trans (hb3.mono HB2.out.size))
       clear hw3 hb3
       go_wp2_with fail
       refine (rowOf_any _ m d m _ (by first | rfl | omega) es _ HBB3.out (Nat.le_refl _) (by omega)).mono ?_
       rintro e w4 ⟨rfl, hw4, hb4⟩
       rw [Nat.sub_self, List.replicate_zero, List.append_nil] at hw4
       have HWY := Lib.hid (hw4.based (Nat.le_of_lt HSZ3.out))
       have HSZ4 := Lib.hid hw4.lt.2
       have HWX := Lib.hid (HW3.out.below hb4)
       have HB4 := Lib.hid (HB3.out.trans (hb4.mono HB3.out.size))
       clear hw4 hb4 HW3
       go_wp2_with (at_make; refine wpList_make_full _ rfl _ _ _ rfl w4.heap.size 3 i0 _ 1 Tryz.underlying33 hi hz0 hz1 .i64 .i64 _ _ m rfl rfl HMX.out HMX.out (by rw [hz2]; omega) (by unfold maxLen; omega) (Nat.le_refl _) ?_; intro w5 hown hgrow)
       have hb5 := (Below.refl w4.heap.size w4).grown hgrow (Nat.le_refl _) (by simp)
       have HWQ := Lib.hid ((made_whole hown).based (show w2.heap.size ≤ w4.heap.size by have := HSZ3.out; have := HSZ4.out; omega))
       have HWX5 := Lib.hid (HWX.out.below hb5)
       have HWY5 := Lib.hid (HWY.out.below hb5)
       have HB5 := Lib.hid (HB4.out.trans (hb5.mono HB4.out.size))
       clear hown hgrow hb5 HWX HWY
       obtain ⟨gx, hgx⟩ : ∃ gx, w2.heap.size = gx := ⟨_, rfl⟩
       obtain ⟨gy, hgy⟩ : ∃ gy, w3.heap.size = gy := ⟨_, rfl⟩
       obtain ⟨gq, hgq⟩ : ∃ gq, w4.heap.size = gq := ⟨_, rfl⟩
       have hgne : gx ≠ gy ∧ gx ≠ gq ∧ gy ≠ gq := by have := HSZ3.out; have := HSZ4.out; omega
       have HGX := Lib.hid hgx
       have HGY := Lib.hid hgy
       have HGQ := Lib.hid hgq
       rw [hgx, hgy, hgq]
       clear hgx hgy hgq
       go_wp2
       go_loopw [5, 6] (fun a b wr => ∃ (X Y g1 g2 lx cx ly cy : Nat) (RX RY Z : List Nat), a = .slice (some ⟨g1, 0, none⟩) lx cx ∧ b = .slice (some ⟨g2, 0, none⟩) ly cy ∧ g1 ≠ g2 ∧ g1 ≠ gq ∧ g2 ≠ gq ∧ gx ≤ g1 ∧ gx ≤ g2 ∧ lx ≤ cx ∧ cx ≤ RX.length ∧ RX.length ≤ 60 ∧ ly ≤ cy ∧ cy ≤ RY.length ∧ RY.length ≤ 60 ∧ Digs RX ∧ Digs RY ∧ RX.take lx = dig X ∧ RY.take ly = dig Y ∧ lx ≤ m ∧ ly ≤ m ∧ Z.length = m ∧
           Whole wr gx g1 3 (nats RX) ∧ Whole wr gx g2 3 (nats RY) ∧ Whole wr gx gq 3 (nats Z) ∧ Nat.gcd X Y = Nat.gcd (val ds) (val es) ∧ Below w.heap.size w wr) (fun _ b wr => rowVal wr b)
       case atStart =>
         refine ⟨val ds, val es, gx, gy, n, n, m, m, ds, es, List.replicate m 0, rfl, rfl, hgne.1, hgne.2.1, hgne.2.2, Nat.le_refl _, ?_, Nat.le_refl _, by rw [HL.out]; exact Nat.le_refl _, by rw [HL.out]; omega, Nat.le_refl _, by rw [HM.out]; exact Nat.le_refl _, by rw [HM.out]; omega, HX.out.1, HY.out.1, ?_, ?_, by omega, by omega, by simp, ?_, ?_, ?_, rfl, HB5.out⟩
         · have := HWY5.out.lt.1; rw [HGX.out, HGY.out] at this; exact this
         · rw [List.take_of_length_le (by rw [HL.out]; exact Nat.le_refl _), dig_of_can HX.out]
         · rw [List.take_of_length_le (by rw [HM.out]; exact Nat.le_refl _), dig_of_can HY.out]
         · have h := HWX5.out; rw [HGX.out] at h; exact h
         · have h := HWY5.out; rw [HGX.out, HGY.out] at h; exact h
         · have h := HWQ.out; rw [HGX.out, HGQ.out] at h; exact h
       case round =>
         obtain ⟨X, Y, g1, g2, lx, cx, ly, cy, RX, RY, Z, rfl, rfl, h12, h1q, h2q, hgx1, hgx2, hlx, hcx, hrx, hly, hcy, hry, hdx, hdy, htx, hty, hlxq, hlyq, hzl, hwx, hwy, hwq, hg, hb⟩ := hrel
         have HDX := Lib.hid hdx
         have HDY := Lib.hid hdy
         have HTX := Lib.hid htx
         have HTY := Lib.hid hty
         have HWX := Lib.hid hwx
         have HWY := Lib.hid hwy
         have HWQ := Lib.hid hwq
         have HG := Lib.hid hg
         have HBr := Lib.hid hb
         clear hdx hdy htx hty hwx hwy hwq hg hb
         by_cases h0 : ly = 0
         · subst h0
           have hY0 : Y = 0 := by
             have h := HTY.out
             rw [List.take_zero] at h
             exact dig_nil_iff.mp h.symm
           have HY0 := Lib.hid hY0
           clear hY0
           go_wp2
           go_ret
           have hg := HG.out
           rw [HY0.out, Nat.gcd_zero_right] at hg
           refine ⟨_, rfl, ?_, HBr.out⟩
           rw [HEQ.out, ← hg, ← HTX.out]
           have h := (OwnV.of_whole HWX.out).cut (m := lx) (c2 := cx) (by rw [nats_len]; omega) hlx (by rw [nats_len]; exact hcx)
           rw [nats_take] at h
           exact h.based (by have := HB2.out.size; have := HGX.out; omega)
         · have hrowY : VRow wr (some ⟨g2, 0, none⟩) ly (nats (dig Y)) := by
             have h := HWY.out.row 0 ly (by rw [nats_len]; omega)
             rw [List.drop_zero, nats_take, HTY.out] at h
             exact h
           have hRV : rowVal wr (.slice (some ⟨g2, 0, none⟩) ly cy) = Y := by rw [rowVal_of hrowY, val_dig]
           have hyp : 0 < Y := by
             rcases Nat.eq_zero_or_pos Y with h | h
             · exfalso
               apply h0
               have e := congrArg List.length HTY.out
               rw [h, dig_zero, List.length_take] at e
               simp at e
               rcases e with e | e
               · exact e
               · rw [e] at hcy; simp at hcy; omega
             · exact h
           have HROW := Lib.hid hrowY
           have HRV := Lib.hid hRV
           clear hrowY hRV
           have hlz : (0 : Int) < (ly : Int) := by omega
           go_wp2_with fail
           refine (reduceRow_any g1 gq lx cx m m ly cy gx RX Z (dig Y) _ _ HWX.out HWQ.out HROW.out (fun a ha => by obtain rfl : (⟨g2, 0, none⟩ : Addr) = a := Option.some.inj ha; exact ⟨fun e => h12 e.symm, h2q⟩) h1q HDX.out (by rw [HTX.out]; exact dig_can X) (dig_can Y) hlx hcx (by omega) hlxq (by rw [hzl]; exact Nat.le_refl _) (by omega) (by omega)).mono ?_
           rintro e w6 ⟨r, rc, R, QS, rfl, hr1, hr2, hr3, hr4, hr5, hr6, hr7, hz5, hq1, hq2, hq3, hlv⟩
           rw [HTX.out, val_dig, val_dig] at hr1 hr6
           have HWY6 := Lib.hid (HWY.out.leaves hlv (fun e => h12 e.symm) h2q)
           have HB6 := Lib.hid (hlv.below HBr.out HBr.out.size (by have := HB2.out.size; have := HGX.out; omega) (by have := HB2.out.size; have := HGX.out; have := HWQ.out.lt.1; omega))
           have HR1 := Lib.hid hr1
           have HR5 := Lib.hid hr5
           have HR6 := Lib.hid hr6
           have HR7 := Lib.hid hr7
           have HZ5 := Lib.hid hz5
           have hrl : r ≤ ly := by
             have h1 := congrArg List.length HTY.out
             rw [List.length_take, Nat.min_eq_left (by omega)] at h1
             rw [hr1, h1]
             exact canon_len (dig_can _) (dig_digs _) (by rw [val_dig, val_dig]; exact Nat.le_of_lt (Nat.mod_lt _ hyp))
           have hzl2 : (qrow Z QS 0).length = m := by rw [qrow_len _ _ _ (by omega)]; exact hzl
           have HZL2 := Lib.hid hzl2
           clear hr1 hr5 hr6 hr7 hz5 hq2 hq3 hlv hzl2
           go_wp2
           refine ⟨⟨Y, X % Y, g2, g1, ly, cy, r, rc, RY, R, qrow Z QS 0, rfl, rfl, fun e => h12 e.symm, h2q, h1q, hgx2, hgx1, hly, hcy, hry, hr2, hr3, by omega, HDY.out, HR5.out, HTY.out, HR6.out, hlyq, by omega, HZL2.out, HWY6.out, HR7.out, HZ5.out, by rw [gcd_step]; exact HG.out, HB6.out⟩, ?_⟩
           rw [HRV.out]
           have hrow2 : VRow w6 (some ⟨g1, 0, none⟩) r (nats (dig (X % Y))) := by
             have h := HR7.out.row 0 r (by rw [nats_len]; omega)
             rw [List.drop_zero, nats_take, HR6.out] at h
             exact h
           rw [rowVal_of hrow2, val_dig]
           exact Nat.mod_lt _ hyp
     · have HMX := Lib.hid (show max (n : Int) (m : Int) = (n : Int) by omega)
       go_wp2_with fail
       refine (rowOf_any _ n c n _ (by first | rfl | omega) ds _ HA2.out (Nat.le_refl _) (by omega)).mono ?_
       rintro e w3 ⟨rfl, hw3, hb3⟩
       rw [Nat.sub_self, List.replicate_zero, List.append_nil] at hw3
       have HW3 := Lib.hid hw3
       have HSZ3 := Lib.hid hw3.lt.2
       have HBB3 := Lib.hid (HBB2.out.below hb3 (Nat.le_refl _))
       have HB3 := Lib.hid (HB2.out.trans (hb3.mono HB2.out.size))
       clear hw3 hb3
       go_wp2_with fail
       refine (rowOf_any _ m d m _ (by first | rfl | omega) es _ HBB3.out (Nat.le_refl _) (by omega)).mono ?_
       rintro e w4 ⟨rfl, hw4, hb4⟩
       rw [Nat.sub_self, List.replicate_zero, List.append_nil] at hw4
       have HWY := Lib.hid (hw4.based (Nat.le_of_lt HSZ3.out))
       have HSZ4 := Lib.hid hw4.lt.2
       have HWX := Lib.hid (HW3.out.below hb4)
       have HB4 := Lib.hid (HB3.out.trans (hb4.mono HB3.out.size))
       clear hw4 hb4 HW3
       go_wp2_with (at_make; refine wpList_make_full _ rfl _ _ _ rfl w4.heap.size 3 i0 _ 1 Tryz.underlying33 hi hz0 hz1 .i64 .i64 _ _ n rfl rfl HMX.out HMX.out (by rw [hz2]; omega) (by unfold maxLen; omega) (Nat.le_refl _) ?_; intro w5 hown hgrow)
       have hb5 := (Below.refl w4.heap.size w4).grown hgrow (Nat.le_refl _) (by simp)
       have HWQ := Lib.hid ((made_whole hown).based (show w2.heap.size ≤ w4.heap.size by have := HSZ3.out; have := HSZ4.out; omega))
       have HWX5 := Lib.hid (HWX.out.below hb5)
       have HWY5 := Lib.hid (HWY.out.below hb5)
       have HB5 := Lib.hid (HB4.out.trans (hb5.mono HB4.out.size))
       clear hown hgrow hb5 HWX HWY
       obtain ⟨gx, hgx⟩ : ∃ gx, w2.heap.size = gx := ⟨_, rfl⟩
       obtain ⟨gy, hgy⟩ : ∃ gy, w3.heap.size = gy := ⟨_, rfl⟩
       obtain ⟨gq, hgq⟩ : ∃ gq, w4.heap.size = gq := ⟨_, rfl⟩
       have hgne : gx ≠ gy ∧ gx ≠ gq ∧ gy ≠ gq := by have := HSZ3.out; have := HSZ4.out; omega
       have HGX := Lib.hid hgx
       have HGY := Lib.hid hgy
       have HGQ := Lib.hid hgq
       rw [hgx, hgy, hgq]
       clear hgx hgy hgq
       go_wp2
       go_loopw [5, 6] (fun a b wr => ∃ (X Y g1 g2 lx cx ly cy : Nat) (RX RY Z : List Nat), a = .slice (some ⟨g1, 0, none⟩) lx cx ∧ b = .slice (some ⟨g2, 0, none⟩) ly cy ∧ g1 ≠ g2 ∧ g1 ≠ gq ∧ g2 ≠ gq ∧ gx ≤ g1 ∧ gx ≤ g2 ∧ lx ≤ cx ∧ cx ≤ RX.length ∧ RX.length ≤ 60 ∧ ly ≤ cy ∧ cy ≤ RY.length ∧ RY.length ≤ 60 ∧ Digs RX ∧ Digs RY ∧ RX.take lx = dig X ∧ RY.take ly = dig Y ∧ lx ≤ n ∧ ly ≤ n ∧ Z.length = n ∧
           Whole wr gx g1 3 (nats RX) ∧ Whole wr gx g2 3 (nats RY) ∧ Whole wr gx gq 3 (nats Z) ∧ Nat.gcd X Y = Nat.gcd (val ds) (val es) ∧ Below w.heap.size w wr) (fun _ b wr => rowVal wr b)
       case atStart =>
         refine ⟨val ds, val es, gx, gy, n, n, m, m, ds, es, List.replicate n 0, rfl, rfl, hgne.1, hgne.2.1, hgne.2.2, Nat.le_refl _, ?_, Nat.le_refl _, by rw [HL.out]; exact Nat.le_refl _, by rw [HL.out]; omega, Nat.le_refl _, by rw [HM.out]; exact Nat.le_refl _, by rw [HM.out]; omega, HX.out.1, HY.out.1, ?_, ?_, by omega, by omega, by simp, ?_, ?_, ?_, rfl, HB5.out⟩
         · have := HWY5.out.lt.1; rw [HGX.out, HGY.out] at this; exact this
         · rw [List.take_of_length_le (by rw [HL.out]; exact Nat.le_refl _), dig_of_can HX.out]
         · rw [List.take_of_length_le (by rw [HM.out]; exact Nat.le_refl _), dig_of_can HY.out]
         · have h := HWX5.out; rw [HGX.out] at h; exact h
         · have h := HWY5.out; rw [HGX.out, HGY.out] at h; exact h
         · have h := HWQ.out; rw [HGX.out, HGQ.out] at h; exact h
       case round =>
         obtain ⟨X, Y, g1, g2, lx, cx, ly, cy, RX, RY, Z, rfl, rfl, h12, h1q, h2q, hgx1, hgx2, hlx, hcx, hrx, hly, hcy, hry, hdx, hdy, htx, hty, hlxq, hlyq, hzl, hwx, hwy, hwq, hg, hb⟩ := hrel
         have HDX := Lib.hid hdx
         have HDY := Lib.hid hdy
         have HTX := Lib.hid htx
         have HTY := Lib.hid hty
         have HWX := Lib.hid hwx
         have HWY := Lib.hid hwy
         have HWQ := Lib.hid hwq
         have HG := Lib.hid hg
         have HBr := Lib.hid hb
         clear hdx hdy htx hty hwx hwy hwq hg hb
         by_cases h0 : ly = 0
         · subst h0
           have hY0 : Y = 0 := by
             have h := HTY.out
             rw [List.take_zero] at h
             exact dig_nil_iff.mp h.symm
           have HY0 := Lib.hid hY0
           clear hY0
           go_wp2
           go_ret
           have hg := HG.out
           rw [HY0.out, Nat.gcd_zero_right] at hg
           refine ⟨_, rfl, ?_, HBr.out⟩
           rw [HEQ.out, ← hg, ← HTX.out]
           have h := (OwnV.of_whole HWX.out).cut (m := lx) (c2 := cx) (by rw [nats_len]; omega) hlx (by rw [nats_len]; exact hcx)
           rw [nats_take] at h
           exact h.based (by have := HB2.out.size; have := HGX.out; omega)
         · have hrowY : VRow wr (some ⟨g2, 0, none⟩) ly (nats (dig Y)) := by
             have h := HWY.out.row 0 ly (by rw [nats_len]; omega)
             rw [List.drop_zero, nats_take, HTY.out] at h
             exact h
           have hRV : rowVal wr (.slice (some ⟨g2, 0, none⟩) ly cy) = Y := by rw [rowVal_of hrowY, val_dig]
           have hyp : 0 < Y := by
             rcases Nat.eq_zero_or_pos Y with h | h
             · exfalso
               apply h0
               have e := congrArg List.length HTY.out
               rw [h, dig_zero, List.length_take] at e
               simp at e
               rcases e with e | e
               · exact e
               · rw [e] at hcy; simp at hcy; omega
             · exact h
           have HROW := Lib.hid hrowY
           have HRV := Lib.hid hRV
           clear hrowY hRV
           have hlz : (0 : Int) < (ly : Int) := by omega
           go_wp2_with fail
           refine (reduceRow_any g1 gq lx cx n n ly cy gx RX Z (dig Y) _ _ HWX.out HWQ.out HROW.out (fun a ha => by obtain rfl : (⟨g2, 0, none⟩ : Addr) = a := Option.some.inj ha; exact ⟨fun e => h12 e.symm, h2q⟩) h1q HDX.out (by rw [HTX.out]; exact dig_can X) (dig_can Y) hlx hcx (by omega) hlxq (by rw [hzl]; exact Nat.le_refl _) (by omega) (by omega)).mono ?_
           rintro e w6 ⟨r, rc, R, QS, rfl, hr1, hr2, hr3, hr4, hr5, hr6, hr7, hz5, hq1, hq2, hq3, hlv⟩
           rw [HTX.out, val_dig, val_dig] at hr1 hr6
           have HWY6 := Lib.hid (HWY.out.leaves hlv (fun e => h12 e.symm) h2q)
           have HB6 := Lib.hid (hlv.below HBr.out HBr.out.size (by have := HB2.out.size; have := HGX.out; omega) (by have := HB2.out.size; have := HGX.out; have := HWQ.out.lt.1; omega))
           have HR1 := Lib.hid hr1
           have HR5 := Lib.hid hr5
           have HR6 := Lib.hid hr6
           have HR7 := Lib.hid hr7
           have HZ5 := Lib.hid hz5
           have hrl : r ≤ ly := by
             have h1 := congrArg List.length HTY.out
             rw [List.length_take, Nat.min_eq_left (by omega)] at h1
             rw [hr1, h1]
             exact canon_len (dig_can _) (dig_digs _) (by rw [val_dig, val_dig]; exact Nat.le_of_lt (Nat.mod_lt _ hyp))
           have hzl2 : (qrow Z QS 0).length = n := by rw [qrow_len _ _ _ (by omega)]; exact hzl
           have HZL2 := Lib.hid hzl2
           clear hr1 hr5 hr6 hr7 hz5 hq2 hq3 hlv hzl2
           go_wp2
           refine ⟨⟨Y, X % Y, g2, g1, ly, cy, r, rc, RY, R, qrow Z QS 0, rfl, rfl, fun e => h12 e.symm, h2q, h1q, hgx2, hgx1, hly, hcy, hry, hr2, hr3, by omega, HDY.out, HR5.out, HTY.out, HR6.out, hlyq, by omega, HZL2.out, HWY6.out, HR7.out, HZ5.out, by rw [gcd_step]; exact HG.out, HB6.out⟩, ?_⟩
           rw [HRV.out]
           have hrow2 : VRow w6 (some ⟨g1, 0, none⟩) r (nats (dig (X % Y))) := by
             have h := HR7.out.row 0 r (by rw [nats_len]; omega)
             rw [List.drop_zero, nats_take, HR6.out] at h
             exact h
           rw [rowVal_of hrow2, val_dig]
           exact Nat.mod_lt _ hyp
end Go.Proofs.YtaboodioabopnaaGreat
