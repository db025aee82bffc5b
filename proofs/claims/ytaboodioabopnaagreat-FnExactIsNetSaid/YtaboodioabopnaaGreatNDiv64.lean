/- Contracts of math/bits.Add64 and Div64 at this program. Conditions: as each states. -/
import Derived.Test.YtaboodioabopnaaGreatProg
import Derived.Test.YtaboodioabopnaaGreatNShelf
import Derived.Test.YtaboodioabopnaaGreatNB1
import Derived.Laws.Externs
import Derived.Laws.Bits64b
namespace Go.Proofs.YtaboodioabopnaaGreat
open Go.RowKit Dv
set_option linter.unusedVariables false
theorem bitLen_spec (x : Nat) (hx : x < 18446744073709551616) : x < 2 ^ Lib.bitLen x ∧ (0 < x → 2 ^ Lib.bitLen x ≤ 2 * x) := by
 induction x using Nat.strongRecOn with
 | _ x ih =>
   by_cases h0 : x = 0
   · subst h0; decide
   · obtain ⟨h1, h2⟩ := ih (x / 2) (by omega) (by omega)
     rw [Lib.bitLen_half x h0 hx, Nat.add_comm, Nat.pow_succ]
     refine ⟨by omega, fun _ => ?_⟩
     by_cases h3 : 0 < x / 2
     · have := h2 h3; omega
     · have e : x / 2 = 0 := by omega
       rw [e]
       have : (2 : Nat) ^ Lib.bitLen 0 = 1 := by decide
       omega
theorem norm_shift (y : Nat) (h0 : 0 < y) (hy : y < 18446744073709551616) : ∃ s : Nat, (64 - (Lib.bitLen y : Int)) = (s : Int) ∧ s ≤ 63 ∧ y * 2 ^ s < 18446744073709551616 ∧ 9223372036854775808 ≤ y * 2 ^ s := by
 obtain ⟨h1, h2⟩ := bitLen_spec y hy
 have h2 := h2 h0
 have hL : Lib.bitLen y ≤ 64 := by
   rcases Nat.lt_or_ge 64 (Lib.bitLen y) with h | h
   · have : (2 : Nat) ^ 65 ≤ 2 ^ Lib.bitLen y := Nat.pow_le_pow_right (by decide) h
     omega
   · exact h
 have hL0 : 0 < Lib.bitLen y := by
   rcases Nat.eq_zero_or_pos (Lib.bitLen y) with h | h
   · rw [h] at h1; omega
   · exact h
 obtain ⟨s, hs⟩ : ∃ s, Lib.bitLen y + s = 64 := ⟨64 - Lib.bitLen y, by omega⟩
 have hp : 2 ^ Lib.bitLen y * 2 ^ s = 18446744073709551616 := by rw [← Nat.pow_add, hs]
 have hpos : 0 < 2 ^ s := Nat.pow_pos (by decide)
 refine ⟨s, by omega, by omega, ?_, ?_⟩
 · rw [← hp]; exact Nat.mul_lt_mul_of_pos_right h1 hpos
 · have h3 : 2 ^ Lib.bitLen y * 2 ^ s ≤ 2 * y * 2 ^ s := Nat.mul_le_mul_right _ h2
   rw [hp, Nat.mul_assoc] at h3
   omega
theorem shift_parts (hi lo y s : Nat) (hlo : lo < 18446744073709551616) (hh : hi < y) (hs : s ≤ 63) (hD : y * 2 ^ s < 18446744073709551616) :
   (hi * 18446744073709551616 + lo) * 2 ^ s = (hi * 2 ^ s + lo / 2 ^ (64 - s)) * 18446744073709551616 + lo * 2 ^ s % 18446744073709551616 ∧ hi * 2 ^ s + lo / 2 ^ (64 - s) < y * 2 ^ s ∧ lo / 2 ^ (64 - s) < 2 ^ s ∧ (hi * 2 ^ s ||| lo / 2 ^ (64 - s)) = hi * 2 ^ s + lo / 2 ^ (64 - s) := by
 have hp : 2 ^ (64 - s) * 2 ^ s = 18446744073709551616 := by rw [← Nat.pow_add]; have : 64 - s + s = 64 := by omega
                                                             rw [this]
 have h1 : lo * 2 ^ s / 18446744073709551616 = lo / 2 ^ (64 - s) := by
   rw [← hp]; exact Nat.mul_div_mul_right _ _ (Nat.pow_pos (by decide))
 have h2 : lo / 2 ^ (64 - s) < 2 ^ s := by
   rw [Nat.div_lt_iff_lt_mul (Nat.pow_pos (by decide)), Nat.mul_comm, hp]; exact hlo
 have h3 := Nat.div_add_mod (lo * 2 ^ s) 18446744073709551616
 rw [h1] at h3
 have h4 : (hi + 1) * 2 ^ s ≤ y * 2 ^ s := Nat.mul_le_mul_right _ hh
 rw [Nat.add_mul] at h4
 refine ⟨?_, by omega, h2, ?_⟩
 · rw [Nat.add_mul, Nat.add_mul, Nat.mul_assoc hi, Nat.mul_comm 18446744073709551616 (2 ^ s), ← Nat.mul_assoc]
   omega
 · rw [Nat.mul_comm hi, ← Nat.two_pow_add_eq_or_of_lt h2]
theorem add64_run (x y c : Nat) (hc : c ≤ 1) (w : World) :
   (callFunc 143 #[.int .u64 x, .int .u64 y, .int .u64 c]).run Tryz.prog w =
     .ok (.value (.tuple #[.int .u64 (((x + y + c) % 18446744073709551616 : Nat) : Int), .int .u64 (((x + y + c) / 18446744073709551616 : Nat) : Int)])) w := by
 rw [run_callFunc_extern Tryz.func143 (by kernel_rfl) (by kernel_rfl) (by kernel_rfl) (e := add64Entry) (by kernel_rfl), run_add64 x y c (by omega) (by omega) (by omega) (by omega)]
 simp only [Result.andThen]
 congr 5 <;> omega
theorem ret_pair {k : IntKind} {a a' b b' : Int} (h1 : a = a') (h2 : b = b') : Ending.returned (.tuple #[.int k a, .int k b]) = .returned (.tuple #[.int k a', .int k b']) := by rw [h1, h2]
theorem mask32 (a : Nat) (ha : a < 18446744073709551616) : bits .and .u64 (a : Int) 4294967295 = ((a % 4294967296 : Nat) : Int) := by
 have h := bits_and_u64_nat a 4294967295 ha (by omega)
 have e : a &&& 4294967295 = a % 4294967296 := Nat.and_two_pow_sub_one_eq_mod a 32
 rw [e] at h
 exact h
set_option maxRecDepth 100000 in
set_option maxHeartbeats 1000000 in
theorem div64_zero (lo y : Nat) (w : World) (hy : 0 < y) (hy2 : y < 18446744073709551616) (hlo : lo < 18446744073709551616) :
   Calls Tryz.prog 144 #[.int .u64 0, .int .u64 lo, .int .u64 y] w fun e w' => e = .returned (.tuple #[.int .u64 ((lo / y : Nat) : Int), .int .u64 ((lo % y : Nat) : Int)]) ∧ ∃ q, w' = w.drewN q := by
 have h1 : ¬ (y : Int) ≤ 0 := by omega
 have h2 : ((y : Int) == 0) = false := by simp; omega
 have h3 : ¬ (y : Int) = 0 := by omega
 go_enter Tryz.func144, Tryz.ntmps144
 go_wp2
 go_quiet (fail)
 go_wp2
 go_ret2
 refine ⟨ret_pair ?_ ?_, _, rfl⟩
 case refine_2 =>
   have hle := Nat.mod_le lo y
   first | rfl | (rw [← Int.natCast_emod]) | (rw [← Int.natCast_emod, IntKind.wrap_u64]; generalize lo % y = X at *; omega)
 have hle := Nat.div_le_self lo y
 rw [← Int.natCast_ediv, IntKind.wrap_u64]
 generalize lo / y = X at *
 omega
theorem start_facts (u d1 d0 v : Nat) (h1 : 2147483648 ≤ d1) (h2 : d1 < 4294967296) (hu : u < d1 * 4294967296 + d0) (hd0 : d0 < 4294967296) (hv : v < 4294967296) (hub : u < 18446744073709551616) :
   ∃ q r : Nat, ((u : Int) / (d1 : Int) = (q : Int) ∧ IntKind.u64.wrap ((u : Int) - IntKind.u64.wrap ((q : Int) * (d1 : Int))) = (r : Int) ∧ IntKind.u64.wrap (q : Int) = (q : Int)) ∧ Hid (Trial 4294967296 u d1 d0 v q r ∧ q ≤ 4294967297 ∧ r < 4294967296) := by
 refine ⟨u / d1, u - u / d1 * d1, ⟨by simp, ?_, ?_⟩, Lib.hid ⟨trial_start _ _ _ _ _ (by omega) hv, ?_, ?_⟩⟩
 · have h := Nat.div_mul_le_self u d1
   rw [← Int.natCast_mul]
   simp only [IntKind.wrap_u64]
   generalize u / d1 * d1 = X at *
   omega
 · have h := Nat.div_le_self u d1
   rw [IntKind.wrap_u64]
   generalize u / d1 = X at *
   omega
 · have := trial_first (b := 4294967296) (u := u) (d1 := d1) (d0 := d0) (by omega) hu hd0 (by omega)
   omega
 · have h3 := Nat.mod_lt u (show 0 < d1 by omega)
   have h4 := Nat.div_add_mod' u d1
   omega
set_option maxRecDepth 100000 in
set_option maxHeartbeats 1000000 in
theorem div64_core (hi lo y s D d1 d0 u v v1 v0 : Nat) (w : World) (hhi : 0 < hi) (hy : hi < y) (hy2 : y < 18446744073709551616) (hlo : lo < 18446744073709551616)
   (hs : (64 - (Lib.bitLen y : Int)) = (s : Int)) (hs63 : s ≤ 63) (hDD : y * 2 ^ s = D) (hDb : D < 18446744073709551616) (hDn : 9223372036854775808 ≤ D)
   (hsh : (hi * 18446744073709551616 + lo) * 2 ^ s = u * 18446744073709551616 + v) (huD : u < D) (hvb : v < 18446744073709551616)
   (hd1 : D / 4294967296 = d1) (hd0 : D % 4294967296 = d0) (hv1 : v / 4294967296 = v1) (hv0 : v % 4294967296 = v0)
   (hyD : IntKind.u64.wrap ((y : Int) * 2 ^ s) = (D : Int)) (huw : bits .or .u64 (IntKind.u64.wrap ((hi : Int) * 2 ^ s)) ((lo : Int) / 2 ^ (64 - s)) = (u : Int)) (hvw : IntKind.u64.wrap ((lo : Int) * 2 ^ s) = (v : Int)) :
   Calls Tryz.prog 144 #[.int .u64 hi, .int .u64 lo, .int .u64 y] w fun e w' => e = .returned (.tuple #[.int .u64 (((hi * 18446744073709551616 + lo) / y : Nat) : Int), .int .u64 (((hi * 18446744073709551616 + lo) % y : Nat) : Int)]) ∧ w' = w := by
 have HBL := Lib.hid hs
 have HSH := Lib.hid hsh
 have HDD := Lib.hid hDD
 have HYD := Lib.hid hyD
 have HUW := Lib.hid huw
 have HVW := Lib.hid hvw
 clear hs hsh hDD hyD huw hvw
 have h1 : ¬ (y : Int) ≤ (hi : Int) := by omega
 have h3 : ¬ (y : Int) = 0 := by omega
 have h2 : ((y : Int) == 0) = false := beq_eq_false_iff_ne.mpr h3
 have h4 : ((hi : Int) == 0) = false := beq_eq_false_iff_ne.mpr (by omega)
 have hDe : d1 * 4294967296 + d0 = D := by omega
 have HDP := Lib.hid (show 0 < d1 * 4294967296 + d0 by rw [hDe]; omega)
 have HUD := Lib.hid (show u < d1 * 4294967296 + d0 by rw [hDe]; exact huD)
 have hd1b : d1 < 4294967296 ∧ 2147483648 ≤ d1 := by omega
 have hd0b : d0 < 4294967296 := by omega
 have hv1b : v1 < 4294967296 := by omega
 have hv0b : v0 < 4294967296 := by omega
 have hve : v1 * 4294967296 + v0 = v := by rw [← hv1, ← hv0]; exact Nat.div_add_mod' v 4294967296
 go_enter Tryz.func144, Tryz.ntmps144
 go_wp2_with fail
 refine (Tryz.bits_LeadingZeros64 _ _ (by omega) (by omega)).mono ?_
 rintro e w1 ⟨rfl, rfl⟩
 rw [Int.toNat_natCast, HBL.out]
 have hws : IntKind.u64.wrap (s : Int) = (s : Int) := by rw [IntKind.wrap_u64]; omega
 have hmin : min s 64 = s := by omega
 have hw64 : IntKind.u64.wrap (64 - (s : Int)) = ((64 - s : Nat) : Int) := by rw [IntKind.wrap_u64]; omega
 have hmin2 : min (64 - s) 64 = 64 - s := by omega
 have hdz1 : (D : Int) / 4294967296 = (d1 : Int) := by omega
 have hdz0 : bits .and .u64 (D : Int) 4294967295 = (d0 : Int) := by rw [mask32 D hDb, hd0]
 have hvz1 : (v : Int) / 4294967296 = (v1 : Int) := by omega
 have hvz0 : bits .and .u64 (v : Int) 4294967295 = (v0 : Int) := by rw [mask32 v hvb, hv0]
 have hd1z : ((d1 : Int) == 0) = false := by simp; omega
 obtain ⟨qa, ra, hua, HAT⟩ := start_facts u d1 d0 v1 hd1b.2 hd1b.1 (by omega) hd0b hv1b (by omega)
 obtain ⟨huq, hum, huw1⟩ := hua
 have hyD := HYD.out
 have huw := HUW.out
 have hvw := HVW.out
 clear hd1 hd0 hv1 hv0
 go_wp2
 go_loop [15, 16] (fun a b => ∃ q r : Nat, a = .int .u64 q ∧ b = .int .u64 r ∧ Trial 4294967296 u d1 d0 v1 q r ∧ q ≤ 4294967297 ∧ r < 4294967296) (fun a _ => (intOf a).toNat)
 case atStart => exact ⟨qa, ra, rfl, rfl, HAT.out⟩
 case round =>
   obtain ⟨q, r, rfl, rfl, ht, hqb, hrb⟩ := hrel
   have HT := Lib.hid ht
   clear ht
   have hqd : q < 4294967296 → q * d0 < 18446744073709551616 := fun h => by
     have : q * d0 ≤ 4294967295 * 4294967295 := Nat.mul_le_mul (by omega) (by omega)
     omega
   by_cases hq1 : 4294967296 ≤ q
   · have HM := Lib.hid (trial_more HT.out (by omega) (by omega) (by omega) (.inl hq1))
     have hq1z : (4294967296 : Int) ≤ (q : Int) := by omega
     clear hqd
     have hq0 : 0 < q := Nat.lt_of_le_of_lt (Nat.zero_le _) HM.out
     by_cases hbr : 4294967296 ≤ r + d1
     · have hQ := trial_break (trial_step HT.out HM.out) (by omega) (by omega) (by omega) hbr
       have hbrz : (4294967296 : Int) ≤ (r : Int) + (d1 : Int) := by omega
       have HQ1 := Lib.hid hQ
       have hq1b : (q - 1) < 4294967296 := by rw [hQ]; exact quo_lt _ _ _ _ HDP.out HUD.out hv1b
       obtain ⟨t, htt⟩ : ∃ t, (u * 4294967296 + v1) % D = t := ⟨_, rfl⟩
       have HREM := Lib.hid (show (hi * 18446744073709551616 + lo) % y = (t * 4294967296 + v0) % (d1 * 4294967296 + d0) / 2 ^ s by
         rw [shift_mod _ y (2 ^ s) (Nat.pow_pos (by decide)), HSH.out, HDD.out]
         have e : u * 18446744073709551616 + v = (u * 4294967296 + v1) * 4294967296 + v0 := by rw [← hve, Nat.add_mul, Nat.mul_assoc u, Nat.add_assoc]
         rw [e, two_mod 4294967296 u v1 v0 D, htt, hDe])
       have htD : t < D := by rw [← htt]; exact Nat.mod_lt _ (by omega)
       have HTD := Lib.hid (show t < d1 * 4294967296 + d0 by rw [hDe]; exact htD)
       have h21 : IntKind.u64.wrap (IntKind.u64.wrap (IntKind.u64.wrap ((u : Int) * 4294967296) + (v1 : Int)) - IntKind.u64.wrap (((q : Int) - 1) * (D : Int))) = (t : Int) := by
         have h := Nat.div_add_mod (u * 4294967296 + v1) D
         rw [← hDe, ← hQ, hDe, htt] at h
         simp only [IntKind.wrap_u64]
         have hz : (D : Int) * (((q - 1) : Nat) : Int) + (t : Int) = (u : Int) * 4294967296 + v1 := by rw [← Int.natCast_mul]; omega
         have hz2 : ((q : Int) - 1) * (D : Int) = (D : Int) * (((q - 1) : Nat) : Int) := by rw [Int.mul_comm]; try (congr 1 <;> omega)
         rw [hz2]
         generalize (D : Int) * (((q - 1) : Nat) : Int) = X at *
         omega
       have HRES := Lib.hid (show (hi * 18446744073709551616 + lo) / y = (q - 1) * 4294967296 + (t * 4294967296 + v0) / (d1 * 4294967296 + d0) by
         rw [← shift_div _ y (2 ^ s) (Nat.pow_pos (by decide)), HSH.out, HDD.out]
         have e : u * 18446744073709551616 + v = (u * 4294967296 + v1) * 4294967296 + v0 := by rw [← hve, Nat.add_mul, Nat.mul_assoc u, Nat.add_assoc]
         rw [e, two_steps 4294967296 u v1 v0 D (by omega), htt, hDe, hQ, hDe])
       obtain ⟨qb, rb, htb, HBT⟩ := start_facts t d1 d0 v0 hd1b.2 hd1b.1 (by omega) hd0b hv0b (by omega)
       obtain ⟨htq, htm, htw1⟩ := htb
       clear hQ htt
       go_wp2
       go_loop [18, 16] (fun a b => ∃ q r : Nat, a = .int .u64 q ∧ b = .int .u64 r ∧ Trial 4294967296 t d1 d0 v0 q r ∧ q ≤ 4294967297 ∧ r < 4294967296) (fun a _ => (intOf a).toNat)
       case atStart => exact ⟨qb, rb, rfl, rfl, HBT.out⟩
       case round =>
         obtain ⟨q, r, rfl, rfl, ht, hqb, hrb⟩ := hrel
         have HT := Lib.hid ht
         clear ht
         have hqd : q < 4294967296 → q * d0 < 18446744073709551616 := fun h => by
           have : q * d0 ≤ 4294967295 * 4294967295 := Nat.mul_le_mul (by omega) (by omega)
           omega
         by_cases hq1 : 4294967296 ≤ q
         · have HM := Lib.hid (trial_more HT.out (by omega) (by omega) (by omega) (.inl hq1))
           have hq1z : (4294967296 : Int) ≤ (q : Int) := by omega
           clear hqd
           have hq0 : 0 < q := Nat.lt_of_le_of_lt (Nat.zero_le _) HM.out
           by_cases hbr : 4294967296 ≤ r + d1
           · have hQ := trial_break (trial_step HT.out HM.out) (by omega) (by omega) (by omega) hbr
             have hbrz : (4294967296 : Int) ≤ (r : Int) + (d1 : Int) := by omega
             have HQ0 := Lib.hid hQ
             clear hQ
             have hfin : (q - 1) < 4294967296 := by rw [HQ0.out]; exact quo_lt _ _ _ _ HDP.out HTD.out hv0b
             obtain ⟨t2, ht2⟩ : ∃ t2, (t * 4294967296 + v0) % (d1 * 4294967296 + d0) = t2 := ⟨_, rfl⟩
             have hrem : IntKind.u64.wrap (IntKind.u64.wrap (IntKind.u64.wrap ((t : Int) * 4294967296) + (v0 : Int)) - IntKind.u64.wrap (((q : Int) - 1) * (D : Int))) = (t2 : Int) := by
               have h := Nat.div_add_mod (t * 4294967296 + v0) (d1 * 4294967296 + d0)
               have ht2b : t2 < d1 * 4294967296 + d0 := by rw [← ht2]; exact Nat.mod_lt _ HDP.out
               rw [← HQ0.out, ht2, hDe] at h
               rw [hDe] at ht2b
               simp only [IntKind.wrap_u64]
               have hz : (D : Int) * (((q - 1) : Nat) : Int) + (t2 : Int) = (t : Int) * 4294967296 + v0 := by rw [← Int.natCast_mul]; omega
               have hz2 : ((q : Int) - 1) * (D : Int) = (D : Int) * (((q - 1) : Nat) : Int) := by rw [Int.mul_comm]; try (congr 1 <;> omega)
               rw [hz2]
               generalize (D : Int) * (((q - 1) : Nat) : Int) = X at *
               omega
             have HT2 := Lib.hid ht2
             clear ht2
             go_wp2
             go_ret2
             refine ⟨ret_pair ?_ ?_, rfl⟩
             case refine_2 =>
               have e := HREM.out
               rw [HT2.out] at e
               have ez : ((hi : Int) * 18446744073709551616 + (lo : Int)) % (y : Int) = (((hi * 18446744073709551616 + lo) % y : Nat) : Int) := by rw [Int.natCast_emod, Int.natCast_add, Int.natCast_mul]; rfl
               rw [ez, e, Int.natCast_ediv, Int.natCast_pow]
               rfl
             have e := HRES.out
             rw [← HQ0.out] at e
             have ez : ((hi : Int) * 18446744073709551616 + (lo : Int)) / (y : Int) = (((hi * 18446744073709551616 + lo) / y : Nat) : Int) := by rw [Int.natCast_ediv, Int.natCast_add, Int.natCast_mul]; rfl
             rw [ez, e]
             omega
           · have hbrz : ¬ (4294967296 : Int) ≤ (r : Int) + (d1 : Int) := by omega
             go_wp2
             exact ⟨⟨q - 1, r + d1, by go_num, by go_num, trial_step HT.out HM.out, by omega, by omega⟩, by simp [intOf]; omega⟩
         · obtain ⟨p, hp⟩ : ∃ p, q * d0 = p := ⟨_, rfl⟩
           have hpb := hqd (by omega)
           rw [hp] at hpb
           have hpz : (q : Int) * (d0 : Int) = (p : Int) := by rw [← hp]; simp
           have hq1z : ¬ (4294967296 : Int) ≤ (q : Int) := by omega
           clear hqd
           by_cases hq2 : 4294967296 * r + v0 < p
           · have HM := Lib.hid (trial_more HT.out (by omega) (by omega) (by omega) (.inr (by rw [hp]; exact hq2)))
             have hq2z : (4294967296 : Int) * (r : Int) + (v0 : Int) < (p : Int) := by omega
             clear hp
             have hq0 : 0 < q := Nat.lt_of_le_of_lt (Nat.zero_le _) HM.out
             by_cases hbr : 4294967296 ≤ r + d1
             · have hQ := trial_break (trial_step HT.out HM.out) (by omega) (by omega) (by omega) hbr
               have hbrz : (4294967296 : Int) ≤ (r : Int) + (d1 : Int) := by omega
               have HQ0 := Lib.hid hQ
               clear hQ
               have hfin : (q - 1) < 4294967296 := by rw [HQ0.out]; exact quo_lt _ _ _ _ HDP.out HTD.out hv0b
               obtain ⟨t2, ht2⟩ : ∃ t2, (t * 4294967296 + v0) % (d1 * 4294967296 + d0) = t2 := ⟨_, rfl⟩
               have hrem : IntKind.u64.wrap (IntKind.u64.wrap (IntKind.u64.wrap ((t : Int) * 4294967296) + (v0 : Int)) - IntKind.u64.wrap (((q : Int) - 1) * (D : Int))) = (t2 : Int) := by
                 have h := Nat.div_add_mod (t * 4294967296 + v0) (d1 * 4294967296 + d0)
                 have ht2b : t2 < d1 * 4294967296 + d0 := by rw [← ht2]; exact Nat.mod_lt _ HDP.out
                 rw [← HQ0.out, ht2, hDe] at h
                 rw [hDe] at ht2b
                 simp only [IntKind.wrap_u64]
                 have hz : (D : Int) * (((q - 1) : Nat) : Int) + (t2 : Int) = (t : Int) * 4294967296 + v0 := by rw [← Int.natCast_mul]; omega
                 have hz2 : ((q : Int) - 1) * (D : Int) = (D : Int) * (((q - 1) : Nat) : Int) := by rw [Int.mul_comm]; try (congr 1 <;> omega)
                 rw [hz2]
                 generalize (D : Int) * (((q - 1) : Nat) : Int) = X at *
                 omega
               have HT2 := Lib.hid ht2
               clear ht2
               go_wp2
               go_ret2
               refine ⟨ret_pair ?_ ?_, rfl⟩
               case refine_2 =>
                 have e := HREM.out
                 rw [HT2.out] at e
                 have ez : ((hi : Int) * 18446744073709551616 + (lo : Int)) % (y : Int) = (((hi * 18446744073709551616 + lo) % y : Nat) : Int) := by rw [Int.natCast_emod, Int.natCast_add, Int.natCast_mul]; rfl
                 rw [ez, e, Int.natCast_ediv, Int.natCast_pow]
                 rfl
               have e := HRES.out
               rw [← HQ0.out] at e
               have ez : ((hi : Int) * 18446744073709551616 + (lo : Int)) / (y : Int) = (((hi * 18446744073709551616 + lo) / y : Nat) : Int) := by rw [Int.natCast_ediv, Int.natCast_add, Int.natCast_mul]; rfl
               rw [ez, e]
               omega
             · have hbrz : ¬ (4294967296 : Int) ≤ (r : Int) + (d1 : Int) := by omega
               go_wp2
               exact ⟨⟨q - 1, r + d1, by go_num, by go_num, trial_step HT.out HM.out, by omega, by omega⟩, by simp [intOf]; omega⟩
           · have hQ := trial_done HT.out (by omega) (by rw [hp]; omega)
             have hq2z : ¬ (4294967296 : Int) * (r : Int) + (v0 : Int) < (p : Int) := by omega
             clear hp
             have HQ0 := Lib.hid hQ
             clear hQ
             have hfin : q < 4294967296 := by rw [HQ0.out]; exact quo_lt _ _ _ _ HDP.out HTD.out hv0b
             obtain ⟨t2, ht2⟩ : ∃ t2, (t * 4294967296 + v0) % (d1 * 4294967296 + d0) = t2 := ⟨_, rfl⟩
             have hrem : IntKind.u64.wrap (IntKind.u64.wrap (IntKind.u64.wrap ((t : Int) * 4294967296) + (v0 : Int)) - IntKind.u64.wrap ((q : Int) * (D : Int))) = (t2 : Int) := by
               have h := Nat.div_add_mod (t * 4294967296 + v0) (d1 * 4294967296 + d0)
               have ht2b : t2 < d1 * 4294967296 + d0 := by rw [← ht2]; exact Nat.mod_lt _ HDP.out
               rw [← HQ0.out, ht2, hDe] at h
               rw [hDe] at ht2b
               simp only [IntKind.wrap_u64]
               have hz : (D : Int) * ((q : Nat) : Int) + (t2 : Int) = (t : Int) * 4294967296 + v0 := by rw [← Int.natCast_mul]; omega
               have hz2 : (q : Int) * (D : Int) = (D : Int) * ((q : Nat) : Int) := by rw [Int.mul_comm]; try (congr 1 <;> omega)
               rw [hz2]
               generalize (D : Int) * ((q : Nat) : Int) = X at *
               omega
             have HT2 := Lib.hid ht2
             clear ht2
             go_wp2
             go_ret2
             refine ⟨ret_pair ?_ ?_, rfl⟩
             case refine_2 =>
               have e := HREM.out
               rw [HT2.out] at e
               have ez : ((hi : Int) * 18446744073709551616 + (lo : Int)) % (y : Int) = (((hi * 18446744073709551616 + lo) % y : Nat) : Int) := by rw [Int.natCast_emod, Int.natCast_add, Int.natCast_mul]; rfl
               rw [ez, e, Int.natCast_ediv, Int.natCast_pow]
               rfl
             have e := HRES.out
             rw [← HQ0.out] at e
             have ez : ((hi : Int) * 18446744073709551616 + (lo : Int)) / (y : Int) = (((hi * 18446744073709551616 + lo) / y : Nat) : Int) := by rw [Int.natCast_ediv, Int.natCast_add, Int.natCast_mul]; rfl
             rw [ez, e]
             omega
     · have hbrz : ¬ (4294967296 : Int) ≤ (r : Int) + (d1 : Int) := by omega
       go_wp2
       exact ⟨⟨q - 1, r + d1, by go_num, by go_num, trial_step HT.out HM.out, by omega, by omega⟩, by simp [intOf]; omega⟩
   · obtain ⟨p, hp⟩ : ∃ p, q * d0 = p := ⟨_, rfl⟩
     have hpb := hqd (by omega)
     rw [hp] at hpb
     have hpz : (q : Int) * (d0 : Int) = (p : Int) := by rw [← hp]; simp
     have hq1z : ¬ (4294967296 : Int) ≤ (q : Int) := by omega
     clear hqd
     by_cases hq2 : 4294967296 * r + v1 < p
     · have HM := Lib.hid (trial_more HT.out (by omega) (by omega) (by omega) (.inr (by rw [hp]; exact hq2)))
       have hq2z : (4294967296 : Int) * (r : Int) + (v1 : Int) < (p : Int) := by omega
       clear hp
       have hq0 : 0 < q := Nat.lt_of_le_of_lt (Nat.zero_le _) HM.out
       by_cases hbr : 4294967296 ≤ r + d1
       · have hQ := trial_break (trial_step HT.out HM.out) (by omega) (by omega) (by omega) hbr
         have hbrz : (4294967296 : Int) ≤ (r : Int) + (d1 : Int) := by omega
         have HQ1 := Lib.hid hQ
         have hq1b : (q - 1) < 4294967296 := by rw [hQ]; exact quo_lt _ _ _ _ HDP.out HUD.out hv1b
         obtain ⟨t, htt⟩ : ∃ t, (u * 4294967296 + v1) % D = t := ⟨_, rfl⟩
         have HREM := Lib.hid (show (hi * 18446744073709551616 + lo) % y = (t * 4294967296 + v0) % (d1 * 4294967296 + d0) / 2 ^ s by
           rw [shift_mod _ y (2 ^ s) (Nat.pow_pos (by decide)), HSH.out, HDD.out]
           have e : u * 18446744073709551616 + v = (u * 4294967296 + v1) * 4294967296 + v0 := by rw [← hve, Nat.add_mul, Nat.mul_assoc u, Nat.add_assoc]
           rw [e, two_mod 4294967296 u v1 v0 D, htt, hDe])
         have htD : t < D := by rw [← htt]; exact Nat.mod_lt _ (by omega)
         have HTD := Lib.hid (show t < d1 * 4294967296 + d0 by rw [hDe]; exact htD)
         have h21 : IntKind.u64.wrap (IntKind.u64.wrap (IntKind.u64.wrap ((u : Int) * 4294967296) + (v1 : Int)) - IntKind.u64.wrap (((q : Int) - 1) * (D : Int))) = (t : Int) := by
           have h := Nat.div_add_mod (u * 4294967296 + v1) D
           rw [← hDe, ← hQ, hDe, htt] at h
           simp only [IntKind.wrap_u64]
           have hz : (D : Int) * (((q - 1) : Nat) : Int) + (t : Int) = (u : Int) * 4294967296 + v1 := by rw [← Int.natCast_mul]; omega
           have hz2 : ((q : Int) - 1) * (D : Int) = (D : Int) * (((q - 1) : Nat) : Int) := by rw [Int.mul_comm]; try (congr 1 <;> omega)
           rw [hz2]
           generalize (D : Int) * (((q - 1) : Nat) : Int) = X at *
           omega
         have HRES := Lib.hid (show (hi * 18446744073709551616 + lo) / y = (q - 1) * 4294967296 + (t * 4294967296 + v0) / (d1 * 4294967296 + d0) by
           rw [← shift_div _ y (2 ^ s) (Nat.pow_pos (by decide)), HSH.out, HDD.out]
           have e : u * 18446744073709551616 + v = (u * 4294967296 + v1) * 4294967296 + v0 := by rw [← hve, Nat.add_mul, Nat.mul_assoc u, Nat.add_assoc]
           rw [e, two_steps 4294967296 u v1 v0 D (by omega), htt, hDe, hQ, hDe])
         obtain ⟨qb, rb, htb, HBT⟩ := start_facts t d1 d0 v0 hd1b.2 hd1b.1 (by omega) hd0b hv0b (by omega)
         obtain ⟨htq, htm, htw1⟩ := htb
         clear hQ htt
         go_wp2
         go_loop [18, 16] (fun a b => ∃ q r : Nat, a = .int .u64 q ∧ b = .int .u64 r ∧ Trial 4294967296 t d1 d0 v0 q r ∧ q ≤ 4294967297 ∧ r < 4294967296) (fun a _ => (intOf a).toNat)
         case atStart => exact ⟨qb, rb, rfl, rfl, HBT.out⟩
         case round =>
           obtain ⟨q, r, rfl, rfl, ht, hqb, hrb⟩ := hrel
           have HT := Lib.hid ht
           clear ht
           have hqd : q < 4294967296 → q * d0 < 18446744073709551616 := fun h => by
             have : q * d0 ≤ 4294967295 * 4294967295 := Nat.mul_le_mul (by omega) (by omega)
             omega
           by_cases hq1 : 4294967296 ≤ q
           · have HM := Lib.hid (trial_more HT.out (by omega) (by omega) (by omega) (.inl hq1))
             have hq1z : (4294967296 : Int) ≤ (q : Int) := by omega
             clear hqd
             have hq0 : 0 < q := Nat.lt_of_le_of_lt (Nat.zero_le _) HM.out
             by_cases hbr : 4294967296 ≤ r + d1
             · have hQ := trial_break (trial_step HT.out HM.out) (by omega) (by omega) (by omega) hbr
               have hbrz : (4294967296 : Int) ≤ (r : Int) + (d1 : Int) := by omega
               have HQ0 := Lib.hid hQ
               clear hQ
               have hfin : (q - 1) < 4294967296 := by rw [HQ0.out]; exact quo_lt _ _ _ _ HDP.out HTD.out hv0b
               obtain ⟨t2, ht2⟩ : ∃ t2, (t * 4294967296 + v0) % (d1 * 4294967296 + d0) = t2 := ⟨_, rfl⟩
               have hrem : IntKind.u64.wrap (IntKind.u64.wrap (IntKind.u64.wrap ((t : Int) * 4294967296) + (v0 : Int)) - IntKind.u64.wrap (((q : Int) - 1) * (D : Int))) = (t2 : Int) := by
                 have h := Nat.div_add_mod (t * 4294967296 + v0) (d1 * 4294967296 + d0)
                 have ht2b : t2 < d1 * 4294967296 + d0 := by rw [← ht2]; exact Nat.mod_lt _ HDP.out
                 rw [← HQ0.out, ht2, hDe] at h
                 rw [hDe] at ht2b
                 simp only [IntKind.wrap_u64]
                 have hz : (D : Int) * (((q - 1) : Nat) : Int) + (t2 : Int) = (t : Int) * 4294967296 + v0 := by rw [← Int.natCast_mul]; omega
                 have hz2 : ((q : Int) - 1) * (D : Int) = (D : Int) * (((q - 1) : Nat) : Int) := by rw [Int.mul_comm]; try (congr 1 <;> omega)
                 rw [hz2]
                 generalize (D : Int) * (((q - 1) : Nat) : Int) = X at *
                 omega
               have HT2 := Lib.hid ht2
               clear ht2
               go_wp2
               go_ret2
               refine ⟨ret_pair ?_ ?_, rfl⟩
               case refine_2 =>
                 have e := HREM.out
                 rw [HT2.out] at e
                 have ez : ((hi : Int) * 18446744073709551616 + (lo : Int)) % (y : Int) = (((hi * 18446744073709551616 + lo) % y : Nat) : Int) := by rw [Int.natCast_emod, Int.natCast_add, Int.natCast_mul]; rfl
                 rw [ez, e, Int.natCast_ediv, Int.natCast_pow]
                 rfl
               have e := HRES.out
               rw [← HQ0.out] at e
               have ez : ((hi : Int) * 18446744073709551616 + (lo : Int)) / (y : Int) = (((hi * 18446744073709551616 + lo) / y : Nat) : Int) := by rw [Int.natCast_ediv, Int.natCast_add, Int.natCast_mul]; rfl
               rw [ez, e]
               omega
             · have hbrz : ¬ (4294967296 : Int) ≤ (r : Int) + (d1 : Int) := by omega
               go_wp2
               exact ⟨⟨q - 1, r + d1, by go_num, by go_num, trial_step HT.out HM.out, by omega, by omega⟩, by simp [intOf]; omega⟩
           · obtain ⟨p, hp⟩ : ∃ p, q * d0 = p := ⟨_, rfl⟩
             have hpb := hqd (by omega)
             rw [hp] at hpb
             have hpz : (q : Int) * (d0 : Int) = (p : Int) := by rw [← hp]; simp
             have hq1z : ¬ (4294967296 : Int) ≤ (q : Int) := by omega
             clear hqd
             by_cases hq2 : 4294967296 * r + v0 < p
             · have HM := Lib.hid (trial_more HT.out (by omega) (by omega) (by omega) (.inr (by rw [hp]; exact hq2)))
               have hq2z : (4294967296 : Int) * (r : Int) + (v0 : Int) < (p : Int) := by omega
               clear hp
               have hq0 : 0 < q := Nat.lt_of_le_of_lt (Nat.zero_le _) HM.out
               by_cases hbr : 4294967296 ≤ r + d1
               · have hQ := trial_break (trial_step HT.out HM.out) (by omega) (by omega) (by omega) hbr
                 have hbrz : (4294967296 : Int) ≤ (r : Int) + (d1 : Int) := by omega
                 have HQ0 := Lib.hid hQ
                 clear hQ
                 have hfin : (q - 1) < 4294967296 := by rw [HQ0.out]; exact quo_lt _ _ _ _ HDP.out HTD.out hv0b
                 obtain ⟨t2, ht2⟩ : ∃ t2, (t * 4294967296 + v0) % (d1 * 4294967296 + d0) = t2 := ⟨_, rfl⟩
                 have hrem : IntKind.u64.wrap (IntKind.u64.wrap (IntKind.u64.wrap ((t : Int) * 4294967296) + (v0 : Int)) - IntKind.u64.wrap (((q : Int) - 1) * (D : Int))) = (t2 : Int) := by
                   have h := Nat.div_add_mod (t * 4294967296 + v0) (d1 * 4294967296 + d0)
                   have ht2b : t2 < d1 * 4294967296 + d0 := by rw [← ht2]; exact Nat.mod_lt _ HDP.out
                   rw [← HQ0.out, ht2, hDe] at h
                   rw [hDe] at ht2b
                   simp only [IntKind.wrap_u64]
                   have hz : (D : Int) * (((q - 1) : Nat) : Int) + (t2 : Int) = (t : Int) * 4294967296 + v0 := by rw [← Int.natCast_mul]; omega
                   have hz2 : ((q : Int) - 1) * (D : Int) = (D : Int) * (((q - 1) : Nat) : Int) := by rw [Int.mul_comm]; try (congr 1 <;> omega)
                   rw [hz2]
                   generalize (D : Int) * (((q - 1) : Nat) : Int) = X at *
                   omega
                 have HT2 := Lib.hid ht2
                 clear ht2
                 go_wp2
                 go_ret2
                 refine ⟨ret_pair ?_ ?_, rfl⟩
                 case refine_2 =>
                   have e := HREM.out
                   rw [HT2.out] at e
                   have ez : ((hi : Int) * 18446744073709551616 + (lo : Int)) % (y : Int) = (((hi * 18446744073709551616 + lo) % y : Nat) : Int) := by rw [Int.natCast_emod, Int.natCast_add, Int.natCast_mul]; rfl
                   rw [ez, e, Int.natCast_ediv, Int.natCast_pow]
                   rfl
                 have e := HRES.out
                 rw [← HQ0.out] at e
                 have ez : ((hi : Int) * 18446744073709551616 + (lo : Int)) / (y : Int) = (((hi * 18446744073709551616 + lo) / y : Nat) : Int) := by rw [Int.natCast_ediv, Int.natCast_add, Int.natCast_mul]; rfl
                 rw [ez, e]
                 omega
               · have hbrz : ¬ (4294967296 : Int) ≤ (r : Int) + (d1 : Int) := by omega
                 go_wp2
                 exact ⟨⟨q - 1, r + d1, by go_num, by go_num, trial_step HT.out HM.out, by omega, by omega⟩, by simp [intOf]; omega⟩
             · have hQ := trial_done HT.out (by omega) (by rw [hp]; omega)
               have hq2z : ¬ (4294967296 : Int) * (r : Int) + (v0 : Int) < (p : Int) := by omega
               clear hp
               have HQ0 := Lib.hid hQ
               clear hQ
               have hfin : q < 4294967296 := by rw [HQ0.out]; exact quo_lt _ _ _ _ HDP.out HTD.out hv0b
               obtain ⟨t2, ht2⟩ : ∃ t2, (t * 4294967296 + v0) % (d1 * 4294967296 + d0) = t2 := ⟨_, rfl⟩
               have hrem : IntKind.u64.wrap (IntKind.u64.wrap (IntKind.u64.wrap ((t : Int) * 4294967296) + (v0 : Int)) - IntKind.u64.wrap ((q : Int) * (D : Int))) = (t2 : Int) := by
                 have h := Nat.div_add_mod (t * 4294967296 + v0) (d1 * 4294967296 + d0)
                 have ht2b : t2 < d1 * 4294967296 + d0 := by rw [← ht2]; exact Nat.mod_lt _ HDP.out
                 rw [← HQ0.out, ht2, hDe] at h
                 rw [hDe] at ht2b
                 simp only [IntKind.wrap_u64]
                 have hz : (D : Int) * ((q : Nat) : Int) + (t2 : Int) = (t : Int) * 4294967296 + v0 := by rw [← Int.natCast_mul]; omega
                 have hz2 : (q : Int) * (D : Int) = (D : Int) * ((q : Nat) : Int) := by rw [Int.mul_comm]; try (congr 1 <;> omega)
                 rw [hz2]
                 generalize (D : Int) * ((q : Nat) : Int) = X at *
                 omega
               have HT2 := Lib.hid ht2
               clear ht2
               go_wp2
               go_ret2
               refine ⟨ret_pair ?_ ?_, rfl⟩
               case refine_2 =>
                 have e := HREM.out
                 rw [HT2.out] at e
                 have ez : ((hi : Int) * 18446744073709551616 + (lo : Int)) % (y : Int) = (((hi * 18446744073709551616 + lo) % y : Nat) : Int) := by rw [Int.natCast_emod, Int.natCast_add, Int.natCast_mul]; rfl
                 rw [ez, e, Int.natCast_ediv, Int.natCast_pow]
                 rfl
               have e := HRES.out
               rw [← HQ0.out] at e
               have ez : ((hi : Int) * 18446744073709551616 + (lo : Int)) / (y : Int) = (((hi * 18446744073709551616 + lo) / y : Nat) : Int) := by rw [Int.natCast_ediv, Int.natCast_add, Int.natCast_mul]; rfl
               rw [ez, e]
               omega
       · have hbrz : ¬ (4294967296 : Int) ≤ (r : Int) + (d1 : Int) := by omega
         go_wp2
         exact ⟨⟨q - 1, r + d1, by go_num, by go_num, trial_step HT.out HM.out, by omega, by omega⟩, by simp [intOf]; omega⟩
     · have hQ := trial_done HT.out (by omega) (by rw [hp]; omega)
       have hq2z : ¬ (4294967296 : Int) * (r : Int) + (v1 : Int) < (p : Int) := by omega
       clear hp
       have HQ1 := Lib.hid hQ
       have hq1b : q < 4294967296 := by rw [hQ]; exact quo_lt _ _ _ _ HDP.out HUD.out hv1b
       obtain ⟨t, htt⟩ : ∃ t, (u * 4294967296 + v1) % D = t := ⟨_, rfl⟩
       have HREM := Lib.hid (show (hi * 18446744073709551616 + lo) % y = (t * 4294967296 + v0) % (d1 * 4294967296 + d0) / 2 ^ s by
         rw [shift_mod _ y (2 ^ s) (Nat.pow_pos (by decide)), HSH.out, HDD.out]
         have e : u * 18446744073709551616 + v = (u * 4294967296 + v1) * 4294967296 + v0 := by rw [← hve, Nat.add_mul, Nat.mul_assoc u, Nat.add_assoc]
         rw [e, two_mod 4294967296 u v1 v0 D, htt, hDe])
       have htD : t < D := by rw [← htt]; exact Nat.mod_lt _ (by omega)
       have HTD := Lib.hid (show t < d1 * 4294967296 + d0 by rw [hDe]; exact htD)
       have h21 : IntKind.u64.wrap (IntKind.u64.wrap (IntKind.u64.wrap ((u : Int) * 4294967296) + (v1 : Int)) - IntKind.u64.wrap ((q : Int) * (D : Int))) = (t : Int) := by
         have h := Nat.div_add_mod (u * 4294967296 + v1) D
         rw [← hDe, ← hQ, hDe, htt] at h
         simp only [IntKind.wrap_u64]
         have hz : (D : Int) * ((q : Nat) : Int) + (t : Int) = (u : Int) * 4294967296 + v1 := by rw [← Int.natCast_mul]; omega
         have hz2 : (q : Int) * (D : Int) = (D : Int) * ((q : Nat) : Int) := by rw [Int.mul_comm]; try (congr 1 <;> omega)
         rw [hz2]
         generalize (D : Int) * ((q : Nat) : Int) = X at *
         omega
       have HRES := Lib.hid (show (hi * 18446744073709551616 + lo) / y = q * 4294967296 + (t * 4294967296 + v0) / (d1 * 4294967296 + d0) by
         rw [← shift_div _ y (2 ^ s) (Nat.pow_pos (by decide)), HSH.out, HDD.out]
         have e : u * 18446744073709551616 + v = (u * 4294967296 + v1) * 4294967296 + v0 := by rw [← hve, Nat.add_mul, Nat.mul_assoc u, Nat.add_assoc]
         rw [e, two_steps 4294967296 u v1 v0 D (by omega), htt, hDe, hQ, hDe])
       obtain ⟨qb, rb, htb, HBT⟩ := start_facts t d1 d0 v0 hd1b.2 hd1b.1 (by omega) hd0b hv0b (by omega)
       obtain ⟨htq, htm, htw1⟩ := htb
       clear hQ htt
       go_wp2
       go_loop [18, 16] (fun a b => ∃ q r : Nat, a = .int .u64 q ∧ b = .int .u64 r ∧ Trial 4294967296 t d1 d0 v0 q r ∧ q ≤ 4294967297 ∧ r < 4294967296) (fun a _ => (intOf a).toNat)
       case atStart => exact ⟨qb, rb, rfl, rfl, HBT.out⟩
       case round =>
         obtain ⟨q, r, rfl, rfl, ht, hqb, hrb⟩ := hrel
         have HT := Lib.hid ht
         clear ht
         have hqd : q < 4294967296 → q * d0 < 18446744073709551616 := fun h => by
           have : q * d0 ≤ 4294967295 * 4294967295 := Nat.mul_le_mul (by omega) (by omega)
           omega
         by_cases hq1 : 4294967296 ≤ q
         · have HM := Lib.hid (trial_more HT.out (by omega) (by omega) (by omega) (.inl hq1))
           have hq1z : (4294967296 : Int) ≤ (q : Int) := by omega
           clear hqd
           have hq0 : 0 < q := Nat.lt_of_le_of_lt (Nat.zero_le _) HM.out
           by_cases hbr : 4294967296 ≤ r + d1
           · have hQ := trial_break (trial_step HT.out HM.out) (by omega) (by omega) (by omega) hbr
             have hbrz : (4294967296 : Int) ≤ (r : Int) + (d1 : Int) := by omega
             have HQ0 := Lib.hid hQ
             clear hQ
             have hfin : (q - 1) < 4294967296 := by rw [HQ0.out]; exact quo_lt _ _ _ _ HDP.out HTD.out hv0b
             obtain ⟨t2, ht2⟩ : ∃ t2, (t * 4294967296 + v0) % (d1 * 4294967296 + d0) = t2 := ⟨_, rfl⟩
             have hrem : IntKind.u64.wrap (IntKind.u64.wrap (IntKind.u64.wrap ((t : Int) * 4294967296) + (v0 : Int)) - IntKind.u64.wrap (((q : Int) - 1) * (D : Int))) = (t2 : Int) := by
               have h := Nat.div_add_mod (t * 4294967296 + v0) (d1 * 4294967296 + d0)
               have ht2b : t2 < d1 * 4294967296 + d0 := by rw [← ht2]; exact Nat.mod_lt _ HDP.out
               rw [← HQ0.out, ht2, hDe] at h
               rw [hDe] at ht2b
               simp only [IntKind.wrap_u64]
               have hz : (D : Int) * (((q - 1) : Nat) : Int) + (t2 : Int) = (t : Int) * 4294967296 + v0 := by rw [← Int.natCast_mul]; omega
               have hz2 : ((q : Int) - 1) * (D : Int) = (D : Int) * (((q - 1) : Nat) : Int) := by rw [Int.mul_comm]; try (congr 1 <;> omega)
               rw [hz2]
               generalize (D : Int) * (((q - 1) : Nat) : Int) = X at *
               omega
             have HT2 := Lib.hid ht2
             clear ht2
             go_wp2
             go_ret2
             refine ⟨ret_pair ?_ ?_, rfl⟩
             case refine_2 =>
               have e := HREM.out
               rw [HT2.out] at e
               have ez : ((hi : Int) * 18446744073709551616 + (lo : Int)) % (y : Int) = (((hi * 18446744073709551616 + lo) % y : Nat) : Int) := by rw [Int.natCast_emod, Int.natCast_add, Int.natCast_mul]; rfl
               rw [ez, e, Int.natCast_ediv, Int.natCast_pow]
               rfl
             have e := HRES.out
             rw [← HQ0.out] at e
             have ez : ((hi : Int) * 18446744073709551616 + (lo : Int)) / (y : Int) = (((hi * 18446744073709551616 + lo) / y : Nat) : Int) := by rw [Int.natCast_ediv, Int.natCast_add, Int.natCast_mul]; rfl
             rw [ez, e]
             omega
           · have hbrz : ¬ (4294967296 : Int) ≤ (r : Int) + (d1 : Int) := by omega
             go_wp2
             exact ⟨⟨q - 1, r + d1, by go_num, by go_num, trial_step HT.out HM.out, by omega, by omega⟩, by simp [intOf]; omega⟩
         · obtain ⟨p, hp⟩ : ∃ p, q * d0 = p := ⟨_, rfl⟩
           have hpb := hqd (by omega)
           rw [hp] at hpb
           have hpz : (q : Int) * (d0 : Int) = (p : Int) := by rw [← hp]; simp
           have hq1z : ¬ (4294967296 : Int) ≤ (q : Int) := by omega
           clear hqd
           by_cases hq2 : 4294967296 * r + v0 < p
           · have HM := Lib.hid (trial_more HT.out (by omega) (by omega) (by omega) (.inr (by rw [hp]; exact hq2)))
             have hq2z : (4294967296 : Int) * (r : Int) + (v0 : Int) < (p : Int) := by omega
             clear hp
             have hq0 : 0 < q := Nat.lt_of_le_of_lt (Nat.zero_le _) HM.out
             by_cases hbr : 4294967296 ≤ r + d1
             · have hQ := trial_break (trial_step HT.out HM.out) (by omega) (by omega) (by omega) hbr
               have hbrz : (4294967296 : Int) ≤ (r : Int) + (d1 : Int) := by omega
               have HQ0 := Lib.hid hQ
               clear hQ
               have hfin : (q - 1) < 4294967296 := by rw [HQ0.out]; exact quo_lt _ _ _ _ HDP.out HTD.out hv0b
               obtain ⟨t2, ht2⟩ : ∃ t2, (t * 4294967296 + v0) % (d1 * 4294967296 + d0) = t2 := ⟨_, rfl⟩
               have hrem : IntKind.u64.wrap (IntKind.u64.wrap (IntKind.u64.wrap ((t : Int) * 4294967296) + (v0 : Int)) - IntKind.u64.wrap (((q : Int) - 1) * (D : Int))) = (t2 : Int) := by
                 have h := Nat.div_add_mod (t * 4294967296 + v0) (d1 * 4294967296 + d0)
                 have ht2b : t2 < d1 * 4294967296 + d0 := by rw [← ht2]; exact Nat.mod_lt _ HDP.out
                 rw [← HQ0.out, ht2, hDe] at h
                 rw [hDe] at ht2b
                 simp only [IntKind.wrap_u64]
                 have hz : (D : Int) * (((q - 1) : Nat) : Int) + (t2 : Int) = (t : Int) * 4294967296 + v0 := by rw [← Int.natCast_mul]; omega
                 have hz2 : ((q : Int) - 1) * (D : Int) = (D : Int) * (((q - 1) : Nat) : Int) := by rw [Int.mul_comm]; try (congr 1 <;> omega)
                 rw [hz2]
                 generalize (D : Int) * (((q - 1) : Nat) : Int) = X at *
                 omega
               have HT2 := Lib.hid ht2
               clear ht2
               go_wp2
               go_ret2
               refine ⟨ret_pair ?_ ?_, rfl⟩
               case refine_2 =>
                 have e := HREM.out
                 rw [HT2.out] at e
                 have ez : ((hi : Int) * 18446744073709551616 + (lo : Int)) % (y : Int) = (((hi * 18446744073709551616 + lo) % y : Nat) : Int) := by rw [Int.natCast_emod, Int.natCast_add, Int.natCast_mul]; rfl
                 rw [ez, e, Int.natCast_ediv, Int.natCast_pow]
                 rfl
               have e := HRES.out
               rw [← HQ0.out] at e
               have ez : ((hi : Int) * 18446744073709551616 + (lo : Int)) / (y : Int) = (((hi * 18446744073709551616 + lo) / y : Nat) : Int) := by rw [Int.natCast_ediv, Int.natCast_add, Int.natCast_mul]; rfl
               rw [ez, e]
               omega
             · have hbrz : ¬ (4294967296 : Int) ≤ (r : Int) + (d1 : Int) := by omega
               go_wp2
               exact ⟨⟨q - 1, r + d1, by go_num, by go_num, trial_step HT.out HM.out, by omega, by omega⟩, by simp [intOf]; omega⟩
           · have hQ := trial_done HT.out (by omega) (by rw [hp]; omega)
             have hq2z : ¬ (4294967296 : Int) * (r : Int) + (v0 : Int) < (p : Int) := by omega
             clear hp
             have HQ0 := Lib.hid hQ
             clear hQ
             have hfin : q < 4294967296 := by rw [HQ0.out]; exact quo_lt _ _ _ _ HDP.out HTD.out hv0b
             obtain ⟨t2, ht2⟩ : ∃ t2, (t * 4294967296 + v0) % (d1 * 4294967296 + d0) = t2 := ⟨_, rfl⟩
             have hrem : IntKind.u64.wrap (IntKind.u64.wrap (IntKind.u64.wrap ((t : Int) * 4294967296) + (v0 : Int)) - IntKind.u64.wrap ((q : Int) * (D : Int))) = (t2 : Int) := by
               have h := Nat.div_add_mod (t * 4294967296 + v0) (d1 * 4294967296 + d0)
               have ht2b : t2 < d1 * 4294967296 + d0 := by rw [← ht2]; exact Nat.mod_lt _ HDP.out
               rw [← HQ0.out, ht2, hDe] at h
               rw [hDe] at ht2b
               simp only [IntKind.wrap_u64]
               have hz : (D : Int) * ((q : Nat) : Int) + (t2 : Int) = (t : Int) * 4294967296 + v0 := by rw [← Int.natCast_mul]; omega
               have hz2 : (q : Int) * (D : Int) = (D : Int) * ((q : Nat) : Int) := by rw [Int.mul_comm]; try (congr 1 <;> omega)
               rw [hz2]
               generalize (D : Int) * ((q : Nat) : Int) = X at *
               omega
             have HT2 := Lib.hid ht2
             clear ht2
             go_wp2
             go_ret2
             refine ⟨ret_pair ?_ ?_, rfl⟩
             case refine_2 =>
               have e := HREM.out
               rw [HT2.out] at e
               have ez : ((hi : Int) * 18446744073709551616 + (lo : Int)) % (y : Int) = (((hi * 18446744073709551616 + lo) % y : Nat) : Int) := by rw [Int.natCast_emod, Int.natCast_add, Int.natCast_mul]; rfl
               rw [ez, e, Int.natCast_ediv, Int.natCast_pow]
               rfl
             have e := HRES.out
             rw [← HQ0.out] at e
             have ez : ((hi : Int) * 18446744073709551616 + (lo : Int)) / (y : Int) = (((hi * 18446744073709551616 + lo) / y : Nat) : Int) := by rw [Int.natCast_ediv, Int.natCast_add, Int.natCast_mul]; rfl
             rw [ez, e]
             omega
theorem wrap_lt (a : Nat) (h : a < 18446744073709551616) : IntKind.u64.wrap (a : Int) = (a : Int) := by rw [IntKind.wrap_u64]; omega
theorem cast_shl (a s : Nat) : (a : Int) * 2 ^ s = ((a * 2 ^ s : Nat) : Int) := by rw [Int.natCast_mul, Int.natCast_pow]; rfl
theorem cast_shr (a s : Nat) : (a : Int) / 2 ^ s = ((a / 2 ^ s : Nat) : Int) := by rw [Int.natCast_ediv, Int.natCast_pow]; rfl
theorem div64_any (hi lo y : Nat) (w : World) (hy : hi < y) (hy2 : y < 18446744073709551616) (hlo : lo < 18446744073709551616) :
   Calls Tryz.prog 144 #[.int .u64 hi, .int .u64 lo, .int .u64 y] w fun e w' => e = .returned (.tuple #[.int .u64 (((hi * 18446744073709551616 + lo) / y : Nat) : Int), .int .u64 (((hi * 18446744073709551616 + lo) % y : Nat) : Int)]) ∧ ∃ q, w' = w.drewN q := by
 by_cases h0 : hi = 0
 · subst h0
   have h := div64_zero lo y w hy hy2 hlo
   rw [Nat.zero_mul, Nat.zero_add]
   exact h
 · obtain ⟨s, hs, hs63, hDb, hDn⟩ := norm_shift y (Nat.lt_of_le_of_lt (Nat.zero_le _) hy) hy2
   obtain ⟨hsh, huD, hlow, hor⟩ := shift_parts hi lo y s hlo hy hs63 hDb
   have hhs : hi * 2 ^ s < 18446744073709551616 := Nat.lt_of_le_of_lt (Nat.le_add_right _ _) (Nat.lt_trans huD hDb)
   have hls : lo / 2 ^ (64 - s) < 18446744073709551616 := Nat.lt_of_le_of_lt (Nat.div_le_self _ _) hlo
   refine (div64_core hi lo y s (y * 2 ^ s) (y * 2 ^ s / 4294967296) (y * 2 ^ s % 4294967296) (hi * 2 ^ s + lo / 2 ^ (64 - s)) (lo * 2 ^ s % 18446744073709551616) _ _ w (Nat.pos_of_ne_zero h0) hy hy2 hlo hs hs63 rfl hDb hDn hsh huD (Nat.mod_lt _ (by decide)) rfl rfl rfl rfl ?_ ?_ ?_).mono fun e w' ⟨h1, h2⟩ => ⟨h1, 0, h2⟩
   · rw [cast_shl]; exact wrap_lt _ hDb
   · rw [cast_shl, wrap_lt _ hhs, cast_shr, bits_or_u64_nat _ _ hhs hls, hor]
   · rw [cast_shl, IntKind.wrap_u64]; rfl
end Go.Proofs.YtaboodioabopnaaGreat
