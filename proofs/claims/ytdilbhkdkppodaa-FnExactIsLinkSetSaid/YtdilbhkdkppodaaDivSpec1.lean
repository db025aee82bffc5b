/- Contracts of the model's division by one limb (l02Small) and of its search for a limb (l02Digit). Conditions: none. -/
import Derived.Test.YtdilbhkdkppodaaProg
import Derived.Test.YtdilbhkdkppodaaNatSub
import Derived.Test.YtdilbhkdkppodaaReduce
import Derived.Laws.AppendOwnNone
namespace Go.Proofs.Ytdilbhkdkppodaa
open Go.RowKit Nt
set_option linter.unusedVariables false

/-- One round of a division by a small number. -/
theorem small_step (x d X Q r : Nat) (hd : 0 < d) (h : X = d * Q + r) : (x + 1000000000 * X) / d = (r * 1000000000 + x) / d + 1000000000 * Q ∧ (x + 1000000000 * X) % d = (r * 1000000000 + x) % d := by
  have e : x + 1000000000 * X = d * (1000000000 * Q) + (r * 1000000000 + x) := by
    have : d * (1000000000 * Q) = 1000000000 * (d * Q) := by rw [← Nat.mul_assoc, Nat.mul_comm d, Nat.mul_assoc]
    omega
  rw [e, Nat.mul_add_div hd, Nat.mul_add_mod]
  exact ⟨by rw [Nat.add_comm], rfl⟩
set_option maxRecDepth 100000 in
set_option maxHeartbeats 2000000 in
theorem l02Small_any (A : Option Addr) (n c : Nat) (ds : List Nat) (d : Nat) (w : World) (hA : VRow w A n (nats ds)) (hds : Digs ds) (hd : 0 < d) (hdb : d < 1000000000) (hn : n ≤ 1048576) :
    Calls Try.prog 80 #[.slice A n c, .int .i64 d] w fun e w' => ∃ v, e = .returned (.tuple #[v, .int .i64 (val ds % d : Nat)]) ∧ OwnV w' w.heap.size 3 v (nats (dig (val ds / d))) ∧ Below w.heap.size w w' := by
  obtain ⟨i0, hi, hz0, hz1, hz2⟩ := info_parts info_int
  have HL := Lib.hid (show ds.length = n by simpa [nats_len] using hA.1)
  have HA := Lib.hid hA
  have HD := Lib.hid hds
  clear hA hds
  have hdz : ¬ (d : Int) = 0 := by omega
  have hdzb : ((d : Int) == 0) = false := beq_eq_false_iff_ne.mpr hdz
  go_enter Try.func80, Try.ntmps80
  go_wp2_with (at_make; refine wpList_make_full _ rfl _ _ _ rfl w.heap.size 3 i0 _ 1 Try.underlying22 hi hz0 hz1 .i64 .i64 _ _ n rfl rfl rfl rfl (by rw [hz2]; omega) (by unfold maxLen; omega) (Nat.le_refl _) ?_; intro w1 hown hgrow)
  have HB1 := Lib.hid ((Below.refl w.heap.size w).grown hgrow (Nat.le_refl _) (by simp))
  have HW1 := Lib.hid (made_whole hown)
  clear hown hgrow
  go_wp2
  go_loopw [7, 8] (fun a i wr => ∃ (k r : Nat) (QS : List Nat), k ≤ n ∧ i = .int .i64 ((k : Int) - 1) ∧ a = .int .i64 r ∧ r < d ∧ val (ds.drop k) = d * val QS + r ∧ Digs QS ∧ QS.length + k = n ∧ Whole wr w.heap.size w.heap.size 3 (nats (qrow (List.replicate n 0) QS k)) ∧ Below w.heap.size w wr) (fun _ i _ => (intOf i + 1).toNat)
  case atStart => exact ⟨n, 0, [], Nat.le_refl _, by go_num, rfl, hd, by rw [List.drop_of_length_le (by have := HL.out; omega)]; simp [val], Digs.nil, by simp, by rw [qrow_nil]; exact HW1.out, HB1.out⟩
  case round =>
    obtain ⟨k, r, QS, hk, rfl, rfl, hr, hv, hqd, hql, hw, hb⟩ := hrel
    have HV := Lib.hid hv
    have HQD := Lib.hid hqd
    have HW := Lib.hid hw
    have HB := Lib.hid hb
    clear hv hqd hw hb
    by_cases h0 : k = 0
    · subst h0
      have hQl : (qrow (List.replicate n 0) QS 0) = QS := by
        unfold qrow
        rw [List.take_zero, List.nil_append, List.drop_of_length_le (by simp; omega), List.append_nil]
      have hov := OwnV.of_whole HW.out
      rw [hQl, nats_len, show QS.length = n by omega] at hov
      have HOV := Lib.hid hov
      clear hov hQl
      go_wp2_with fail
      refine (l02Trim_own _ _ _ _ _ _ HOV.out HQD.out).mono ?_
      rintro e w2 ⟨rfl, hov, rfl⟩
      have hv := HV.out
      rw [List.drop_zero] at hv
      have hvq : val QS = val ds / d := by rw [hv, Nat.mul_add_div hd, Nat.div_eq_of_lt hr, Nat.add_zero]
      have hvr : r = val ds % d := by rw [hv, Nat.mul_add_mod, Nat.mod_eq_of_lt hr]
      rw [hvq] at hov ⊢
      have HOV2 := Lib.hid hov
      have HVR := Lib.hid hvr
      clear hov hv hvq hvr
      go_wp2
      go_ret2
      refine ⟨_, ?_, HOV2.out, HB.out⟩
      rw [← HVR.out]
      rfl
    · obtain ⟨i, rfl⟩ : ∃ i, k = i + 1 := ⟨k - 1, by omega⟩
      have hwi : ((i + 1 : Nat) : Int) - 1 = (i : Int) := by omega
      rw [hwi]
      clear hwi
      obtain ⟨ga, oa, rfl, hga, hca⟩ := (HA.out.below HB.out (Nat.le_refl _)).at_ (show i < n by omega)
      rw [nats_get] at hca
      have hxl : i < ds.length := by have := HL.out; omega
      obtain ⟨x, hx⟩ : ∃ x, ds[i] = x := ⟨_, rfl⟩
      have hxb : x < 1000000000 := hx ▸ HD.out.get hxl
      have hvd := val_drop_succ ds i hxl
      rw [hx] at hca hvd
      have hst := small_step x d _ _ r hd HV.out
      rw [← hvd] at hst
      have HST := Lib.hid hst
      clear hx hvd hst
      obtain ⟨q, hq⟩ : ∃ q, (r * 1000000000 + x) / d = q := ⟨_, rfl⟩
      obtain ⟨r2, hr2⟩ : ∃ r2, (r * 1000000000 + x) % d = r2 := ⟨_, rfl⟩
      have hqb : q < 1000000000 := by rw [← hq, Nat.div_lt_iff_lt_mul hd]; omega
      have hr2b : r2 < d := by rw [← hr2]; exact Nat.mod_lt _ hd
      have hqz : ((r : Int) * 1000000000 + x) / (d : Int) = (q : Int) := by rw [← hq, Int.natCast_ediv, Int.natCast_add, Int.natCast_mul]; rfl
      have hrz : ((r : Int) * 1000000000 + x) % (d : Int) = (r2 : Int) := by rw [← hr2, Int.natCast_emod, Int.natCast_add, Int.natCast_mul]; rfl
      rw [hq, hr2] at HST
      have HDM := Lib.hid (show val (ds.drop i) = d * (q + 1000000000 * val QS) + r2 by
        have := Nat.div_add_mod (val (ds.drop i)) d
        rw [HST.out.1, HST.out.2] at this
        exact this.symm)
      have hzl : i < (qrow (List.replicate n 0) QS (i + 1)).length := by rw [qrow_len _ _ _ (by simp; omega)]; simp; omega
      have hcq : wr.cell? ⟨w.heap.size, i, none⟩ = some (.int .i64 (((qrow (List.replicate n 0) QS (i + 1))[i]'hzl : Nat) : Int)) := by
        rw [HW.out.cell i (by rw [nats_len]; exact hzl), nats_get]
      have hfz := HW.out.frozen i
      have HSQ := Lib.hid (HW.out.set i (.int .i64 (q : Int)))
      obtain ⟨zz, hzz⟩ : ∃ zz, (qrow (List.replicate n 0) QS (i + 1))[i]'hzl = zz := ⟨_, rfl⟩
      rw [hzz] at hcq
      clear hzz hzl hq hr2
      have hin : i < n := by omega
      have hinz : (i : Int) < (n : Int) := by omega
      have hnn : (0 : Int) ≤ (r : Int) * 1000000000 + x := by omega
      go_wp2
      refine ⟨⟨i, r2, q :: QS, by omega, by go_num, by first | rfl | go_num, hr2b, HDM.out, ?_, by simp; omega, ?_, HB.out.setCell (Nat.le_refl _) _⟩, by simp [intOf]⟩
      · intro y hy
        rcases List.mem_cons.mp hy with rfl | hy
        · exact hqb
        · exact HQD.out y hy
      · have hz := HSQ.out
        rw [nats_set, qrow_set _ _ _ _ (by simp; omega)] at hz
        exact hz
set_option maxRecDepth 100000 in
set_option maxHeartbeats 2000000 in
theorem l02Digit_any (A B : Option Addr) (n c m d : Nat) (rs bs : List Nat) (w : World) (hA : VRow w A n (nats rs)) (hB : VRow w B m (nats bs)) (hrs : Canon rs) (hbs : Canon bs) (hV : 0 < val bs) (hlt : val rs < 1000000000 * val bs) (hn : n ≤ 1048576) (hm : m ≤ 1048000) :
    Calls Try.prog 82 #[.slice A n c, .slice B m d] w fun e w' => e = .returned (.int .i64 (val rs / val bs : Nat)) ∧ Below w.heap.size w w' := by
  have HA := Lib.hid hA
  have HB := Lib.hid hB
  have HR := Lib.hid hrs
  have HS := Lib.hid hbs
  have hQb : val rs / val bs < 1000000000 := by rw [Nat.div_lt_iff_lt_mul hV]; exact hlt
  have HIFF := Lib.hid (fun q : Nat => Nat.le_div_iff_mul_le (x := q) (y := val rs) hV)
  obtain ⟨Q, hQ⟩ : ∃ Q, val rs / val bs = Q := ⟨_, rfl⟩
  rw [hQ] at hQb HIFF ⊢
  clear hA hB hrs hbs hV hlt hQ
  go_enter Try.func82, Try.ntmps82
  go_wp2
  go_loopw [5, 6] (fun a b wr => ∃ lo hi : Nat, a = .int .i64 lo ∧ b = .int .i64 hi ∧ lo ≤ Q ∧ Q ≤ hi ∧ hi < 1000000000 ∧ Below w.heap.size w wr) (fun a b _ => (intOf b - intOf a).toNat)
  case atStart => exact ⟨0, 999999999, rfl, rfl, by omega, by omega, by omega, Below.refl _ _⟩
  case round =>
    obtain ⟨lo, hi, rfl, rfl, hlo, hhi, hhb, hb⟩ := hrel
    have HBr := Lib.hid hb
    clear hb
    by_cases hc : lo < hi
    · obtain ⟨q, hq⟩ : ∃ q, (lo + hi + 1) / 2 = q := ⟨_, rfl⟩
      have hqz : ((lo : Int) + hi + 1) / 2 = (q : Int) := by omega
      have hqr : lo < q ∧ q ≤ hi := by omega
      have hcz : (lo : Int) < (hi : Int) := by omega
      have hiq := HIFF.out q
      go_wp2_with fail
      refine (natOf_spec (q : Int) _ (by omega)).mono ?_
      rintro e w1 ⟨v1, rfl, ho1, hb1⟩
      rw [Int.toNat_natCast] at ho1
      obtain ⟨A1, c1, rfl⟩ := ho1.shape
      have hl1 : (nats (dig q)).length ≤ 4 := by rw [nats_len]; exact dig_len (by omega)
      obtain ⟨n1, hn1⟩ : ∃ n1, (nats (dig q)).length = n1 := ⟨_, rfl⟩
      rw [hn1] at hl1 ho1 ⊢
      have HO1 := Lib.hid ho1
      have HB1 := Lib.hid (HBr.out.trans (hb1.mono HBr.out.size))
      clear ho1 hb1 hn1
      go_wp2_with fail
      refine (l02Mul_any _ _ _ _ _ _ bs (dig q) _ (HB.out.below HB1.out (Nat.le_refl _)) HO1.out.row HS.out.1 (dig_digs _) (by omega)).mono ?_
      rintro e w2 ⟨v2, rfl, ho2, hb2⟩
      rw [val_dig] at ho2
      obtain ⟨A2, c2, rfl⟩ := ho2.shape
      have hl2 := ho2.cap
      obtain ⟨n2, hn2⟩ : ∃ n2, (nats (dig (val bs * q))).length = n2 := ⟨_, rfl⟩
      rw [hn2] at hl2 ho2 ⊢
      have HO2 := Lib.hid ho2
      have HB2 := Lib.hid (HB1.out.trans (hb2.mono HB1.out.size))
      have HL2 := Lib.hid (Nat.le_trans hl2.1 hl2.2)
      clear ho2 hb2 hn2 hl2
      go_wp2_with fail
      refine (l02Cmp_any _ _ _ _ _ _ (dig (val bs * q)) rs _ HO2.out.row (HA.out.below HB2.out (Nat.le_refl _)) (dig_can _) HR.out HL2.out (by unfold maxLen; omega)).mono ?_
      rintro e w3 ⟨rfl, hb3⟩
      rw [val_dig]
      have HB3 := Lib.hid (HB2.out.trans (hb3.mono HB2.out.size))
      clear hb3
      by_cases hle : q ≤ Q
      · have hle2 := hiq.mp hle
        have hs : sgn (val bs * q) (val rs) ≤ 0 := by
          rw [Nat.mul_comm] at hle2
          unfold sgn
          by_cases h1 : val bs * q < val rs
          · rw [if_pos h1]; decide
          · rw [if_neg h1, if_pos (by omega)]; decide
        generalize sgn (val bs * q) (val rs) = s at *
        clear hiq hle2
        go_wp2
        exact ⟨⟨q, hi, rfl, rfl, hle, hhi, hhb, HB3.out⟩, by simp [intOf]; omega⟩
      · have hgt : ¬ q * val bs ≤ val rs := fun h => hle (hiq.mpr h)
        have hs : ¬ sgn (val bs * q) (val rs) ≤ 0 := by
          rw [Nat.mul_comm] at hgt
          unfold sgn
          rw [if_neg (by omega), if_neg (by omega)]; decide
        generalize sgn (val bs * q) (val rs) = s at *
        clear hiq hgt
        go_wp2
        exact ⟨⟨lo, q - 1, rfl, by go_num, hlo, by omega, by omega, HB3.out⟩, by simp [intOf]; omega⟩
    · obtain rfl : lo = Q := by omega
      go_wp2
      go_ret
      exact ⟨rfl, HBr.out⟩
end Go.Proofs.Ytdilbhkdkppodaa
