/- IsNet of the model. Conditions: none. -/
import Derived.Test.YtaboodioabopnaaGreatNNetMath
namespace Go.Proofs.YtaboodioabopnaaGreat
open Go.RowKit Nt Fr
set_option linter.unusedVariables false
theorem St.of_below {w w' : World} (h : Below w.heap.size w w') : St w w' [] [] := ⟨h, by simp, by simp, .nil, .nil, by simp⟩
set_option maxRecDepth 100000 in
set_option maxHeartbeats 40000000 in
theorem isNet_s (A : Option Addr) (n c : Nat) (ms : List Cd) (w : World) (hA : CArg w A n ms) (hnc : n ≤ c) (hcm : c ≤ maxLen) (hn : n ≤ 1048576) (hps : ∀ m ∈ ms, m.n ≤ 1048576) :
   Calls Tryz.prog 6 #[.slice A n c] w fun e w' => e = .returned (.bool (netOk (datn ms))) ∧ Below w.heap.size w w' := by
 have hcm' : c ≤ 9223372036854775807 := by unfold maxLen at hcm; omega
 have HA := Lib.hid hA
 have HL := Lib.hid (show (datn ms).length = n by rw [datn_len]; exact hA.len)
 have HPS := Lib.hid hps
 clear hA hps
 go_enter Tryz.func6, Tryz.ntmps6
 go_wp2
 go_loopw [14] (fun i wx => ∃ k : Nat, k ≤ n ∧ i = .int .i64 k ∧ (∀ (j : Nat) (d : Dn), j < k → (datn ms)[j]? = some d → netStep d ((datn ms).drop (j + 1)) = true) ∧ Below w.heap.size w wx) (fun i _ => n - (intOf i).toNat)
 case atStart => exact ⟨0, Nat.zero_le _, rfl, fun j d hj => by omega, Below.refl _ _⟩
 case round =>
   obtain ⟨k, hk, rfl, hall, hb⟩ := hrel
   have HT := Lib.hid hall
   have HB := Lib.hid hb
   clear hall hb
   by_cases hkn : k < n
   · by_cases hcap : c = k + 1
     · subst hcap
       obtain ⟨g, o, m, rfl, hg, hm, hr, hc⟩ := HA.out.at_ hkn
       have HP := Lib.hid (HPS.out m (List.mem_of_getElem? hm))
       obtain ⟨N, T, t0, t1, Bp, p, q, zs⟩ := m
       have hp : p ≤ 1048576 := HP.out
       obtain ⟨Aa, na, ca, Ba, ma, da, rfl, rfl⟩ := (show FrA w T t0 t1 from hr.1).shape
       have HD := Lib.hid (show (datn ms)[k]? = some (N, T, dats zs) from datn_get hm)
       have HR := Lib.hid hr
       have hk0 : (0 : Int) ≤ (k : Int) := by omega
       have hk1 : (k : Int) < (n : Int) := by omega
       obtain ⟨rs, hrs⟩ : ∃ z, (datn ms).drop (k + 1) = z := ⟨_, rfl⟩
       have HRS := Lib.hid hrs
       have HRL := Lib.hid (show rs.length = n - (k + 1) by rw [← hrs, List.length_drop, HL.out])
       obtain ⟨cb, hcb⟩ : ∃ z, wr.heap.size = z := ⟨_, rfl⟩
       have e0 : wr.cell? ⟨g, o + k * 5, none⟩ = some (.int .i64 N) := (HB.out.cell (p := ⟨g, o + k * 5, none⟩) hg).trans (hc 0 _ rfl)
       have e1 : wr.cell? ⟨g, o + k * 5 + 1, none⟩ = some (.bool T.s) := (HB.out.cell (p := ⟨g, o + k * 5 + 1, none⟩) hg).trans (hc 1 _ rfl)
       have e2 : wr.cell? ⟨g, o + k * 5 + 2, none⟩ = some ((.slice Aa na ca)) := (HB.out.cell (p := ⟨g, o + k * 5 + 2, none⟩) hg).trans (hc 2 _ rfl)
       have e3 : wr.cell? ⟨g, o + k * 5 + 3, none⟩ = some ((.slice Ba ma da)) := (HB.out.cell (p := ⟨g, o + k * 5 + 3, none⟩) hg).trans (hc 3 _ rfl)
       have e4 : wr.cell? ⟨g, o + k * 5 + 4, none⟩ = some ((.slice Bp p q)) := (HB.out.cell (p := ⟨g, o + k * 5 + 4, none⟩) hg).trans (hc 4 _ rfl)
       have HC := Lib.hid (HA.out.drop (k + 1) (by omega))
       have S_1 := Lib.hid (show St w (wr.alloc (.cells #[.int .i64 N, .bool T.s, (.slice Aa na ca), (.slice Ba ma da), (.slice Bp p q)] 60)) [(wr.heap.size, [.int .i64 N, .bool T.s, (.slice Aa na ca), (.slice Ba ma da), (.slice Bp p q)])] [] from (St.of_below HB.out).alloc [.int .i64 N, .bool T.s, (.slice Aa na ca), (.slice Ba ma da), (.slice Bp p q)] 60)
       clear hm hr hc hrs
       go_wp2_with fail
       refine (isValidConditional_s N T (.slice Aa na ca) (.slice Ba ma da) Bp p q zs _ (HR.out.1.below S_1.out.below) (HR.out.2.below S_1.out.below) hp).mono ?_
       rintro e w2 ⟨rfl, hb⟩
       obtain ⟨vc, hvc⟩ : ∃ z, okC N T (dats zs) = z := ⟨_, rfl⟩
       rw [hvc]
       have HVC := Lib.hid hvc
       have S_2 := Lib.hid (S_1.out.call hb)
       clear hb S_1 hvc e0 e1 e2 e3 e4
       rw [hcb] at S_2
       clear hcb
       by_cases hv : vc = true
       · subst hv
         have y0 := S_2.out.cell 0 0 rfl rfl
         have y1 := S_2.out.cell 0 1 rfl rfl
         have y2 := S_2.out.cell 0 2 rfl rfl
         have y3 := S_2.out.cell 0 3 rfl rfl
         have y4 := S_2.out.cell 0 4 rfl rfl
         go_wp2
         clear y0 y1 y2 y3 y4
         go_loopw [25] (fun i wx => ∃ a : Nat, a ≤ p ∧ i = .int .i64 a ∧ (∀ (j : Nat) (z : List Int × List Fr), j < a → (dats zs)[j]? = some z → kn rs (paNode z) = true) ∧ St w wx [(cb, [.int .i64 N, .bool T.s, (.slice Aa na ca), (.slice Ba ma da), (.slice Bp p q)])] []) (fun i _ => p - (intOf i).toNat)
         case atStart => exact ⟨0, Nat.zero_le _, rfl, fun j d hj => by omega, S_2.out⟩
         case round =>
           obtain ⟨a, ha, rfl, hkn2, hst⟩ := hrel
           have HK2 := Lib.hid hkn2
           have S_3 := Lib.hid hst
           clear hkn2 hst S_2
           by_cases hap : a < p
           · obtain ⟨g2, o2, z, rfl, hg2, hz, hrz, hsz, hcz⟩ := HR.out.2.at_ hap
             obtain ⟨ZA, ZP, ZQ, ZR, x0, i0, j0, x1, i1, j1, x2, i2, j2, x3, i3, j3, x4, i4, j4, x5, i5, j5, rfl⟩ := Rc.shapes13 hsz hrz
             have HZ := Lib.hid (show (dats zs)[a]? = some ([ZA], [ZP, ZQ, ZR]) from dats_get hz)
             have ha0 : (0 : Int) ≤ (a : Int) := by omega
             have ha1 : (a : Int) < (p : Int) := by omega
             have f0 : wr.cell? ⟨g2, o2 + a * 10, none⟩ = some (.int .i64 ZA) := (S_3.out.below.cell (p := ⟨g2, o2 + a * 10, none⟩) hg2).trans (hcz 0 _ rfl)
             have f1 : wr.cell? ⟨g2, o2 + a * 10 + 1, none⟩ = some (.bool ZP.s) := (S_3.out.below.cell (p := ⟨g2, o2 + a * 10 + 1, none⟩) hg2).trans (hcz 1 _ rfl)
             have f2 : wr.cell? ⟨g2, o2 + a * 10 + 2, none⟩ = some ((.slice x0 i0 j0)) := (S_3.out.below.cell (p := ⟨g2, o2 + a * 10 + 2, none⟩) hg2).trans (hcz 2 _ rfl)
             have f3 : wr.cell? ⟨g2, o2 + a * 10 + 3, none⟩ = some ((.slice x1 i1 j1)) := (S_3.out.below.cell (p := ⟨g2, o2 + a * 10 + 3, none⟩) hg2).trans (hcz 3 _ rfl)
             have f4 : wr.cell? ⟨g2, o2 + a * 10 + 4, none⟩ = some (.bool ZQ.s) := (S_3.out.below.cell (p := ⟨g2, o2 + a * 10 + 4, none⟩) hg2).trans (hcz 4 _ rfl)
             have f5 : wr.cell? ⟨g2, o2 + a * 10 + 5, none⟩ = some ((.slice x2 i2 j2)) := (S_3.out.below.cell (p := ⟨g2, o2 + a * 10 + 5, none⟩) hg2).trans (hcz 5 _ rfl)
             have f6 : wr.cell? ⟨g2, o2 + a * 10 + 6, none⟩ = some ((.slice x3 i3 j3)) := (S_3.out.below.cell (p := ⟨g2, o2 + a * 10 + 6, none⟩) hg2).trans (hcz 6 _ rfl)
             have f7 : wr.cell? ⟨g2, o2 + a * 10 + 7, none⟩ = some (.bool ZR.s) := (S_3.out.below.cell (p := ⟨g2, o2 + a * 10 + 7, none⟩) hg2).trans (hcz 7 _ rfl)
             have f8 : wr.cell? ⟨g2, o2 + a * 10 + 8, none⟩ = some ((.slice x4 i4 j4)) := (S_3.out.below.cell (p := ⟨g2, o2 + a * 10 + 8, none⟩) hg2).trans (hcz 8 _ rfl)
             have f9 : wr.cell? ⟨g2, o2 + a * 10 + 9, none⟩ = some ((.slice x5 i5 j5)) := (S_3.out.below.cell (p := ⟨g2, o2 + a * 10 + 9, none⟩) hg2).trans (hcz 9 _ rfl)
             have S_4 := Lib.hid (S_3.out.alloc [.int .i64 ZA, .bool ZP.s, (.slice x0 i0 j0), (.slice x1 i1 j1), .bool ZQ.s, (.slice x2 i2 j2), (.slice x3 i3 j3), .bool ZR.s, (.slice x4 i4 j4), (.slice x5 i5 j5)] 63)
             obtain ⟨pb, hpb⟩ : ∃ z, wr.heap.size = z := ⟨_, rfl⟩
             rw [hpb] at S_4
             clear hz hrz hsz hcz
             have y0 := S_4.out.cell 1 0 rfl rfl
             have y1 := S_4.out.cell 1 1 rfl rfl
             have y2 := S_4.out.cell 1 2 rfl rfl
             have y3 := S_4.out.cell 1 3 rfl rfl
             have y4 := S_4.out.cell 1 4 rfl rfl
             go_wp2
             clear f0 f1 f2 f3 f4 f5 f6 f7 f8 f9 y0 y1 y2 y3 y4
             have S_5 := Lib.hid (show St w _ [(pb, [.int .i64 ZA, .bool ZP.s, (.slice x0 i0 j0), (.slice x1 i1 j1), .bool ZQ.s, (.slice x2 i2 j2), (.slice x3 i3 j3), .bool ZR.s, (.slice x4 i4 j4), (.slice x5 i5 j5)]), (cb, [.int .i64 N, .bool T.s, (.slice Aa na ca), (.slice Ba ma da), (.slice (some ⟨g2, o2, none⟩) p q)])] [] from S_4.out)
             clear S_4 hpb
             go_loopw [7, 37] (fun fo j wx => ∃ b : Nat, b ≤ n - (k + 1) ∧ j = .int .i64 b ∧ fo = .bool (knT rs ZA b) ∧ St w wx [(pb, [.int .i64 ZA, .bool ZP.s, (.slice x0 i0 j0), (.slice x1 i1 j1), .bool ZQ.s, (.slice x2 i2 j2), (.slice x3 i3 j3), .bool ZR.s, (.slice x4 i4 j4), (.slice x5 i5 j5)]), (cb, [.int .i64 N, .bool T.s, (.slice Aa na ca), (.slice Ba ma da), (.slice (some ⟨g2, o2, none⟩) p q)])] []) (fun _ j _ => n - (k + 1) - (intOf j).toNat)
             case atStart => exact ⟨0, Nat.zero_le _, rfl, by simp [knT]; rfl, S_5.out⟩
             case round =>
               obtain ⟨b, hb, rfl, rfl, hst⟩ := hrel
               have S_6 := Lib.hid hst
               clear hst S_5
               obtain ⟨fb, hfb⟩ : ∃ z, knT rs ZA b = z := ⟨_, rfl⟩
               rw [hfb]
               have HFB := Lib.hid hfb
               clear hfb
               by_cases hb3 : b < n - (k + 1)
               · exact absurd hb3 (by omega)
               · have HKN := Lib.hid (show kn rs ZA = fb by rw [← HFB.out]; exact (knT_all (by rw [HRL.out]; omega)).symm)
                 cases fb with
                 | true =>
                   have HK3 := Lib.hid (show ∀ (j : Nat) (z : List Int × List Fr), j < a + 1 → (dats zs)[j]? = some z → kn rs (paNode z) = true from fun j z hj hz => by
                     by_cases e : j = a
                     · subst e
                       obtain rfl := Option.some.inj (HZ.out.symm.trans hz)
                       exact HKN.out
                     · exact HK2.out j z (by omega) hz)
                   go_wp2
                   exact ⟨⟨a + 1, by omega, by go_num, HK3.out, S_6.out.dropBox 0⟩, by simp [intOf]; omega⟩
                 | false =>
                   have HE := Lib.hid (show false = netOk (datn ms) from (netOk_bad HD.out (by rw [HRS.out]; exact step_bad2 HZ.out HKN.out)).symm)
                   go_wp2
                   go_ret
                   exact ⟨ret_bool HE.out, S_6.out.below⟩
           · obtain rfl : a = p := by omega
             have y0 := S_3.out.cell 0 0 rfl rfl
             have y1 := S_3.out.cell 0 1 rfl rfl
             have y2 := S_3.out.cell 0 2 rfl rfl
             have y3 := S_3.out.cell 0 3 rfl rfl
             have y4 := S_3.out.cell 0 4 rfl rfl
             go_wp2
             clear y0 y1 y2 y3 y4
             go_loopw [58] (fun j wx => ∃ b : Nat, b ≤ n - (k + 1) ∧ j = .int .i64 b ∧ (∀ (i : Nat) (e : Dn), i < b → rs[i]? = some e → ¬ e.1 = N) ∧ St w wx [(cb, [.int .i64 N, .bool T.s, (.slice Aa na ca), (.slice Ba ma da), (.slice Bp a q)])] []) (fun j _ => n - (k + 1) - (intOf j).toNat)
             case atStart => exact ⟨0, Nat.zero_le _, rfl, fun i e hi => by omega, S_3.out⟩
             case round =>
               obtain ⟨b, hb, rfl, hne, hst⟩ := hrel
               have HN3 := Lib.hid hne
               have S_6 := Lib.hid hst
               clear hne hst S_3
               by_cases hb3 : b < n - (k + 1)
               · exact absurd hb3 (by omega)
               · have HG := Lib.hid (show netStep (N, T, dats zs) rs = true from step_good HVC.out (fun i z hz => HK2.out i z (by have := (List.getElem?_eq_some_iff.mp hz).1; have h2 := HR.out.2.row.len; rw [dats_len] at this; simp only at h2; omega) hz) (fun i e he => HN3.out i e (by have := (List.getElem?_eq_some_iff.mp he).1; have := HRL.out; omega) he))
                 have HT2 := Lib.hid (show ∀ (j : Nat) (d : Dn), j < k + 1 → (datn ms)[j]? = some d → netStep d ((datn ms).drop (j + 1)) = true from fun j d hj hd => by
                   by_cases h : j = k
                   · subst h
                     obtain rfl := Option.some.inj (HD.out.symm.trans hd)
                     rw [HRS.out]; exact HG.out
                   · exact HT.out j d (by omega) hd)
                 go_wp2
                 exact ⟨⟨k + 1, by omega, by go_num, HT2.out, S_6.out.below⟩, by simp [intOf]; omega⟩
       · rw [Bool.not_eq_true] at hv
         subst hv
         have HE := Lib.hid (show false = netOk (datn ms) from (netOk_bad HD.out (step_bad1 HVC.out)).symm)
         go_wp2
         go_ret
         exact ⟨ret_bool HE.out, S_2.out.below⟩
     · have hcap2 : k + 1 < c := by omega
       obtain ⟨g, o, m, rfl, hg, hm, hr, hc⟩ := HA.out.at_ hkn
       have HP := Lib.hid (HPS.out m (List.mem_of_getElem? hm))
       obtain ⟨N, T, t0, t1, Bp, p, q, zs⟩ := m
       have hp : p ≤ 1048576 := HP.out
       obtain ⟨Aa, na, ca, Ba, ma, da, rfl, rfl⟩ := (show FrA w T t0 t1 from hr.1).shape
       have HD := Lib.hid (show (datn ms)[k]? = some (N, T, dats zs) from datn_get hm)
       have HR := Lib.hid hr
       have hk0 : (0 : Int) ≤ (k : Int) := by omega
       have hk1 : (k : Int) < (n : Int) := by omega
       obtain ⟨rs, hrs⟩ : ∃ z, (datn ms).drop (k + 1) = z := ⟨_, rfl⟩
       have HRS := Lib.hid hrs
       have HRL := Lib.hid (show rs.length = n - (k + 1) by rw [← hrs, List.length_drop, HL.out])
       obtain ⟨cb, hcb⟩ : ∃ z, wr.heap.size = z := ⟨_, rfl⟩
       have e0 : wr.cell? ⟨g, o + k * 5, none⟩ = some (.int .i64 N) := (HB.out.cell (p := ⟨g, o + k * 5, none⟩) hg).trans (hc 0 _ rfl)
       have e1 : wr.cell? ⟨g, o + k * 5 + 1, none⟩ = some (.bool T.s) := (HB.out.cell (p := ⟨g, o + k * 5 + 1, none⟩) hg).trans (hc 1 _ rfl)
       have e2 : wr.cell? ⟨g, o + k * 5 + 2, none⟩ = some ((.slice Aa na ca)) := (HB.out.cell (p := ⟨g, o + k * 5 + 2, none⟩) hg).trans (hc 2 _ rfl)
       have e3 : wr.cell? ⟨g, o + k * 5 + 3, none⟩ = some ((.slice Ba ma da)) := (HB.out.cell (p := ⟨g, o + k * 5 + 3, none⟩) hg).trans (hc 3 _ rfl)
       have e4 : wr.cell? ⟨g, o + k * 5 + 4, none⟩ = some ((.slice Bp p q)) := (HB.out.cell (p := ⟨g, o + k * 5 + 4, none⟩) hg).trans (hc 4 _ rfl)
       have HC := Lib.hid (HA.out.drop (k + 1) (by omega))
       have S_1 := Lib.hid (show St w (wr.alloc (.cells #[.int .i64 N, .bool T.s, (.slice Aa na ca), (.slice Ba ma da), (.slice Bp p q)] 60)) [(wr.heap.size, [.int .i64 N, .bool T.s, (.slice Aa na ca), (.slice Ba ma da), (.slice Bp p q)])] [] from (St.of_below HB.out).alloc [.int .i64 N, .bool T.s, (.slice Aa na ca), (.slice Ba ma da), (.slice Bp p q)] 60)
       clear hm hr hc hrs
       go_wp2_with fail
       refine (isValidConditional_s N T (.slice Aa na ca) (.slice Ba ma da) Bp p q zs _ (HR.out.1.below S_1.out.below) (HR.out.2.below S_1.out.below) hp).mono ?_
       rintro e w2 ⟨rfl, hb⟩
       obtain ⟨vc, hvc⟩ : ∃ z, okC N T (dats zs) = z := ⟨_, rfl⟩
       rw [hvc]
       have HVC := Lib.hid hvc
       have S_2 := Lib.hid (S_1.out.call hb)
       clear hb S_1 hvc e0 e1 e2 e3 e4
       rw [hcb] at S_2
       clear hcb
       by_cases hv : vc = true
       · subst hv
         have y0 := S_2.out.cell 0 0 rfl rfl
         have y1 := S_2.out.cell 0 1 rfl rfl
         have y2 := S_2.out.cell 0 2 rfl rfl
         have y3 := S_2.out.cell 0 3 rfl rfl
         have y4 := S_2.out.cell 0 4 rfl rfl
         go_wp2
         clear y0 y1 y2 y3 y4
         go_loopw [25] (fun i wx => ∃ a : Nat, a ≤ p ∧ i = .int .i64 a ∧ (∀ (j : Nat) (z : List Int × List Fr), j < a → (dats zs)[j]? = some z → kn rs (paNode z) = true) ∧ St w wx [(cb, [.int .i64 N, .bool T.s, (.slice Aa na ca), (.slice Ba ma da), (.slice Bp p q)])] []) (fun i _ => p - (intOf i).toNat)
         case atStart => exact ⟨0, Nat.zero_le _, rfl, fun j d hj => by omega, S_2.out⟩
         case round =>
           obtain ⟨a, ha, rfl, hkn2, hst⟩ := hrel
           have HK2 := Lib.hid hkn2
           have S_3 := Lib.hid hst
           clear hkn2 hst S_2
           by_cases hap : a < p
           · obtain ⟨g2, o2, z, rfl, hg2, hz, hrz, hsz, hcz⟩ := HR.out.2.at_ hap
             obtain ⟨ZA, ZP, ZQ, ZR, x0, i0, j0, x1, i1, j1, x2, i2, j2, x3, i3, j3, x4, i4, j4, x5, i5, j5, rfl⟩ := Rc.shapes13 hsz hrz
             have HZ := Lib.hid (show (dats zs)[a]? = some ([ZA], [ZP, ZQ, ZR]) from dats_get hz)
             have ha0 : (0 : Int) ≤ (a : Int) := by omega
             have ha1 : (a : Int) < (p : Int) := by omega
             have f0 : wr.cell? ⟨g2, o2 + a * 10, none⟩ = some (.int .i64 ZA) := (S_3.out.below.cell (p := ⟨g2, o2 + a * 10, none⟩) hg2).trans (hcz 0 _ rfl)
             have f1 : wr.cell? ⟨g2, o2 + a * 10 + 1, none⟩ = some (.bool ZP.s) := (S_3.out.below.cell (p := ⟨g2, o2 + a * 10 + 1, none⟩) hg2).trans (hcz 1 _ rfl)
             have f2 : wr.cell? ⟨g2, o2 + a * 10 + 2, none⟩ = some ((.slice x0 i0 j0)) := (S_3.out.below.cell (p := ⟨g2, o2 + a * 10 + 2, none⟩) hg2).trans (hcz 2 _ rfl)
             have f3 : wr.cell? ⟨g2, o2 + a * 10 + 3, none⟩ = some ((.slice x1 i1 j1)) := (S_3.out.below.cell (p := ⟨g2, o2 + a * 10 + 3, none⟩) hg2).trans (hcz 3 _ rfl)
             have f4 : wr.cell? ⟨g2, o2 + a * 10 + 4, none⟩ = some (.bool ZQ.s) := (S_3.out.below.cell (p := ⟨g2, o2 + a * 10 + 4, none⟩) hg2).trans (hcz 4 _ rfl)
             have f5 : wr.cell? ⟨g2, o2 + a * 10 + 5, none⟩ = some ((.slice x2 i2 j2)) := (S_3.out.below.cell (p := ⟨g2, o2 + a * 10 + 5, none⟩) hg2).trans (hcz 5 _ rfl)
             have f6 : wr.cell? ⟨g2, o2 + a * 10 + 6, none⟩ = some ((.slice x3 i3 j3)) := (S_3.out.below.cell (p := ⟨g2, o2 + a * 10 + 6, none⟩) hg2).trans (hcz 6 _ rfl)
             have f7 : wr.cell? ⟨g2, o2 + a * 10 + 7, none⟩ = some (.bool ZR.s) := (S_3.out.below.cell (p := ⟨g2, o2 + a * 10 + 7, none⟩) hg2).trans (hcz 7 _ rfl)
             have f8 : wr.cell? ⟨g2, o2 + a * 10 + 8, none⟩ = some ((.slice x4 i4 j4)) := (S_3.out.below.cell (p := ⟨g2, o2 + a * 10 + 8, none⟩) hg2).trans (hcz 8 _ rfl)
             have f9 : wr.cell? ⟨g2, o2 + a * 10 + 9, none⟩ = some ((.slice x5 i5 j5)) := (S_3.out.below.cell (p := ⟨g2, o2 + a * 10 + 9, none⟩) hg2).trans (hcz 9 _ rfl)
             have S_4 := Lib.hid (S_3.out.alloc [.int .i64 ZA, .bool ZP.s, (.slice x0 i0 j0), (.slice x1 i1 j1), .bool ZQ.s, (.slice x2 i2 j2), (.slice x3 i3 j3), .bool ZR.s, (.slice x4 i4 j4), (.slice x5 i5 j5)] 63)
             obtain ⟨pb, hpb⟩ : ∃ z, wr.heap.size = z := ⟨_, rfl⟩
             rw [hpb] at S_4
             clear hz hrz hsz hcz
             have y0 := S_4.out.cell 1 0 rfl rfl
             have y1 := S_4.out.cell 1 1 rfl rfl
             have y2 := S_4.out.cell 1 2 rfl rfl
             have y3 := S_4.out.cell 1 3 rfl rfl
             have y4 := S_4.out.cell 1 4 rfl rfl
             go_wp2
             clear f0 f1 f2 f3 f4 f5 f6 f7 f8 f9 y0 y1 y2 y3 y4
             have S_5 := Lib.hid (show St w _ [(pb, [.int .i64 ZA, .bool ZP.s, (.slice x0 i0 j0), (.slice x1 i1 j1), .bool ZQ.s, (.slice x2 i2 j2), (.slice x3 i3 j3), .bool ZR.s, (.slice x4 i4 j4), (.slice x5 i5 j5)]), (cb, [.int .i64 N, .bool T.s, (.slice Aa na ca), (.slice Ba ma da), (.slice (some ⟨g2, o2, none⟩) p q)])] [] from S_4.out)
             clear S_4 hpb
             go_loopw [7, 37] (fun fo j wx => ∃ b : Nat, b ≤ n - (k + 1) ∧ j = .int .i64 b ∧ fo = .bool (knT rs ZA b) ∧ St w wx [(pb, [.int .i64 ZA, .bool ZP.s, (.slice x0 i0 j0), (.slice x1 i1 j1), .bool ZQ.s, (.slice x2 i2 j2), (.slice x3 i3 j3), .bool ZR.s, (.slice x4 i4 j4), (.slice x5 i5 j5)]), (cb, [.int .i64 N, .bool T.s, (.slice Aa na ca), (.slice Ba ma da), (.slice (some ⟨g2, o2, none⟩) p q)])] []) (fun _ j _ => n - (k + 1) - (intOf j).toNat)
             case atStart => exact ⟨0, Nat.zero_le _, rfl, by simp [knT]; rfl, S_5.out⟩
             case round =>
               obtain ⟨b, hb, rfl, rfl, hst⟩ := hrel
               have S_6 := Lib.hid hst
               clear hst S_5
               obtain ⟨fb, hfb⟩ : ∃ z, knT rs ZA b = z := ⟨_, rfl⟩
               rw [hfb]
               have HFB := Lib.hid hfb
               clear hfb
               by_cases hb3 : b < n - (k + 1)
               · obtain ⟨g3, o3, m3, he3, hg3, hm3, hr3, hc3⟩ := HC.out.at_ hb3
                 obtain ⟨rfl, rfl⟩ : g = g3 ∧ o + (k + 1) * 5 = o3 := by cases he3; exact ⟨rfl, rfl⟩
                 obtain ⟨M, U, u0, u1, Bq, r, s, vs⟩ := m3
                 obtain ⟨Ac, nc, cc, Bc, mc, dc, rfl, rfl⟩ := (show FrA w U u0 u1 from hr3.1).shape
                 have HM3 := Lib.hid (show rs[b]? = some (M, U, dats vs) by rw [← HRS.out, ← datn_drop]; exact datn_get hm3)
                 have hb30 : (0 : Int) ≤ (b : Int) := by omega
                 have hb31 : (b : Int) < ((n - (k + 1) : Nat) : Int) := by omega
                 have d0 : wr.cell? ⟨g, o + (k + 1) * 5 + b * 5, none⟩ = some (.int .i64 M) := (S_6.out.below.cell (p := ⟨g, o + (k + 1) * 5 + b * 5, none⟩) hg3).trans (hc3 0 _ rfl)
                 have d1 : wr.cell? ⟨g, o + (k + 1) * 5 + b * 5 + 1, none⟩ = some (.bool U.s) := (S_6.out.below.cell (p := ⟨g, o + (k + 1) * 5 + b * 5 + 1, none⟩) hg3).trans (hc3 1 _ rfl)
                 have d2 : wr.cell? ⟨g, o + (k + 1) * 5 + b * 5 + 2, none⟩ = some ((.slice Ac nc cc)) := (S_6.out.below.cell (p := ⟨g, o + (k + 1) * 5 + b * 5 + 2, none⟩) hg3).trans (hc3 2 _ rfl)
                 have d3 : wr.cell? ⟨g, o + (k + 1) * 5 + b * 5 + 3, none⟩ = some ((.slice Bc mc dc)) := (S_6.out.below.cell (p := ⟨g, o + (k + 1) * 5 + b * 5 + 3, none⟩) hg3).trans (hc3 3 _ rfl)
                 have d4 : wr.cell? ⟨g, o + (k + 1) * 5 + b * 5 + 4, none⟩ = some ((.slice Bq r s)) := (S_6.out.below.cell (p := ⟨g, o + (k + 1) * 5 + b * 5 + 4, none⟩) hg3).trans (hc3 4 _ rfl)
                 clear hm3 hr3 hc3 he3
                 have S_7 := Lib.hid (S_6.out.alloc [.int .i64 M, .bool U.s, (.slice Ac nc cc), (.slice Bc mc dc), (.slice Bq r s)] 60)
                 have y0 := S_7.out.cell 1 0 rfl rfl
                 have y1 := S_7.out.cell 1 1 rfl rfl
                 have y2 := S_7.out.cell 1 2 rfl rfl
                 have y3 := S_7.out.cell 1 3 rfl rfl
                 have y4 := S_7.out.cell 1 4 rfl rfl
                 have y5 := S_7.out.cell 1 5 rfl rfl
                 have y6 := S_7.out.cell 1 6 rfl rfl
                 have y7 := S_7.out.cell 1 7 rfl rfl
                 have y8 := S_7.out.cell 1 8 rfl rfl
                 have y9 := S_7.out.cell 1 9 rfl rfl
                 have hlt3 : b + 1 ≤ n - (k + 1) := by omega
                 cases fb with
                 | true =>
                   have HF2 := Lib.hid (show true = knT rs ZA (b + 1) by rw [knT_succ HM3.out, HFB.out]; rfl)
                   go_wp2
                   exact ⟨⟨b + 1, hlt3, by go_num, by rw [← HF2.out], S_6.out.call ((Below.refl _ _).alloc (Nat.le_refl _) _)⟩, by simp [intOf]; omega⟩
                 | false =>
                   have HF2 := Lib.hid (show (M == ZA) = knT rs ZA (b + 1) by rw [knT_succ HM3.out, HFB.out]; rfl)
                   go_wp2
                   exact ⟨⟨b + 1, hlt3, by go_num, by rw [← HF2.out], S_6.out.call ((Below.refl _ _).alloc (Nat.le_refl _) _)⟩, by simp [intOf]; omega⟩
               · have HKN := Lib.hid (show kn rs ZA = fb by rw [← HFB.out]; exact (knT_all (by rw [HRL.out]; omega)).symm)
                 cases fb with
                 | true =>
                   have HK3 := Lib.hid (show ∀ (j : Nat) (z : List Int × List Fr), j < a + 1 → (dats zs)[j]? = some z → kn rs (paNode z) = true from fun j z hj hz => by
                     by_cases e : j = a
                     · subst e
                       obtain rfl := Option.some.inj (HZ.out.symm.trans hz)
                       exact HKN.out
                     · exact HK2.out j z (by omega) hz)
                   go_wp2
                   exact ⟨⟨a + 1, by omega, by go_num, HK3.out, S_6.out.dropBox 0⟩, by simp [intOf]; omega⟩
                 | false =>
                   have HE := Lib.hid (show false = netOk (datn ms) from (netOk_bad HD.out (by rw [HRS.out]; exact step_bad2 HZ.out HKN.out)).symm)
                   go_wp2
                   go_ret
                   exact ⟨ret_bool HE.out, S_6.out.below⟩
           · obtain rfl : a = p := by omega
             have y0 := S_3.out.cell 0 0 rfl rfl
             have y1 := S_3.out.cell 0 1 rfl rfl
             have y2 := S_3.out.cell 0 2 rfl rfl
             have y3 := S_3.out.cell 0 3 rfl rfl
             have y4 := S_3.out.cell 0 4 rfl rfl
             go_wp2
             clear y0 y1 y2 y3 y4
             go_loopw [58] (fun j wx => ∃ b : Nat, b ≤ n - (k + 1) ∧ j = .int .i64 b ∧ (∀ (i : Nat) (e : Dn), i < b → rs[i]? = some e → ¬ e.1 = N) ∧ St w wx [(cb, [.int .i64 N, .bool T.s, (.slice Aa na ca), (.slice Ba ma da), (.slice Bp a q)])] []) (fun j _ => n - (k + 1) - (intOf j).toNat)
             case atStart => exact ⟨0, Nat.zero_le _, rfl, fun i e hi => by omega, S_3.out⟩
             case round =>
               obtain ⟨b, hb, rfl, hne, hst⟩ := hrel
               have HN3 := Lib.hid hne
               have S_6 := Lib.hid hst
               clear hne hst S_3
               by_cases hb3 : b < n - (k + 1)
               · obtain ⟨g3, o3, m3, he3, hg3, hm3, hr3, hc3⟩ := HC.out.at_ hb3
                 obtain ⟨rfl, rfl⟩ : g = g3 ∧ o + (k + 1) * 5 = o3 := by cases he3; exact ⟨rfl, rfl⟩
                 obtain ⟨M, U, u0, u1, Bq, r, s, vs⟩ := m3
                 obtain ⟨Ac, nc, cc, Bc, mc, dc, rfl, rfl⟩ := (show FrA w U u0 u1 from hr3.1).shape
                 have HM3 := Lib.hid (show rs[b]? = some (M, U, dats vs) by rw [← HRS.out, ← datn_drop]; exact datn_get hm3)
                 have hb30 : (0 : Int) ≤ (b : Int) := by omega
                 have hb31 : (b : Int) < ((n - (k + 1) : Nat) : Int) := by omega
                 have d0 : wr.cell? ⟨g, o + (k + 1) * 5 + b * 5, none⟩ = some (.int .i64 M) := (S_6.out.below.cell (p := ⟨g, o + (k + 1) * 5 + b * 5, none⟩) hg3).trans (hc3 0 _ rfl)
                 have d1 : wr.cell? ⟨g, o + (k + 1) * 5 + b * 5 + 1, none⟩ = some (.bool U.s) := (S_6.out.below.cell (p := ⟨g, o + (k + 1) * 5 + b * 5 + 1, none⟩) hg3).trans (hc3 1 _ rfl)
                 have d2 : wr.cell? ⟨g, o + (k + 1) * 5 + b * 5 + 2, none⟩ = some ((.slice Ac nc cc)) := (S_6.out.below.cell (p := ⟨g, o + (k + 1) * 5 + b * 5 + 2, none⟩) hg3).trans (hc3 2 _ rfl)
                 have d3 : wr.cell? ⟨g, o + (k + 1) * 5 + b * 5 + 3, none⟩ = some ((.slice Bc mc dc)) := (S_6.out.below.cell (p := ⟨g, o + (k + 1) * 5 + b * 5 + 3, none⟩) hg3).trans (hc3 3 _ rfl)
                 have d4 : wr.cell? ⟨g, o + (k + 1) * 5 + b * 5 + 4, none⟩ = some ((.slice Bq r s)) := (S_6.out.below.cell (p := ⟨g, o + (k + 1) * 5 + b * 5 + 4, none⟩) hg3).trans (hc3 4 _ rfl)
                 clear hm3 hr3 hc3 he3
                 have S_7 := Lib.hid (S_6.out.alloc [.int .i64 M, .bool U.s, (.slice Ac nc cc), (.slice Bc mc dc), (.slice Bq r s)] 60)
                 have y0 := S_7.out.cell 1 0 rfl rfl
                 have y1 := S_7.out.cell 1 1 rfl rfl
                 have y2 := S_7.out.cell 1 2 rfl rfl
                 have y3 := S_7.out.cell 1 3 rfl rfl
                 have y4 := S_7.out.cell 1 4 rfl rfl
                 by_cases hMN : M = N
                 · subst hMN
                   have HE := Lib.hid (show false = netOk (datn ms) from (netOk_bad HD.out (by rw [HRS.out]; exact step_bad3 HM3.out rfl)).symm)
                   have hqq : (M == M) = true := by simp
                   go_wp2
                   go_ret
                   exact ⟨ret_bool HE.out, S_6.out.below.trans (((Below.refl _ _).alloc (Nat.le_refl _) _).mono S_6.out.size)⟩
                 · have hqq : (M == N) = false := by simpa using hMN
                   have HN4 := Lib.hid (show ∀ (i : Nat) (e : Dn), i < b + 1 → rs[i]? = some e → ¬ e.1 = N from fun i e hi he => by
                     by_cases h : i = b
                     · subst h
                       obtain rfl := Option.some.inj (HM3.out.symm.trans he)
                       exact hMN
                     · exact HN3.out i e (by omega) he)
                   go_wp2
                   exact ⟨⟨b + 1, by omega, by go_num, HN4.out, S_6.out.call ((Below.refl _ _).alloc (Nat.le_refl _) _)⟩, by simp [intOf]; omega⟩
               · have HG := Lib.hid (show netStep (N, T, dats zs) rs = true from step_good HVC.out (fun i z hz => HK2.out i z (by have := (List.getElem?_eq_some_iff.mp hz).1; have h2 := HR.out.2.row.len; rw [dats_len] at this; simp only at h2; omega) hz) (fun i e he => HN3.out i e (by have := (List.getElem?_eq_some_iff.mp he).1; have := HRL.out; omega) he))
                 have HT2 := Lib.hid (show ∀ (j : Nat) (d : Dn), j < k + 1 → (datn ms)[j]? = some d → netStep d ((datn ms).drop (j + 1)) = true from fun j d hj hd => by
                   by_cases h : j = k
                   · subst h
                     obtain rfl := Option.some.inj (HD.out.symm.trans hd)
                     rw [HRS.out]; exact HG.out
                   · exact HT.out j d (by omega) hd)
                 go_wp2
                 exact ⟨⟨k + 1, by omega, by go_num, HT2.out, S_6.out.below⟩, by simp [intOf]; omega⟩
       · rw [Bool.not_eq_true] at hv
         subst hv
         have HE := Lib.hid (show false = netOk (datn ms) from (netOk_bad HD.out (step_bad1 HVC.out)).symm)
         go_wp2
         go_ret
         exact ⟨ret_bool HE.out, S_2.out.below⟩
   · obtain rfl : k = n := by omega
     have HE := Lib.hid (show true = netOk (datn ms) from ((netOk_iff _).mpr fun j d hd => HT.out j d (by have := (List.getElem?_eq_some_iff.mp hd).1; have := HL.out; omega) hd).symm)
     go_wp2
     go_ret
     exact ⟨ret_bool HE.out, HB.out⟩
end Go.Proofs.YtaboodioabopnaaGreat
