/- Proved: at every code, natural numbers satisfy the division law and are recovered from their text, the call returns true and changes no memory that was there; the listed variables of the library are tied to the text that lays them. Conditions: none. -/
import Derived.Test.YtfhndfcncedieaaDoorRows
import Derived.Test.YtfhndfcncedieaaDoorLaidNat
import Derived.Test.YtfhndfcncedieaaDoorMakeNat
import Derived.Test.YtfhndfcncedieaaDoorNatsAid
import Derived.Test.YtfhndfcncedieaaDoorParseNat
import Derived.Test.YtfhndfcncedieaaDoorFormatNat
import Derived.Test.YtfhndfcncedieaaDoorNatGcd
import Derived.Test.YtfhndfcncedieaaDoorOpen
import Derived.Test.YtfhndfcncedieaaDoorCards
import Derived.Test.YtfhndfcncedieaaDoorTie
import Derived.WalkKit
import Derived.ProofKit
import Derived.OpenShut
import Derived.ShutString
import Derived.ChangeOld
import Derived.Below
import Derived.LaidMore
import Derived.Stop.Joined
import Derived.SevenTiedAt
namespace Go.Proofs.YtfhndfcncedieaaDoor.lawTopNats
open Go.ChangeShapes Go.WideShapes Go.ChangeAt Go.RowKit
open Go.ChangeMaps (open_string shut_string)
set_option linter.unusedVariables false

theorem own : ownKnob Tryd.prog.godebug = none := by kernel_rfl
theorem laidOut : laidOutB Tryd.prog = true := by kernel_rfl
open Nt

set_option maxRecDepth 100000 in
set_option maxHeartbeats 4000000 in
theorem walk (W : World) (hlaid : Laid3 W) (a0 : Option Addr) (len0 cap0 : Nat) (z0 : List Int) (w0 : IsInts .u8 W a0 len0 cap0 z0) :
    Calls Tryd.prog 3 #[.slice a0 len0 cap0] W fun e w' => e = .returned (.bool true) ∧ Below W.heap.size W w' := by
  obtain ⟨hA, hcap, hcm, hzs⟩ := w0
  have HA := Lib.hid hA
  have HZ := Lib.hid (show ∀ z ∈ z0, 0 ≤ z ∧ z ≤ 255 from fun z hz => bounds_u8 (hzs z hz))
  have HLD := Lib.hid hlaid
  have hlm : len0 ≤ maxLen := Nat.le_trans hcap hcm
  unfold maxLen at hlm
  clear hA hzs hcm hcap hlaid
  obtain ⟨i0, hi, hz0, hz1, hz2⟩ := info_parts info_int
  by_cases hs : 1048576 < len0
  · go_enter Tryd.func3, Tryd.ntmps3
    go_wp2
    go_ret
    exact ⟨rfl, Below.refl _ _⟩
  have HB0 := Lib.hid (Below.refl W.heap.size W)
  go_enter Tryd.func3, Tryd.ntmps3
  go_wp2_with fail
  refine (makeNat_any z0 a0 len0 cap0 0 W (by omega) (by omega) HA.out (by omega) HZ.out).mono ?_
  rintro e w1 ⟨V, v1, rfl, hV, ho1, hb1⟩
  obtain ⟨A_a, c_a, rfl⟩ := own_shape ho1
  have hVl : (dig V).length ≤ 3 := dig_len hV
  obtain ⟨n_a, hna⟩ : ∃ n, (dig V).length = n := ⟨_, rfl⟩
  rw [hna] at ho1 hVl ⊢
  have H_a_1 := Lib.hid (OwnV.of_own ho1)
  have HNA := Lib.hid hna
  have HV := Lib.hid hV
  have HB1 := Lib.hid hb1
  clear ho1 hb1 hna hV
  go_wp2_with fail
  refine (makeNat_any z0 a0 len0 cap0 1 w1 (by omega) (by omega) (HA.out.below HB1.out (Nat.le_refl _)) (by omega) HZ.out).mono ?_
  rintro e w2 ⟨V1, v2, rfl, hV1, ho2, hb2⟩
  have hV1l : (dig V1).length ≤ 3 := dig_len hV1
  have HO2 := Lib.hid ho2
  have HB2 := Lib.hid (HB1.out.trans (hb2.mono HB1.out.size))
  have HBB2 := Lib.hid hb2
  have hsz2 := hb2.size
  have HCELL := Lib.hid (cell_new w2 (.int .i64 3) 3)
  clear ho2 hb2 hV1
  go_wp2_with (at_builtin; refine wpList_append_own _ rfl (.tmp 18) (.tmp 19) 23 rfl w1.heap.size 3 i0 _ 1 8 Tryd.underlying23 hi hz0 hz1 hz2 rfl (by decide) _ (dig V1).length (nats (dig V1)) rfl (HO2.out.alloc _) ⟨w2.heap.size, 0, none⟩ 1 1 [.int .i64 3] rfl rfl HCELL.out (by simp [Value.oneCell']) (by unfold maxLen; omega) (by omega) (by simp; omega) ?_)
  intro v3 w3 hown' hgrow _
  have e3 : nats (dig V1) ++ [.int .i64 3] = nats (dig V1 ++ [3]) := by rw [nats_app]; rfl
  rw [e3] at hown'
  have hcan := app3_can (dig V1) (dig_can V1)
  have hbd : dig V1 ++ [3] = dig (val (dig V1 ++ [3])) := (dig_of_can hcan).symm
  have hb60 : (dig V1 ++ [3]).length ≤ 4 := by simp; omega
  have hvb : val (dig V1 ++ [3]) < 1000000000 ^ 4 := Nat.lt_of_lt_of_le (val_lt hcan.1) (Nat.pow_le_pow_right (by decide) hb60)
  have hbl : (dig V1).length + 1 = (dig V1 ++ [3]).length := by simp
  have hbpos : val (dig V1 ++ [3]) ≠ 0 := fun h => by have h2 := can_val_zero hcan h; simp at h2
  rw [hbl] at hown'
  obtain ⟨T, hT⟩ : ∃ T, val (dig V1 ++ [3]) = T := ⟨_, rfl⟩
  rw [hbd] at hown' hb60
  rw [hT] at hown' hb60 hvb hbpos
  have hb13 := (HBB2.out.alloc HBB2.out.size (.cells #[.int .i64 3] 3)).grown hgrow (by simp; omega) (fun k hk => (HO2.out.lt k hk).1)
  have H_a_3 := Lib.hid (H_a_1.out.below hb13)
  have HB3 := Lib.hid (HB1.out.trans (hb13.mono HB1.out.size))
  obtain ⟨A_b, c_b, rfl⟩ := own_shape hown'
  obtain ⟨n_b, hnb⟩ : ∃ n, (dig T).length = n := ⟨_, rfl⟩
  rw [hnb] at hown' hb60 ⊢
  have H_b_3 := Lib.hid ((OwnV.of_own hown').based HB1.out.size)
  have HTB := Lib.hid hvb
  have HT0 := Lib.hid hbpos
  have HNB := Lib.hid hnb
  clear hown' hgrow hb13 H_a_1 HO2 HBB2 HCELL e3 hcan hbd hbl hT hvb hbpos hnb HB2
  obtain ⟨Q, hQ⟩ : ∃ Q, V / T = Q := ⟨_, rfl⟩
  obtain ⟨M, hM⟩ : ∃ M, V % T = M := ⟨_, rfl⟩
  obtain ⟨G, hG⟩ : ∃ G, Nat.gcd V T = G := ⟨_, rfl⟩
  have hT0 : 0 < T := Nat.pos_of_ne_zero HT0.out
  have hM2 : M < T := by rw [← hM]; exact Nat.mod_lt _ hT0
  have hQ2 : Q ≤ V := by rw [← hQ]; exact Nat.div_le_self _ _
  have hdm : Q * T + M = V := by rw [← hQ, ← hM, Nat.mul_comm]; exact Nat.div_add_mod _ _
  have hGT : T % G = 0 := by rw [← hG]; exact Nat.mod_eq_zero_of_dvd (Nat.gcd_dvd_right V T)
  have hG0 : 0 < G := by rw [← hG]; exact Nat.gcd_pos_of_pos_right _ hT0
  have hGle : G ≤ T := by rw [← hG]; exact Nat.gcd_le_right V hT0
  have hp34 : (1000000000 : Nat) ^ 3 ≤ 1000000000 ^ 60 := Nat.pow_le_pow_right (by decide) (by decide)
  have hVbig : V < 1000000000 ^ 60 := Nat.lt_of_lt_of_le HV.out hp34
  have hQT : Q * T < 1000000000 ^ 60 := Nat.lt_of_le_of_lt (by rw [← hdm]; exact Nat.le_add_right _ _) hVbig
  have hlV : (dig V).length ≤ 60 := by rw [HNA.out]; omega
  have hlT : (dig T).length ≤ 60 := by rw [HNB.out]; omega
  have hlQ : (dig Q).length ≤ 60 := Nat.le_trans (dig_len (Nat.lt_of_le_of_lt hQ2 HV.out)) (by decide)
  have hlM : (dig M).length ≤ 60 := Nat.le_trans (dig_len (Nat.lt_trans hM2 HTB.out)) (by decide)
  have hlG : (dig G).length ≤ 60 := Nat.le_trans (dig_len (Nat.lt_of_le_of_lt hGle HTB.out)) (by decide)
  have hlP : (dig (Q * T)).length ≤ 60 := dig_len hQT
  have HR1 := Lib.hid (show nats (quoN (zi (dig V)) (zi (dig T))) = nats (dig Q) by rw [quoN_dig hlV hlT, hQ])
  have HR2 := Lib.hid (show nats (remN (zi (dig V)) (zi (dig T))) = nats (dig M) by rw [remN_dig hlV hlT HT0.out, hM])
  have HR3 := Lib.hid (show nats (gcdN (zi (dig V)) (zi (dig T))) = nats (dig G) by rw [gcdN_dig hlV hlT, hG])
  have HR4 := Lib.hid (show nats (remN (zi (dig T)) (zi (dig G))) = nats [] by rw [remN_dig hlT hlG (by omega), hGT, dig_zero])
  have HR5 := Lib.hid (show nats (mulN (zi (dig Q)) (zi (dig T))) = nats (dig (Q * T)) by rw [mulN_dig hlQ hlT hQT])
  have HR6 := Lib.hid (show nats (addN (zi (dig (Q * T))) (zi (dig M))) = nats (dig V) by rw [addN_dig hlP hlM (by rw [hdm]; exact hVbig), hdm])
  have HR7 := Lib.hid (show fmtN (zi (dig V)) = natText (dig V) from fmtN_dig hlV)
  have HTX := Lib.hid (text_back (dig V) (dig_can V) hlV)
  have HC1 := Lib.hid (show cmpI (zi (dig V)) (zi (dig V)) = 0 by rw [cmpI_dig hlV hlV, sgn_eq rfl])
  have HC2 := Lib.hid (show cmpI (zi (dig M)) (zi (dig T)) = -1 by rw [cmpI_dig hlM hlT, sgn_lt hM2])
  have hGl0 : 0 < (dig G).length := List.length_pos_iff.mpr (dig_ne hG0)
  obtain ⟨n_q, hnq⟩ : ∃ n, (dig Q).length = n := ⟨_, rfl⟩
  obtain ⟨n_r, hnr⟩ : ∃ n, (dig M).length = n := ⟨_, rfl⟩
  obtain ⟨n_g, hng⟩ : ∃ n, (dig G).length = n := ⟨_, rfl⟩
  obtain ⟨n_p, hnp⟩ : ∃ n, (dig (Q * T)).length = n := ⟨_, rfl⟩
  rw [hnq] at hlQ
  rw [hnr] at hlM
  rw [hng] at hlG hGl0
  rw [hnp] at hlP
  have HLA := Lib.hid (show (nats (dig V)).length = n_a by rw [nats_len, HNA.out])
  have HLQ := Lib.hid (show (nats (dig Q)).length = n_q by rw [nats_len, hnq])
  have HLR := Lib.hid (show (nats (dig M)).length = n_r by rw [nats_len, hnr])
  have HLG := Lib.hid (show (nats (dig G)).length = n_g by rw [nats_len, hng])
  have HLP := Lib.hid (show (nats (dig (Q * T))).length = n_p by rw [nats_len, hnp])
  have HL0 := Lib.hid (show (nats []).length = 0 from rfl)
  rw [HNA.out] at hlV
  rw [HNB.out] at hlT
  clear hQ hM hG hdm hGT hnq hnr hng hnp hp34 hVbig hQT hM2 hQ2 hGle
  go_wp2_with fail
  refine (natDiv_impl A_a A_b n_a c_a n_b c_b (zi (dig V)) (zi (dig T)) _ H_a_3.out.row H_b_3.out.row (by unfold maxLen; omega) (by unfold maxLen; omega)).mono ?_
  rintro e w4 ⟨v4_0, v4_1, rfl, ho4_0, ho4_1, ap4_0, ap4_1, hb4⟩
  rw [HR1.out] at ho4_0
  obtain ⟨A_q, c_q, hv⟩ := ho4_0.shape
  rw [HLQ.out] at hv
  subst hv
  have AP_a_q := Lib.hid (OwnV.apart H_a_3.out ho4_0 (Nat.le_refl _))
  have AP_q_a := Lib.hid (OwnV.apart' ho4_0 H_a_3.out (Nat.le_refl _))
  have AP_b_q := Lib.hid (OwnV.apart H_b_3.out ho4_0 (Nat.le_refl _))
  have AP_q_b := Lib.hid (OwnV.apart' ho4_0 H_b_3.out (Nat.le_refl _))
  rw [HR2.out] at ho4_1
  obtain ⟨A_r, c_r, hv⟩ := ho4_1.shape
  rw [HLR.out] at hv
  subst hv
  have AP_a_r := Lib.hid (OwnV.apart H_a_3.out ho4_1 (Nat.le_refl _))
  have AP_r_a := Lib.hid (OwnV.apart' ho4_1 H_a_3.out (Nat.le_refl _))
  have AP_b_r := Lib.hid (OwnV.apart H_b_3.out ho4_1 (Nat.le_refl _))
  have AP_r_b := Lib.hid (OwnV.apart' ho4_1 H_b_3.out (Nat.le_refl _))
  have AP_q_r := Lib.hid ap4_0
  have AP_r_q := Lib.hid ap4_1
  clear ap4_0 ap4_1
  have H_a_4 := Lib.hid (H_a_3.out.below hb4)
  clear H_a_3
  have H_b_4 := Lib.hid (H_b_3.out.below hb4)
  clear H_b_3
  have H_q_4 := Lib.hid (ho4_0.based HB3.out.size)
  clear ho4_0
  have H_r_4 := Lib.hid (ho4_1.based HB3.out.size)
  clear ho4_1
  have HB4 := Lib.hid (HB3.out.trans (hb4.mono HB3.out.size))
  clear hb4
  go_wp2_with fail
  refine (formatNat_impl A_a n_a c_a (zi (dig V)) _ H_a_4.out.row (by unfold maxLen; omega) (HLD.out.below HB4.out).1).mono ?_
  rintro e w5 ⟨rfl, hb5⟩
  rw [HR7.out]
  have H_a_5 := Lib.hid (H_a_4.out.below hb5)
  clear H_a_4
  have H_b_5 := Lib.hid (H_b_4.out.below hb5)
  clear H_b_4
  have H_q_5 := Lib.hid (H_q_4.out.below hb5)
  clear H_q_4
  have H_r_5 := Lib.hid (H_r_4.out.below hb5)
  clear H_r_4
  have HB5 := Lib.hid (HB4.out.trans (hb5.mono HB4.out.size))
  clear hb5
  obtain ⟨tx, htx⟩ : ∃ tx, natText (dig V) = tx := ⟨_, rfl⟩
  rw [htx] at HTX ⊢
  have htxs := HTX.out.2.2
  clear htx
  go_wp2_with fail
  refine (parseNat_impl tx _ (by unfold maxLen; omega)).mono ?_
  rintro e w6 ⟨v6_0, rfl, ho6_0, hb6⟩
  rw [HTX.out.1, HTX.out.2.1] at *
  obtain ⟨A_x, c_x, hv⟩ := ho6_0.shape
  rw [HLA.out] at hv
  subst hv
  have H_x_6 := Lib.hid (ho6_0.based HB5.out.size)
  clear ho6_0
  have H_a_6 := Lib.hid (H_a_5.out.below hb6)
  clear H_a_5
  have H_b_6 := Lib.hid (H_b_5.out.below hb6)
  clear H_b_5
  have H_q_6 := Lib.hid (H_q_5.out.below hb6)
  clear H_q_5
  have H_r_6 := Lib.hid (H_r_5.out.below hb6)
  clear H_r_5
  have HB6 := Lib.hid (HB5.out.trans (hb6.mono HB5.out.size))
  clear hb6
  go_wp2_with fail
  refine (natGcd_impl A_a A_b n_a c_a n_b c_b (zi (dig V)) (zi (dig T)) _ H_a_6.out.row H_b_6.out.row (by unfold maxLen; omega) (by unfold maxLen; omega)).mono ?_
  rintro e w7 ⟨v7_0, rfl, ho7_0, hb7⟩
  rw [HR3.out] at ho7_0
  obtain ⟨A_g, c_g, hv⟩ := ho7_0.shape
  rw [HLG.out] at hv
  subst hv
  have AP_a_g := Lib.hid (OwnV.apart H_a_6.out ho7_0 (Nat.le_refl _))
  have AP_g_a := Lib.hid (OwnV.apart' ho7_0 H_a_6.out (Nat.le_refl _))
  have AP_b_g := Lib.hid (OwnV.apart H_b_6.out ho7_0 (Nat.le_refl _))
  have AP_g_b := Lib.hid (OwnV.apart' ho7_0 H_b_6.out (Nat.le_refl _))
  have AP_q_g := Lib.hid (OwnV.apart H_q_6.out ho7_0 (Nat.le_refl _))
  have AP_g_q := Lib.hid (OwnV.apart' ho7_0 H_q_6.out (Nat.le_refl _))
  have AP_r_g := Lib.hid (OwnV.apart H_r_6.out ho7_0 (Nat.le_refl _))
  have AP_g_r := Lib.hid (OwnV.apart' ho7_0 H_r_6.out (Nat.le_refl _))
  have AP_x_g := Lib.hid (OwnV.apart H_x_6.out ho7_0 (Nat.le_refl _))
  have AP_g_x := Lib.hid (OwnV.apart' ho7_0 H_x_6.out (Nat.le_refl _))
  have H_a_7 := Lib.hid (H_a_6.out.below hb7)
  clear H_a_6
  have H_b_7 := Lib.hid (H_b_6.out.below hb7)
  clear H_b_6
  have H_q_7 := Lib.hid (H_q_6.out.below hb7)
  clear H_q_6
  have H_r_7 := Lib.hid (H_r_6.out.below hb7)
  clear H_r_6
  have H_x_7 := Lib.hid (H_x_6.out.below hb7)
  clear H_x_6
  have H_g_7 := Lib.hid (ho7_0.based HB6.out.size)
  clear ho7_0
  have HB7 := Lib.hid (HB6.out.trans (hb7.mono HB6.out.size))
  clear hb7
  go_wp2_with fail
  obtain ⟨n_z, HLZ⟩ : ∃ n, Hid ((nats (quoN (zi (dig T)) (zi (dig G)))).length = n) := ⟨_, Lib.hid rfl⟩
  refine (natDiv_impl A_b A_g n_b c_b n_g c_g (zi (dig T)) (zi (dig G)) _ H_b_7.out.row H_g_7.out.row (by unfold maxLen; omega) (by unfold maxLen; omega)).mono ?_
  rintro e w8 ⟨v8_0, v8_1, rfl, ho8_0, ho8_1, ap8_0, ap8_1, hb8⟩
  obtain ⟨A_tq, c_tq, hv⟩ := ho8_0.shape
  rw [HLZ.out] at hv
  subst hv
  rw [HR4.out] at ho8_1
  obtain ⟨A_tl, c_tl, hv⟩ := ho8_1.shape
  rw [HL0.out] at hv
  subst hv
  clear ap8_0 ap8_1
  have H_a_8 := Lib.hid (H_a_7.out.below hb8)
  clear H_a_7
  have H_b_8 := Lib.hid (H_b_7.out.below hb8)
  clear H_b_7
  have H_q_8 := Lib.hid (H_q_7.out.below hb8)
  clear H_q_7
  have H_r_8 := Lib.hid (H_r_7.out.below hb8)
  clear H_r_7
  have H_x_8 := Lib.hid (H_x_7.out.below hb8)
  clear H_x_7
  have H_g_8 := Lib.hid (H_g_7.out.below hb8)
  clear H_g_7
  have H_tq_8 := Lib.hid (ho8_0.based HB7.out.size)
  clear ho8_0
  have H_tl_8 := Lib.hid (ho8_1.based HB7.out.size)
  clear ho8_1
  have HB8 := Lib.hid (HB7.out.trans (hb8.mono HB7.out.size))
  clear hb8
  go_wp2_with fail
  clear H_tq_8
  refine (natCmp_impl A_x A_a n_a c_x n_a c_a (zi (dig V)) (zi (dig V)) _ H_x_8.out.row H_a_8.out.row (by unfold maxLen; omega) (by unfold maxLen; omega)).mono ?_
  rintro e w9 ⟨rfl, hb9⟩
  rw [HC1.out]
  have H_a_9 := Lib.hid (H_a_8.out.below hb9)
  clear H_a_8
  have H_b_9 := Lib.hid (H_b_8.out.below hb9)
  clear H_b_8
  have H_q_9 := Lib.hid (H_q_8.out.below hb9)
  clear H_q_8
  have H_r_9 := Lib.hid (H_r_8.out.below hb9)
  clear H_r_8
  have H_x_9 := Lib.hid (H_x_8.out.below hb9)
  clear H_x_8
  have H_g_9 := Lib.hid (H_g_8.out.below hb9)
  clear H_g_8
  have H_tl_9 := Lib.hid (H_tl_8.out.below hb9)
  clear H_tl_8
  have HB9 := Lib.hid (HB8.out.trans (hb9.mono HB8.out.size))
  clear hb9
  go_wp2_with fail
  refine (natMul_impl A_q A_b n_q c_q n_b c_b (zi (dig Q)) (zi (dig T)) _ H_q_9.out.row H_b_9.out.row (by unfold maxLen; omega) (by unfold maxLen; omega)).mono ?_
  rintro e w10 ⟨v10_0, rfl, ho10_0, hb10⟩
  rw [HR5.out] at ho10_0
  obtain ⟨A_tp, c_tp, hv⟩ := ho10_0.shape
  rw [HLP.out] at hv
  subst hv
  have H_a_10 := Lib.hid (H_a_9.out.below hb10)
  clear H_a_9
  have H_b_10 := Lib.hid (H_b_9.out.below hb10)
  clear H_b_9
  have H_q_10 := Lib.hid (H_q_9.out.below hb10)
  clear H_q_9
  have H_r_10 := Lib.hid (H_r_9.out.below hb10)
  clear H_r_9
  have H_x_10 := Lib.hid (H_x_9.out.below hb10)
  clear H_x_9
  have H_g_10 := Lib.hid (H_g_9.out.below hb10)
  clear H_g_9
  have H_tl_10 := Lib.hid (H_tl_9.out.below hb10)
  clear H_tl_9
  have H_tp_10 := Lib.hid (ho10_0.based HB9.out.size)
  clear ho10_0
  have HB10 := Lib.hid (HB9.out.trans (hb10.mono HB9.out.size))
  clear hb10
  go_wp2_with fail
  refine (natAdd_impl A_tp A_r n_p c_tp n_r c_r (zi (dig (Q * T))) (zi (dig M)) _ H_tp_10.out.row H_r_10.out.row (by unfold maxLen; omega) (by unfold maxLen; omega)).mono ?_
  rintro e w11 ⟨v11_0, rfl, ho11_0, hb11⟩
  rw [HR6.out] at ho11_0
  obtain ⟨A_ts, c_ts, hv⟩ := ho11_0.shape
  rw [HLA.out] at hv
  subst hv
  have H_a_11 := Lib.hid (H_a_10.out.below hb11)
  clear H_a_10
  have H_b_11 := Lib.hid (H_b_10.out.below hb11)
  clear H_b_10
  have H_q_11 := Lib.hid (H_q_10.out.below hb11)
  clear H_q_10
  have H_r_11 := Lib.hid (H_r_10.out.below hb11)
  clear H_r_10
  have H_x_11 := Lib.hid (H_x_10.out.below hb11)
  clear H_x_10
  have H_g_11 := Lib.hid (H_g_10.out.below hb11)
  clear H_g_10
  have H_tl_11 := Lib.hid (H_tl_10.out.below hb11)
  clear H_tl_10
  have H_tp_11 := Lib.hid (H_tp_10.out.below hb11)
  clear H_tp_10
  have H_ts_11 := Lib.hid (ho11_0.based HB10.out.size)
  clear ho11_0
  have HB11 := Lib.hid (HB10.out.trans (hb11.mono HB10.out.size))
  clear hb11
  go_wp2_with fail
  refine (natCmp_impl A_ts A_a n_a c_ts n_a c_a (zi (dig V)) (zi (dig V)) _ H_ts_11.out.row H_a_11.out.row (by unfold maxLen; omega) (by unfold maxLen; omega)).mono ?_
  rintro e w12 ⟨rfl, hb12⟩
  rw [HC1.out]
  have H_a_12 := Lib.hid (H_a_11.out.below hb12)
  clear H_a_11
  have H_b_12 := Lib.hid (H_b_11.out.below hb12)
  clear H_b_11
  have H_q_12 := Lib.hid (H_q_11.out.below hb12)
  clear H_q_11
  have H_r_12 := Lib.hid (H_r_11.out.below hb12)
  clear H_r_11
  have H_x_12 := Lib.hid (H_x_11.out.below hb12)
  clear H_x_11
  have H_g_12 := Lib.hid (H_g_11.out.below hb12)
  clear H_g_11
  have H_tl_12 := Lib.hid (H_tl_11.out.below hb12)
  clear H_tl_11
  have H_tp_12 := Lib.hid (H_tp_11.out.below hb12)
  clear H_tp_11
  have H_ts_12 := Lib.hid (H_ts_11.out.below hb12)
  clear H_ts_11
  have HB12 := Lib.hid (HB11.out.trans (hb12.mono HB11.out.size))
  clear hb12
  go_wp2_with fail
  refine (natCmp_impl A_r A_b n_r c_r n_b c_b (zi (dig M)) (zi (dig T)) _ H_r_12.out.row H_b_12.out.row (by unfold maxLen; omega) (by unfold maxLen; omega)).mono ?_
  rintro e w13 ⟨rfl, hb13⟩
  rw [HC2.out]
  have H_a_13 := Lib.hid (H_a_12.out.below hb13)
  clear H_a_12
  have H_b_13 := Lib.hid (H_b_12.out.below hb13)
  clear H_b_12
  have H_q_13 := Lib.hid (H_q_12.out.below hb13)
  clear H_q_12
  have H_r_13 := Lib.hid (H_r_12.out.below hb13)
  clear H_r_12
  have H_x_13 := Lib.hid (H_x_12.out.below hb13)
  clear H_x_12
  have H_g_13 := Lib.hid (H_g_12.out.below hb13)
  clear H_g_12
  have H_tl_13 := Lib.hid (H_tl_12.out.below hb13)
  clear H_tl_12
  have H_tp_13 := Lib.hid (H_tp_12.out.below hb13)
  clear H_tp_12
  have H_ts_13 := Lib.hid (H_ts_12.out.below hb13)
  clear H_ts_12
  have HB13 := Lib.hid (HB12.out.trans (hb13.mono HB12.out.size))
  clear hb13
  have hGz : (0 : Int) < (n_g : Int) := by omega
  go_wp2
  go_ret
  exact ⟨rfl, HB13.out⟩

theorem door_met (os : Os) (args : Array Value) : laidMetH Tryd.prog Rows.fnNatsRow.laid ((World.doorLaid Tryd.prog 400 os).forCall (fun _ _ => 0) ⟨#[], args, []⟩).memory :=
  laidMetH_of_parts3 (fuel := 8) (laidMet_of_run' 8 (by kernel_rfl) (by kernel_rfl)) (by kernel_rfl) (by kernel_rfl)
set_option maxRecDepth 100000 in
theorem lifted (os : Os) (started : os.Started) (H : Type) (enc : TypeId × Value → H) :
    ReturnsInHanded {} Tryd.checked os 3 .any (fun w args => (Rows.fnNatsSpec.pre enc Tryd.prog Tryd.f3 [] false w args ∧ laidMetH Tryd.prog Rows.fnNatsRow.laid w) ∧ sizedMet enc Tryd.prog Tryd.f3 (OpenSpec.ofChange Rows.fnNatsSpec) false w args)
      (Rows.fnNatsSpec.post enc Tryd.prog Tryd.f3 false true false false) := by
  refine returnsInHanded_of_change_and (C := Tryd.checked) (X := fun w _ => laidMetH Tryd.prog Rows.fnNatsRow.laid w) (fun _ _ _ hh h => h.of_heap hh) own started (by kernel_rfl) Tryd.func3
    (ChangeSpec.witness_shaped (enc := enc) (C := Tryd.checked) (os := os) (X := fun w _ => laidMetH Tryd.prog Rows.fnNatsRow.laid w) false (World.doorLaid Tryd.prog 400 os) #[.slice none 0 0] 8 rfl (World.shaped_of_RefB (by kernel_rfl) (by kernel_rfl)) (by kernel_rfl) (by kernel_rfl) (by kernel_rfl) (door_met os _)) ?_
  intro W base args ds gs before hval0 hW _ _ hL _
  have hval : ∀ (j : Nat) t v, Tryd.f3.params[j]? = some t → args[j]? = some v → Value.okWide Tryd.prog W .any base t v := hval0
  have hW' := hW
  obtain ⟨p, q, hA0, hV, rfl, hfz, hnd⟩ := hW
  have hA : DataW.TrodAll enc Tryd.prog W 0 (fun _ => true) true Tryd.f3.params.toList args.toList ds p := hA0
  rw [Tryd.params3] at hA hval
  obtain ⟨v0, vs0, d0, ds0, p0, q0, hargs, rfl, rfl, h0, r0⟩ := trodAll_cons hA
  obtain ⟨rfl, rfl, rfl⟩ := trodAll_nil r0
  obtain rfl : args = #[v0] := by cases args; simp_all
  obtain ⟨rfl, rfl⟩ := trodVars_none hV
  obtain ⟨a0, len0, cap0, rfl⟩ := okWide_slice Tryd.underlying22 (hval 0 22 v0 rfl rfl)
  have k0 := h0
  have lt0 : ∀ x ∈ p0, x.block < W.heap.size := by obtain ⟨m, hm⟩ := k0; exact DataW.trod_lt m _ _ _ hm
  obtain ⟨z0, w0⟩ := isInts_of Tryd.underlying22 Tryd.underlying5 (by kernel_rfl) h0
  clear hA0 hval0
  refine (walk W (laid3_nats hL) a0 len0 cap0 z0 w0).mono fun e W' ⟨he, bel⟩ => ?_
  subst he
  exact ⟨_, rfl, _, _, _, [], _, [], hW', trodAll_mk1 (shut_bool Tryd.underlying4 _), (trodAll_cons_mk (Below.trod laidOut (by kernel_rfl) (of_decide_eq_true (by kernel_rfl)) k0 bel lt0) trodAll_mk0), rfl, bel.frame _, fun h => by cases h⟩

theorem over : Rows.fnNatsRow.holds Tryd.pinned (OpenSpec.ofChange Rows.fnNatsSpec) :=
  OpenClaim.holds_of_wide 3 Tryd.f3 rfl rfl rfl rfl rfl rfl rfl ⟨rfl, rfl, rfl, rfl, rfl⟩ rfl rfl rfl rfl rfl (by kernel_rfl) Tryd.func3 (by kernel_rfl)
    (of_decide_eq_true (by kernel_rfl)) (by unfold Func.isWrapper; first | (rw [if_pos (by decide +kernel)]; kernel_rfl) | (rw [if_neg (by decide +kernel)]; exact ⟨rfl, rfl⟩))
    (fun os started H enc _ => lifted os started H enc)

theorem bare : Rows.FnNatsSaid := over
theorem proved : Rows.FnNatsCardSaid :=
  Claim7.holds_tied_plain_at .later [] [.data, .data, .data, .sentinel, .sentinel] true (true, "bb1f608feb47dfb3156a4ae476cb38191bd3d9f39fe00d986a8a56ca4e52546d") true
    bare (fun _ h => by cases h) (by kernel_rfl) (fun _ h => by cases h) fnNats_row_tie rfl ⟨rfl, rfl⟩ (by kernel_rfl) rfl
    (fun f fn hf hfn => by
      obtain rfl : f = 3 := Option.some.inj ((show Tryd.prog.funcNamed "loop.example/g00810/laws.FnNats" = some 3 by kernel_rfl).symm.trans hf) |>.symm
      obtain rfl : fn = Tryd.f3 := (Option.some.inj (Tryd.func3.symm.trans hfn)).symm
      exact ⟨by kernel_rfl, fun j t ht => by
        rw [Tryd.params3] at ht
        have hm : t ∈ [22] := by simpa using Array.mem_of_getElem? ht
        have hall : ([22].all fun u => !Tryd.prog.wantsStandIn u) = true := by kernel_rfl
        exact (show Tryd.prog.wantsStandIn t = false by simpa using List.all_eq_true.1 hall t hm)⟩)
    (by kernel_rfl)
#print axioms proved
end Go.Proofs.YtfhndfcncedieaaDoor.lawTopNats
