/- Proved: at every string, impl.ParseRat answers as its model spec.ParseRat in every result, writes into no argument, its answer owns its memory, the call returns true and changes no memory that was there; the listed variables of the library are tied to the text that lays them. Conditions: none. -/
import Derived.Test.YtdilgjakodimbaaGreatDoorParseRatBase
import Derived.Test.YtdilgjakodimbaaGreatDoorRat1
import Derived.Test.YtdilgjakodimbaaGreatDoorNatOf
import Derived.Test.YtdilgjakodimbaaGreatDoorBigText
import Derived.Test.YtdilgjakodimbaaGreatDoorParseNat
import Derived.Test.YtdilgjakodimbaaGreatDoorSplit
import Derived.Test.YtdilgjakodimbaaGreatDoorRows
import Derived.Test.YtdilgjakodimbaaGreatDoorStrconv
import Derived.ProofKit
import Derived.LaidMore
import Derived.Stop.Joined
import Derived.Stop.LaidErr
import Derived.Lib.LaidTab
import Derived.LaidLaws
import Derived.Test.YtdilgjakodimbaaGreatDoorHelpI
import Derived.Test.YtdilgjakodimbaaGreatDoorOpen
import Derived.Test.YtdilgjakodimbaaGreatDoorOpenB
import Derived.Test.YtdilgjakodimbaaGreatDoorHeld
import Derived.Test.YtdilgjakodimbaaGreatDoorHelpR
import Derived.Test.YtdilgjakodimbaaGreatDoorOpenR
import Derived.Test.YtdilgjakodimbaaGreatDoorCards
import Derived.Test.YtdilgjakodimbaaGreatDoorTie
import Derived.WalkKit
import Derived.OpenShut
import Derived.ShutString
import Derived.ChangeOld
import Derived.Below
import Derived.SevenTiedAt
namespace Go.Proofs.YtdilgjakodimbaaGreatDoor
open Go.RowKit Nt
set_option linter.unusedVariables false

/-- What a function leaves that returns a fraction in new memory and a truth value. -/
def OwnRRP (e : TypeId) (s : Bool) (xs ys : List Value) (ok : Bool) (w : World) (en : Ending) (w' : World) : Prop :=
  ∃ v0 v1, en = .returned (.tuple #[.agg #[.bool s, v0, v1], .bool ok]) ∧ OwnV w' w.heap.size e v0 xs ∧ OwnV w' w.heap.size e v1 ys ∧ (v0.ownBlock = none ∨ v0.ownBlock ≠ v1.ownBlock) ∧ (v1.ownBlock = none ∨ v1.ownBlock ≠ v0.ownBlock) ∧ Below w.heap.size w w'
theorem ownRRP_zero {e : TypeId} {w w' : World} (hb : Below w.heap.size w w') : OwnRRP e false (nats []) (nats []) false w (.returned (.tuple #[.agg #[.bool false, .slice none 0 0, .slice none 0 0], .bool false])) w' :=
  ⟨_, _, rfl, OwnV.nil _ _ _, OwnV.nil _ _ _, .inl rfl, .inl rfl, hb⟩
theorem ownRRP_close {w w2 : World} {e : TypeId} {s ok : Bool} {v r : Value} {xs ys : List Value} {b b1 b2 : Nat} (hb : Below w.heap.size w w2) (h1 : OwnV w2 b1 e v xs) (h2 : OwnV w2 b2 e r ys) (l1 : b < b1) (l2 : b < b2) (hB : w.heap.size ≤ b) (a1 : v.ownBlock = none ∨ v.ownBlock ≠ r.ownBlock) (a2 : r.ownBlock = none ∨ r.ownBlock ≠ v.ownBlock) :
    OwnRRP e s xs ys ok w (.returned (.tuple #[.agg #[.bool s, v, r], .bool ok])) (((w2.setCell ⟨b, 0, none⟩ (.bool s)).setCell ⟨b, 1, none⟩ v).setCell ⟨b, 2, none⟩ r) :=
  ⟨v, r, rfl, (((h1.setBelow l1 _).setBelow l1 _).setBelow l1 _).based (by omega), (((h2.setBelow l2 _).setBelow l2 _).setBelow l2 _).based (by omega), a1, a2, ((hb.setCell hB _).setCell hB _).setCell hB _⟩
theorem hd_size (s : ByteArray) : (hdT s).size ≤ s.size := by
  cases hd : dvT s with
  | true =>
    have := congrArg ByteArray.size (cut_back hd)
    simp only [ByteArray.size_append] at this
    omega
  | false => rw [← whole_back hd]; exact Nat.le_refl _
theorem tl_size {s : ByteArray} (hd : dvT s = true) : (tlT s).size ≤ s.size := by
  have := congrArg ByteArray.size (cut_back hd)
  simp only [ByteArray.size_append] at this
  omega
set_option maxRecDepth 100000 in
set_option maxHeartbeats 4000000 in
theorem parseRat_impl (s : ByteArray) (w : World) (hs : s.size ≤ 1048576) :
    Calls Tryz.prog 5 #[.string s] w (OwnRRP 3 (rpS s) (nats (rpN s)) (nats (rpD s)) (rpOk s) w) := by
  have hhs := hd_size s
  have HB0 := Lib.hid ((Below.refl w.heap.size w).alloc (Nat.le_refl _) (.cells #[.bool false, .slice none 0 0, .slice none 0 0] 26))
  have K0 := Lib.hid (HeldL.new w [.bool false, .slice none 0 0, .slice none 0 0] 26)
  obtain ⟨H, hH⟩ : ∃ z, hdT s = z := ⟨_, rfl⟩
  rw [hH] at hhs
  obtain ⟨S1, hS1⟩ : ∃ z, bpS H = z := ⟨_, rfl⟩
  obtain ⟨M, hM⟩ : ∃ z, bpM H = z := ⟨_, rfl⟩
  obtain ⟨m1, hml⟩ : ∃ z, M.length = z := ⟨_, rfl⟩
  cases hdv : dvT s with
  | true =>
    have hts := tl_size hdv
    obtain ⟨T, hT⟩ : ∃ z, tlT s = z := ⟨_, rfl⟩
    rw [hT] at hts
    by_cases hok : bpOk H = true
    · obtain ⟨DE, hDE⟩ : ∃ z, parseN T = z := ⟨_, rfl⟩
      obtain ⟨m4, hdl⟩ : ∃ z, DE.length = z := ⟨_, rfl⟩
      by_cases hpt : pOk T = true
      · by_cases hone : isOne DE = true
        · replace hone : isOne (parseN T) = true := by rw [hDE]; exact hone
          have hno : rpOk s = false := by simp [rpOk, dnT, hH, hdv, hT, hone]
          obtain ⟨e1, e2, e3⟩ := rp_no hno
          have E0 := Lib.hid hno
          have E1 := Lib.hid e1
          have E2 := Lib.hid e2
          have E3 := Lib.hid e3
          have HH := Lib.hid hH
          have HDV := Lib.hid hdv
          have HOK := Lib.hid hok
          have HS1 := Lib.hid hS1
          have HM := Lib.hid hM
          have HML := Lib.hid hml
          have HT := Lib.hid hT
          have HPT := Lib.hid hpt
          have HDE := Lib.hid hDE
          have HDL := Lib.hid hdl
          have HONE := Lib.hid (hDE ▸ hone)
          clear e1 e2 e3 hno hH hdv hok hS1 hM hml hT hpt hDE hdl
          clear hone
          go_enter Tryz.func5, Tryz.ntmps5
          go_wp2_with fail
          refine (cut_any s _ hs).mono ?_
          rintro e w1 ⟨rfl, hb⟩
          rw [HH.out, HDV.out]
          rw [if_pos rfl, HT.out]
          have HB_1 := Lib.hid (HB0.out.trans (hb.mono HB0.out.size))
          have K_1 := Lib.hid (K0.out.after hb)
          clear hb
          have L1 := Lib.hid K_1.out.lt
          go_wp2_with fail
          refine (parseBigInt_impl H _ (by unfold maxLen; omega)).mono ?_
          rintro e w2 ⟨v2, rfl, ho2, hb⟩
          rw [HS1.out, HOK.out]
          rw [HM.out] at ho2
          obtain ⟨A2, c2, hv⟩ := ho2.shape
          rw [nats_len, HML.out] at hv
          subst hv
          have O_n_0 := Lib.hid ho2
          clear ho2
          have HB_2 := Lib.hid (HB_1.out.trans (hb.mono HB_1.out.size))
          have K_2 := Lib.hid (K_1.out.after hb)
          clear hb
          go_wp2_with fail
          have HB_3 := Lib.hid (HB_2.out.alloc HB_2.out.size (.cells #[.bool S1, .slice A2 m1 c2] 24))
          have K_3 := Lib.hid (K_2.out.alloc (.cells #[.bool S1, .slice A2 m1 c2] 24))
          have O_n_3 := Lib.hid (OwnV.below O_n_0.out ((Below.refl _ w2).alloc (Nat.le_refl _) (.cells #[.bool S1, .slice A2 m1 c2] 24)))
          have X_b_3 := Lib.hid (HeldL.new w2 [.bool S1, .slice A2 m1 c2] 24)
          have L2 := Lib.hid K_3.out.lt
          refine (natOf_impl 1 _ (by omega)).mono ?_
          rintro e w3 ⟨v3, rfl, ho3, hb⟩
          rw [show dig (1 : Int).toNat = [1] from dig_one] at ho3
          obtain ⟨A3, c3, hv⟩ := ho3.shape
          rw [show (nats [1]).length = 1 from rfl] at hv
          subst hv
          have O_d_0 := Lib.hid ho3
          have AP0 := Lib.hid (OwnV.apart O_n_3.out ho3 (Nat.le_refl _))
          have AP1 := Lib.hid (OwnV.apart' ho3 O_n_3.out (Nat.le_refl _))
          clear ho3
          have HB_4 := Lib.hid (HB_3.out.trans (hb.mono HB_3.out.size))
          have K_4 := Lib.hid (K_3.out.after hb)
          have O_n_4 := Lib.hid (OwnV.below O_n_3.out hb)
          have X_b_4 := Lib.hid (X_b_3.out.after hb)
          clear hb
          have L3 := Lib.hid K_4.out.lt
          clear AP0 AP1 O_d_0
          go_wp2_with fail
          refine (parseNat_impl T _ (by unfold maxLen; omega)).mono ?_
          rintro e w4 ⟨v4, rfl, ho4, hb⟩
          rw [HPT.out]
          rw [HDE.out] at ho4
          obtain ⟨A4, c4, hv⟩ := ho4.shape
          rw [nats_len, HDL.out] at hv
          subst hv
          have O_d_1 := Lib.hid ho4
          have AP0 := Lib.hid (OwnV.apart O_n_4.out ho4 (Nat.le_refl _))
          have AP1 := Lib.hid (OwnV.apart' ho4 O_n_4.out (Nat.le_refl _))
          clear ho4
          have HB_5 := Lib.hid (HB_4.out.trans (hb.mono HB_4.out.size))
          have K_5 := Lib.hid (K_4.out.after hb)
          have O_n_5 := Lib.hid (OwnV.below O_n_4.out hb)
          have X_b_5 := Lib.hid (X_b_4.out.after hb)
          clear hb
          go_wp2_with fail
          refine (isOneRow_any A4 m4 c4 DE _ O_d_1.out.row (Nat.le_trans O_d_1.out.arg.2.1 O_d_1.out.arg.2.2.1)).mono ?_
          rintro e w5 ⟨rfl, hw⟩
          obtain rfl := hw.symm
          clear hw
          rw [HONE.out]
          have r0 := K_5.out.cell 0 _ rfl
          have r1 := K_5.out.cell 1 _ rfl
          have r2 := K_5.out.cell 2 _ rfl
          have f0 := K_5.out.froz 0 _ rfl
          have f1 := K_5.out.froz 1 _ rfl
          have f2 := K_5.out.froz 2 _ rfl
          go_wp2
          have TT := ((HB_5.out.setCell (p := ⟨w.heap.size, 0, none⟩) (Nat.le_refl _) (.bool false)).setCell (p := ⟨w.heap.size, 1, none⟩) (Nat.le_refl _) (.slice none 0 0)).setCell (p := ⟨w.heap.size, 2, none⟩) (Nat.le_refl _) (.slice none 0 0)
          refine bodyPost_ret (v := .tuple #[.agg #[.bool false, .slice none 0 0, .slice none 0 0], .bool false]) (by simp [results, Tryz.results5, go_sem, r0, r1, r2]) rfl ?_
          rw [E0.out, E1.out, E2.out, E3.out]
          exact ownRRP_zero (TT)
        · rw [Bool.not_eq_true] at hone
          replace hone : isOne (parseN T) = false := by rw [hDE]; exact hone
          by_cases hkr : okR S1 (toI M) (toI DE) = true
          · replace hkr : okR (bpS H) (toI (bpM H)) (toI (parseN T)) = true := by rw [hS1, hM, hDE]; exact hkr
            have hye : rpOk s = true := by simp [rpOk, dnT, hH, hdv, hok, hT, hpt, hone, hkr]
            obtain ⟨e1, e2, e3⟩ := rp_yes hye
            rw [hH] at e1 e2
            rw [hS1] at e1
            rw [hM] at e2
            rw [show dnT s = DE by simp [dnT, hdv, hT, hDE]] at e3
            have E0 := Lib.hid hye
            have E1 := Lib.hid e1
            have E2 := Lib.hid e2
            have E3 := Lib.hid e3
            have HH := Lib.hid hH
            have HDV := Lib.hid hdv
            have HOK := Lib.hid hok
            have HS1 := Lib.hid hS1
            have HM := Lib.hid hM
            have HML := Lib.hid hml
            have HT := Lib.hid hT
            have HPT := Lib.hid hpt
            have HDE := Lib.hid hDE
            have HDL := Lib.hid hdl
            have HONE := Lib.hid (hDE ▸ hone)
            have hKRL := hkr
            rw [hS1, hM, hDE] at hKRL
            have HKR := Lib.hid hKRL
            clear hKRL
            clear e1 e2 e3 hye hH hdv hok hS1 hM hml hT hpt hDE hdl
            clear hone
            clear hkr
            go_enter Tryz.func5, Tryz.ntmps5
            go_wp2_with fail
            refine (cut_any s _ hs).mono ?_
            rintro e w1 ⟨rfl, hb⟩
            rw [HH.out, HDV.out]
            rw [if_pos rfl, HT.out]
            have HB_1 := Lib.hid (HB0.out.trans (hb.mono HB0.out.size))
            have K_1 := Lib.hid (K0.out.after hb)
            clear hb
            have L1 := Lib.hid K_1.out.lt
            go_wp2_with fail
            refine (parseBigInt_impl H _ (by unfold maxLen; omega)).mono ?_
            rintro e w2 ⟨v2, rfl, ho2, hb⟩
            rw [HS1.out, HOK.out]
            rw [HM.out] at ho2
            obtain ⟨A2, c2, hv⟩ := ho2.shape
            rw [nats_len, HML.out] at hv
            subst hv
            have O_n_0 := Lib.hid ho2
            clear ho2
            have HB_2 := Lib.hid (HB_1.out.trans (hb.mono HB_1.out.size))
            have K_2 := Lib.hid (K_1.out.after hb)
            clear hb
            go_wp2_with fail
            have HB_3 := Lib.hid (HB_2.out.alloc HB_2.out.size (.cells #[.bool S1, .slice A2 m1 c2] 24))
            have K_3 := Lib.hid (K_2.out.alloc (.cells #[.bool S1, .slice A2 m1 c2] 24))
            have O_n_3 := Lib.hid (OwnV.below O_n_0.out ((Below.refl _ w2).alloc (Nat.le_refl _) (.cells #[.bool S1, .slice A2 m1 c2] 24)))
            have X_b_3 := Lib.hid (HeldL.new w2 [.bool S1, .slice A2 m1 c2] 24)
            have L2 := Lib.hid K_3.out.lt
            refine (natOf_impl 1 _ (by omega)).mono ?_
            rintro e w3 ⟨v3, rfl, ho3, hb⟩
            rw [show dig (1 : Int).toNat = [1] from dig_one] at ho3
            obtain ⟨A3, c3, hv⟩ := ho3.shape
            rw [show (nats [1]).length = 1 from rfl] at hv
            subst hv
            have O_d_0 := Lib.hid ho3
            have AP0 := Lib.hid (OwnV.apart O_n_3.out ho3 (Nat.le_refl _))
            have AP1 := Lib.hid (OwnV.apart' ho3 O_n_3.out (Nat.le_refl _))
            clear ho3
            have HB_4 := Lib.hid (HB_3.out.trans (hb.mono HB_3.out.size))
            have K_4 := Lib.hid (K_3.out.after hb)
            have O_n_4 := Lib.hid (OwnV.below O_n_3.out hb)
            have X_b_4 := Lib.hid (X_b_3.out.after hb)
            clear hb
            have L3 := Lib.hid K_4.out.lt
            clear AP0 AP1 O_d_0
            go_wp2_with fail
            refine (parseNat_impl T _ (by unfold maxLen; omega)).mono ?_
            rintro e w4 ⟨v4, rfl, ho4, hb⟩
            rw [HPT.out]
            rw [HDE.out] at ho4
            obtain ⟨A4, c4, hv⟩ := ho4.shape
            rw [nats_len, HDL.out] at hv
            subst hv
            have O_d_1 := Lib.hid ho4
            have AP0 := Lib.hid (OwnV.apart O_n_4.out ho4 (Nat.le_refl _))
            have AP1 := Lib.hid (OwnV.apart' ho4 O_n_4.out (Nat.le_refl _))
            clear ho4
            have HB_5 := Lib.hid (HB_4.out.trans (hb.mono HB_4.out.size))
            have K_5 := Lib.hid (K_4.out.after hb)
            have O_n_5 := Lib.hid (OwnV.below O_n_4.out hb)
            have X_b_5 := Lib.hid (X_b_4.out.after hb)
            clear hb
            go_wp2_with fail
            refine (isOneRow_any A4 m4 c4 DE _ O_d_1.out.row (Nat.le_trans O_d_1.out.arg.2.1 O_d_1.out.arg.2.2.1)).mono ?_
            rintro e w5 ⟨rfl, hw⟩
            obtain rfl := hw.symm
            clear hw
            rw [HONE.out]
            have b0 := X_b_5.out.cell 0 _ rfl
            have b1 := X_b_5.out.cell 1 _ rfl
            go_wp2_with fail
            clear b0 b1
            have NEQ := Lib.hid (Nat.ne_of_lt K_5.out.lt)
            have HB_6 := Lib.hid (HB_5.out.alloc HB_5.out.size (.cells #[.bool S1, .slice A2 m1 c2, .slice A4 m4 c4] 26))
            have K_6 := Lib.hid (K_5.out.alloc (.cells #[.bool S1, .slice A2 m1 c2, .slice A4 m4 c4] 26))
            have O_n_6 := Lib.hid (OwnV.below O_n_5.out ((Below.refl _ w4).alloc (Nat.le_refl _) (.cells #[.bool S1, .slice A2 m1 c2, .slice A4 m4 c4] 26)))
            have O_d_6 := Lib.hid (OwnV.below O_d_1.out ((Below.refl _ w4).alloc (Nat.le_refl _) (.cells #[.bool S1, .slice A2 m1 c2, .slice A4 m4 c4] 26)))
            have X_b_6 := Lib.hid (X_b_5.out.alloc (.cells #[.bool S1, .slice A2 m1 c2, .slice A4 m4 c4] 26))
            have X_q_6 := Lib.hid (HeldL.new w4 [.bool S1, .slice A2 m1 c2, .slice A4 m4 c4] 26)
            refine (isValidR_any S1 A2 m1 c2 (toI M) A4 m4 c4 (toI DE) _ O_n_6.out.arg O_d_6.out.arg).mono ?_
            rintro e w6 ⟨rfl, hb⟩
            rw [HKR.out]
            have HB_7 := Lib.hid (HB_6.out.trans (hb.mono HB_6.out.size))
            have K_7 := Lib.hid (K_6.out.after hb)
            have O_n_7 := Lib.hid (OwnV.below O_n_6.out hb)
            have O_d_7 := Lib.hid (OwnV.below O_d_6.out hb)
            have X_b_7 := Lib.hid (X_b_6.out.after hb)
            have X_q_7 := Lib.hid (X_q_6.out.after hb)
            clear hb
            have r0 := K_7.out.cell 0 _ rfl
            have r1 := K_7.out.cell 1 _ rfl
            have r2 := K_7.out.cell 2 _ rfl
            have f0 := K_7.out.froz 0 _ rfl
            have f1 := K_7.out.froz 1 _ rfl
            have f2 := K_7.out.froz 2 _ rfl
            have q0 := X_q_7.out.cell 0 _ rfl
            have q1 := X_q_7.out.cell 1 _ rfl
            have q2 := X_q_7.out.cell 2 _ rfl
            have hne := NEQ.out
            have hnf := NEQ.out.symm
            go_wp2
            refine bodyPost_ret (v := .tuple #[.agg #[.bool S1, .slice A2 m1 c2, .slice A4 m4 c4], .bool true]) (by simp [results, Tryz.results5, go_sem, r0, r1, r2]) rfl ?_
            rw [E0.out, E1.out, E2.out, E3.out]
            exact ownRRP_close HB_7.out O_n_7.out O_d_7.out L1.out L3.out (Nat.le_refl _) AP0.out AP1.out
          · rw [Bool.not_eq_true] at hkr
            replace hkr : okR (bpS H) (toI (bpM H)) (toI (parseN T)) = false := by rw [hS1, hM, hDE]; exact hkr
            have hno : rpOk s = false := by simp [rpOk, dnT, hH, hdv, hT, hkr]
            obtain ⟨e1, e2, e3⟩ := rp_no hno
            have E0 := Lib.hid hno
            have E1 := Lib.hid e1
            have E2 := Lib.hid e2
            have E3 := Lib.hid e3
            have HH := Lib.hid hH
            have HDV := Lib.hid hdv
            have HOK := Lib.hid hok
            have HS1 := Lib.hid hS1
            have HM := Lib.hid hM
            have HML := Lib.hid hml
            have HT := Lib.hid hT
            have HPT := Lib.hid hpt
            have HDE := Lib.hid hDE
            have HDL := Lib.hid hdl
            have HONE := Lib.hid (hDE ▸ hone)
            have hKRL := hkr
            rw [hS1, hM, hDE] at hKRL
            have HKR := Lib.hid hKRL
            clear hKRL
            clear e1 e2 e3 hno hH hdv hok hS1 hM hml hT hpt hDE hdl
            clear hone
            clear hkr
            go_enter Tryz.func5, Tryz.ntmps5
            go_wp2_with fail
            refine (cut_any s _ hs).mono ?_
            rintro e w1 ⟨rfl, hb⟩
            rw [HH.out, HDV.out]
            rw [if_pos rfl, HT.out]
            have HB_1 := Lib.hid (HB0.out.trans (hb.mono HB0.out.size))
            have K_1 := Lib.hid (K0.out.after hb)
            clear hb
            have L1 := Lib.hid K_1.out.lt
            go_wp2_with fail
            refine (parseBigInt_impl H _ (by unfold maxLen; omega)).mono ?_
            rintro e w2 ⟨v2, rfl, ho2, hb⟩
            rw [HS1.out, HOK.out]
            rw [HM.out] at ho2
            obtain ⟨A2, c2, hv⟩ := ho2.shape
            rw [nats_len, HML.out] at hv
            subst hv
            have O_n_0 := Lib.hid ho2
            clear ho2
            have HB_2 := Lib.hid (HB_1.out.trans (hb.mono HB_1.out.size))
            have K_2 := Lib.hid (K_1.out.after hb)
            clear hb
            go_wp2_with fail
            have HB_3 := Lib.hid (HB_2.out.alloc HB_2.out.size (.cells #[.bool S1, .slice A2 m1 c2] 24))
            have K_3 := Lib.hid (K_2.out.alloc (.cells #[.bool S1, .slice A2 m1 c2] 24))
            have O_n_3 := Lib.hid (OwnV.below O_n_0.out ((Below.refl _ w2).alloc (Nat.le_refl _) (.cells #[.bool S1, .slice A2 m1 c2] 24)))
            have X_b_3 := Lib.hid (HeldL.new w2 [.bool S1, .slice A2 m1 c2] 24)
            have L2 := Lib.hid K_3.out.lt
            refine (natOf_impl 1 _ (by omega)).mono ?_
            rintro e w3 ⟨v3, rfl, ho3, hb⟩
            rw [show dig (1 : Int).toNat = [1] from dig_one] at ho3
            obtain ⟨A3, c3, hv⟩ := ho3.shape
            rw [show (nats [1]).length = 1 from rfl] at hv
            subst hv
            have O_d_0 := Lib.hid ho3
            have AP0 := Lib.hid (OwnV.apart O_n_3.out ho3 (Nat.le_refl _))
            have AP1 := Lib.hid (OwnV.apart' ho3 O_n_3.out (Nat.le_refl _))
            clear ho3
            have HB_4 := Lib.hid (HB_3.out.trans (hb.mono HB_3.out.size))
            have K_4 := Lib.hid (K_3.out.after hb)
            have O_n_4 := Lib.hid (OwnV.below O_n_3.out hb)
            have X_b_4 := Lib.hid (X_b_3.out.after hb)
            clear hb
            have L3 := Lib.hid K_4.out.lt
            clear AP0 AP1 O_d_0
            go_wp2_with fail
            refine (parseNat_impl T _ (by unfold maxLen; omega)).mono ?_
            rintro e w4 ⟨v4, rfl, ho4, hb⟩
            rw [HPT.out]
            rw [HDE.out] at ho4
            obtain ⟨A4, c4, hv⟩ := ho4.shape
            rw [nats_len, HDL.out] at hv
            subst hv
            have O_d_1 := Lib.hid ho4
            have AP0 := Lib.hid (OwnV.apart O_n_4.out ho4 (Nat.le_refl _))
            have AP1 := Lib.hid (OwnV.apart' ho4 O_n_4.out (Nat.le_refl _))
            clear ho4
            have HB_5 := Lib.hid (HB_4.out.trans (hb.mono HB_4.out.size))
            have K_5 := Lib.hid (K_4.out.after hb)
            have O_n_5 := Lib.hid (OwnV.below O_n_4.out hb)
            have X_b_5 := Lib.hid (X_b_4.out.after hb)
            clear hb
            go_wp2_with fail
            refine (isOneRow_any A4 m4 c4 DE _ O_d_1.out.row (Nat.le_trans O_d_1.out.arg.2.1 O_d_1.out.arg.2.2.1)).mono ?_
            rintro e w5 ⟨rfl, hw⟩
            obtain rfl := hw.symm
            clear hw
            rw [HONE.out]
            have b0 := X_b_5.out.cell 0 _ rfl
            have b1 := X_b_5.out.cell 1 _ rfl
            go_wp2_with fail
            clear b0 b1
            have NEQ := Lib.hid (Nat.ne_of_lt K_5.out.lt)
            have HB_6 := Lib.hid (HB_5.out.alloc HB_5.out.size (.cells #[.bool S1, .slice A2 m1 c2, .slice A4 m4 c4] 26))
            have K_6 := Lib.hid (K_5.out.alloc (.cells #[.bool S1, .slice A2 m1 c2, .slice A4 m4 c4] 26))
            have O_n_6 := Lib.hid (OwnV.below O_n_5.out ((Below.refl _ w4).alloc (Nat.le_refl _) (.cells #[.bool S1, .slice A2 m1 c2, .slice A4 m4 c4] 26)))
            have O_d_6 := Lib.hid (OwnV.below O_d_1.out ((Below.refl _ w4).alloc (Nat.le_refl _) (.cells #[.bool S1, .slice A2 m1 c2, .slice A4 m4 c4] 26)))
            have X_b_6 := Lib.hid (X_b_5.out.alloc (.cells #[.bool S1, .slice A2 m1 c2, .slice A4 m4 c4] 26))
            have X_q_6 := Lib.hid (HeldL.new w4 [.bool S1, .slice A2 m1 c2, .slice A4 m4 c4] 26)
            refine (isValidR_any S1 A2 m1 c2 (toI M) A4 m4 c4 (toI DE) _ O_n_6.out.arg O_d_6.out.arg).mono ?_
            rintro e w6 ⟨rfl, hb⟩
            rw [HKR.out]
            have HB_7 := Lib.hid (HB_6.out.trans (hb.mono HB_6.out.size))
            have K_7 := Lib.hid (K_6.out.after hb)
            have O_n_7 := Lib.hid (OwnV.below O_n_6.out hb)
            have O_d_7 := Lib.hid (OwnV.below O_d_6.out hb)
            have X_b_7 := Lib.hid (X_b_6.out.after hb)
            have X_q_7 := Lib.hid (X_q_6.out.after hb)
            clear hb
            have r0 := K_7.out.cell 0 _ rfl
            have r1 := K_7.out.cell 1 _ rfl
            have r2 := K_7.out.cell 2 _ rfl
            have f0 := K_7.out.froz 0 _ rfl
            have f1 := K_7.out.froz 1 _ rfl
            have f2 := K_7.out.froz 2 _ rfl
            go_wp2
            have TT := ((HB_7.out.setCell (p := ⟨w.heap.size, 0, none⟩) (Nat.le_refl _) (.bool false)).setCell (p := ⟨w.heap.size, 1, none⟩) (Nat.le_refl _) (.slice none 0 0)).setCell (p := ⟨w.heap.size, 2, none⟩) (Nat.le_refl _) (.slice none 0 0)
            refine bodyPost_ret (v := .tuple #[.agg #[.bool false, .slice none 0 0, .slice none 0 0], .bool false]) (by simp [results, Tryz.results5, go_sem, r0, r1, r2]) rfl ?_
            rw [E0.out, E1.out, E2.out, E3.out]
            exact ownRRP_zero (TT)
      · rw [Bool.not_eq_true] at hpt
        have hno : rpOk s = false := by simp [rpOk, dnT, hH, hdv, hT, hpt]
        obtain ⟨e1, e2, e3⟩ := rp_no hno
        have E0 := Lib.hid hno
        have E1 := Lib.hid e1
        have E2 := Lib.hid e2
        have E3 := Lib.hid e3
        have HH := Lib.hid hH
        have HDV := Lib.hid hdv
        have HOK := Lib.hid hok
        have HS1 := Lib.hid hS1
        have HM := Lib.hid hM
        have HML := Lib.hid hml
        have HT := Lib.hid hT
        have HPT := Lib.hid hpt
        have HDE := Lib.hid hDE
        have HDL := Lib.hid hdl
        clear e1 e2 e3 hno hH hdv hok hS1 hM hml hT hpt hDE hdl
        go_enter Tryz.func5, Tryz.ntmps5
        go_wp2_with fail
        refine (cut_any s _ hs).mono ?_
        rintro e w1 ⟨rfl, hb⟩
        rw [HH.out, HDV.out]
        rw [if_pos rfl, HT.out]
        have HB_1 := Lib.hid (HB0.out.trans (hb.mono HB0.out.size))
        have K_1 := Lib.hid (K0.out.after hb)
        clear hb
        have L1 := Lib.hid K_1.out.lt
        go_wp2_with fail
        refine (parseBigInt_impl H _ (by unfold maxLen; omega)).mono ?_
        rintro e w2 ⟨v2, rfl, ho2, hb⟩
        rw [HS1.out, HOK.out]
        rw [HM.out] at ho2
        obtain ⟨A2, c2, hv⟩ := ho2.shape
        rw [nats_len, HML.out] at hv
        subst hv
        have O_n_0 := Lib.hid ho2
        clear ho2
        have HB_2 := Lib.hid (HB_1.out.trans (hb.mono HB_1.out.size))
        have K_2 := Lib.hid (K_1.out.after hb)
        clear hb
        go_wp2_with fail
        have HB_3 := Lib.hid (HB_2.out.alloc HB_2.out.size (.cells #[.bool S1, .slice A2 m1 c2] 24))
        have K_3 := Lib.hid (K_2.out.alloc (.cells #[.bool S1, .slice A2 m1 c2] 24))
        have O_n_3 := Lib.hid (OwnV.below O_n_0.out ((Below.refl _ w2).alloc (Nat.le_refl _) (.cells #[.bool S1, .slice A2 m1 c2] 24)))
        have X_b_3 := Lib.hid (HeldL.new w2 [.bool S1, .slice A2 m1 c2] 24)
        have L2 := Lib.hid K_3.out.lt
        refine (natOf_impl 1 _ (by omega)).mono ?_
        rintro e w3 ⟨v3, rfl, ho3, hb⟩
        rw [show dig (1 : Int).toNat = [1] from dig_one] at ho3
        obtain ⟨A3, c3, hv⟩ := ho3.shape
        rw [show (nats [1]).length = 1 from rfl] at hv
        subst hv
        have O_d_0 := Lib.hid ho3
        have AP0 := Lib.hid (OwnV.apart O_n_3.out ho3 (Nat.le_refl _))
        have AP1 := Lib.hid (OwnV.apart' ho3 O_n_3.out (Nat.le_refl _))
        clear ho3
        have HB_4 := Lib.hid (HB_3.out.trans (hb.mono HB_3.out.size))
        have K_4 := Lib.hid (K_3.out.after hb)
        have O_n_4 := Lib.hid (OwnV.below O_n_3.out hb)
        have X_b_4 := Lib.hid (X_b_3.out.after hb)
        clear hb
        have L3 := Lib.hid K_4.out.lt
        clear AP0 AP1 O_d_0
        go_wp2_with fail
        refine (parseNat_impl T _ (by unfold maxLen; omega)).mono ?_
        rintro e w4 ⟨v4, rfl, ho4, hb⟩
        rw [HPT.out]
        rw [HDE.out] at ho4
        obtain ⟨A4, c4, hv⟩ := ho4.shape
        rw [nats_len, HDL.out] at hv
        subst hv
        have O_d_1 := Lib.hid ho4
        have AP0 := Lib.hid (OwnV.apart O_n_4.out ho4 (Nat.le_refl _))
        have AP1 := Lib.hid (OwnV.apart' ho4 O_n_4.out (Nat.le_refl _))
        clear ho4
        have HB_5 := Lib.hid (HB_4.out.trans (hb.mono HB_4.out.size))
        have K_5 := Lib.hid (K_4.out.after hb)
        have O_n_5 := Lib.hid (OwnV.below O_n_4.out hb)
        have X_b_5 := Lib.hid (X_b_4.out.after hb)
        clear hb
        have r0 := K_5.out.cell 0 _ rfl
        have r1 := K_5.out.cell 1 _ rfl
        have r2 := K_5.out.cell 2 _ rfl
        have f0 := K_5.out.froz 0 _ rfl
        have f1 := K_5.out.froz 1 _ rfl
        have f2 := K_5.out.froz 2 _ rfl
        go_wp2
        have TT := ((HB_5.out.setCell (p := ⟨w.heap.size, 0, none⟩) (Nat.le_refl _) (.bool false)).setCell (p := ⟨w.heap.size, 1, none⟩) (Nat.le_refl _) (.slice none 0 0)).setCell (p := ⟨w.heap.size, 2, none⟩) (Nat.le_refl _) (.slice none 0 0)
        refine bodyPost_ret (v := .tuple #[.agg #[.bool false, .slice none 0 0, .slice none 0 0], .bool false]) (by simp [results, Tryz.results5, go_sem, r0, r1, r2]) rfl ?_
        rw [E0.out, E1.out, E2.out, E3.out]
        exact ownRRP_zero (TT)
    · rw [Bool.not_eq_true] at hok
      have hno : rpOk s = false := by simp [rpOk, dnT, hH, hdv, hok]
      obtain ⟨e1, e2, e3⟩ := rp_no hno
      have E0 := Lib.hid hno
      have E1 := Lib.hid e1
      have E2 := Lib.hid e2
      have E3 := Lib.hid e3
      have HH := Lib.hid hH
      have HDV := Lib.hid hdv
      have HOK := Lib.hid hok
      have HS1 := Lib.hid hS1
      have HM := Lib.hid hM
      have HML := Lib.hid hml
      have HT := Lib.hid hT
      clear e1 e2 e3 hno hH hdv hok hS1 hM hml hT
      go_enter Tryz.func5, Tryz.ntmps5
      go_wp2_with fail
      refine (cut_any s _ hs).mono ?_
      rintro e w1 ⟨rfl, hb⟩
      rw [HH.out, HDV.out]
      rw [if_pos rfl, HT.out]
      have HB_1 := Lib.hid (HB0.out.trans (hb.mono HB0.out.size))
      have K_1 := Lib.hid (K0.out.after hb)
      clear hb
      have L1 := Lib.hid K_1.out.lt
      go_wp2_with fail
      refine (parseBigInt_impl H _ (by unfold maxLen; omega)).mono ?_
      rintro e w2 ⟨v2, rfl, ho2, hb⟩
      rw [HS1.out, HOK.out]
      rw [HM.out] at ho2
      obtain ⟨A2, c2, hv⟩ := ho2.shape
      rw [nats_len, HML.out] at hv
      subst hv
      have O_n_0 := Lib.hid ho2
      clear ho2
      have HB_2 := Lib.hid (HB_1.out.trans (hb.mono HB_1.out.size))
      have K_2 := Lib.hid (K_1.out.after hb)
      clear hb
      have r0 := K_2.out.cell 0 _ rfl
      have r1 := K_2.out.cell 1 _ rfl
      have r2 := K_2.out.cell 2 _ rfl
      have f0 := K_2.out.froz 0 _ rfl
      have f1 := K_2.out.froz 1 _ rfl
      have f2 := K_2.out.froz 2 _ rfl
      have hlr := K_2.out.lt
      go_wp2
      have TT := ((HB_2.out.setCell (p := ⟨w.heap.size, 0, none⟩) (Nat.le_refl _) (.bool false)).setCell (p := ⟨w.heap.size, 1, none⟩) (Nat.le_refl _) (.slice none 0 0)).setCell (p := ⟨w.heap.size, 2, none⟩) (Nat.le_refl _) (.slice none 0 0)
      refine bodyPost_ret (v := .tuple #[.agg #[.bool false, .slice none 0 0, .slice none 0 0], .bool false]) (by simp [results, Tryz.results5, go_sem, r0, r1, r2, hlr]) rfl ?_
      rw [E0.out, E1.out, E2.out, E3.out]
      exact ownRRP_zero (TT.alloc TT.size _)
  | false =>
    by_cases hok : bpOk H = true
    · by_cases hkr : okR S1 (toI M) (toI [1]) = true
      · replace hkr : okR (bpS H) (toI (bpM H)) (toI [1]) = true := by rw [hS1, hM]; exact hkr
        have hye : rpOk s = true := by simp [rpOk, dnT, hH, hdv, hok, hkr]
        obtain ⟨e1, e2, e3⟩ := rp_yes hye
        rw [hH] at e1 e2
        rw [hS1] at e1
        rw [hM] at e2
        rw [show dnT s = [1] by simp [dnT, hdv]] at e3
        have E0 := Lib.hid hye
        have E1 := Lib.hid e1
        have E2 := Lib.hid e2
        have E3 := Lib.hid e3
        have HH := Lib.hid hH
        have HDV := Lib.hid hdv
        have HOK := Lib.hid hok
        have HS1 := Lib.hid hS1
        have HM := Lib.hid hM
        have HML := Lib.hid hml
        have hKRL := hkr
        rw [hS1, hM] at hKRL
        have HKR := Lib.hid hKRL
        clear hKRL
        clear e1 e2 e3 hye hH hdv hok hS1 hM hml
        clear hkr
        go_enter Tryz.func5, Tryz.ntmps5
        go_wp2_with fail
        refine (cut_any s _ hs).mono ?_
        rintro e w1 ⟨rfl, hb⟩
        rw [HH.out, HDV.out]
        rw [if_neg (by decide)]
        have HB_1 := Lib.hid (HB0.out.trans (hb.mono HB0.out.size))
        have K_1 := Lib.hid (K0.out.after hb)
        clear hb
        have L1 := Lib.hid K_1.out.lt
        go_wp2_with fail
        refine (parseBigInt_impl H _ (by unfold maxLen; omega)).mono ?_
        rintro e w2 ⟨v2, rfl, ho2, hb⟩
        rw [HS1.out, HOK.out]
        rw [HM.out] at ho2
        obtain ⟨A2, c2, hv⟩ := ho2.shape
        rw [nats_len, HML.out] at hv
        subst hv
        have O_n_0 := Lib.hid ho2
        clear ho2
        have HB_2 := Lib.hid (HB_1.out.trans (hb.mono HB_1.out.size))
        have K_2 := Lib.hid (K_1.out.after hb)
        clear hb
        go_wp2_with fail
        have HB_3 := Lib.hid (HB_2.out.alloc HB_2.out.size (.cells #[.bool S1, .slice A2 m1 c2] 24))
        have K_3 := Lib.hid (K_2.out.alloc (.cells #[.bool S1, .slice A2 m1 c2] 24))
        have O_n_3 := Lib.hid (OwnV.below O_n_0.out ((Below.refl _ w2).alloc (Nat.le_refl _) (.cells #[.bool S1, .slice A2 m1 c2] 24)))
        have X_b_3 := Lib.hid (HeldL.new w2 [.bool S1, .slice A2 m1 c2] 24)
        have L2 := Lib.hid K_3.out.lt
        refine (natOf_impl 1 _ (by omega)).mono ?_
        rintro e w3 ⟨v3, rfl, ho3, hb⟩
        rw [show dig (1 : Int).toNat = [1] from dig_one] at ho3
        obtain ⟨A3, c3, hv⟩ := ho3.shape
        rw [show (nats [1]).length = 1 from rfl] at hv
        subst hv
        have O_d_0 := Lib.hid ho3
        have AP0 := Lib.hid (OwnV.apart O_n_3.out ho3 (Nat.le_refl _))
        have AP1 := Lib.hid (OwnV.apart' ho3 O_n_3.out (Nat.le_refl _))
        clear ho3
        have HB_4 := Lib.hid (HB_3.out.trans (hb.mono HB_3.out.size))
        have K_4 := Lib.hid (K_3.out.after hb)
        have O_n_4 := Lib.hid (OwnV.below O_n_3.out hb)
        have X_b_4 := Lib.hid (X_b_3.out.after hb)
        clear hb
        have b0 := X_b_4.out.cell 0 _ rfl
        have b1 := X_b_4.out.cell 1 _ rfl
        go_wp2_with fail
        clear b0 b1
        have NEQ := Lib.hid (Nat.ne_of_lt K_4.out.lt)
        have HB_5 := Lib.hid (HB_4.out.alloc HB_4.out.size (.cells #[.bool S1, .slice A2 m1 c2, .slice A3 1 c3] 26))
        have K_5 := Lib.hid (K_4.out.alloc (.cells #[.bool S1, .slice A2 m1 c2, .slice A3 1 c3] 26))
        have O_n_5 := Lib.hid (OwnV.below O_n_4.out ((Below.refl _ w3).alloc (Nat.le_refl _) (.cells #[.bool S1, .slice A2 m1 c2, .slice A3 1 c3] 26)))
        have O_d_5 := Lib.hid (OwnV.below O_d_0.out ((Below.refl _ w3).alloc (Nat.le_refl _) (.cells #[.bool S1, .slice A2 m1 c2, .slice A3 1 c3] 26)))
        have X_b_5 := Lib.hid (X_b_4.out.alloc (.cells #[.bool S1, .slice A2 m1 c2, .slice A3 1 c3] 26))
        have X_q_5 := Lib.hid (HeldL.new w3 [.bool S1, .slice A2 m1 c2, .slice A3 1 c3] 26)
        refine (isValidR_any S1 A2 m1 c2 (toI M) A3 1 c3 (toI [1]) _ O_n_5.out.arg O_d_5.out.arg).mono ?_
        rintro e w6 ⟨rfl, hb⟩
        rw [HKR.out]
        have HB_6 := Lib.hid (HB_5.out.trans (hb.mono HB_5.out.size))
        have K_6 := Lib.hid (K_5.out.after hb)
        have O_n_6 := Lib.hid (OwnV.below O_n_5.out hb)
        have O_d_6 := Lib.hid (OwnV.below O_d_5.out hb)
        have X_b_6 := Lib.hid (X_b_5.out.after hb)
        have X_q_6 := Lib.hid (X_q_5.out.after hb)
        clear hb
        have r0 := K_6.out.cell 0 _ rfl
        have r1 := K_6.out.cell 1 _ rfl
        have r2 := K_6.out.cell 2 _ rfl
        have f0 := K_6.out.froz 0 _ rfl
        have f1 := K_6.out.froz 1 _ rfl
        have f2 := K_6.out.froz 2 _ rfl
        have q0 := X_q_6.out.cell 0 _ rfl
        have q1 := X_q_6.out.cell 1 _ rfl
        have q2 := X_q_6.out.cell 2 _ rfl
        have hne := NEQ.out
        have hnf := NEQ.out.symm
        go_wp2
        refine bodyPost_ret (v := .tuple #[.agg #[.bool S1, .slice A2 m1 c2, .slice A3 1 c3], .bool true]) (by simp [results, Tryz.results5, go_sem, r0, r1, r2]) rfl ?_
        rw [E0.out, E1.out, E2.out, E3.out]
        exact ownRRP_close HB_6.out O_n_6.out O_d_6.out L1.out L2.out (Nat.le_refl _) AP0.out AP1.out
      · rw [Bool.not_eq_true] at hkr
        replace hkr : okR (bpS H) (toI (bpM H)) (toI [1]) = false := by rw [hS1, hM]; exact hkr
        have hno : rpOk s = false := by simp [rpOk, dnT, hH, hdv, hkr]
        obtain ⟨e1, e2, e3⟩ := rp_no hno
        have E0 := Lib.hid hno
        have E1 := Lib.hid e1
        have E2 := Lib.hid e2
        have E3 := Lib.hid e3
        have HH := Lib.hid hH
        have HDV := Lib.hid hdv
        have HOK := Lib.hid hok
        have HS1 := Lib.hid hS1
        have HM := Lib.hid hM
        have HML := Lib.hid hml
        have hKRL := hkr
        rw [hS1, hM] at hKRL
        have HKR := Lib.hid hKRL
        clear hKRL
        clear e1 e2 e3 hno hH hdv hok hS1 hM hml
        clear hkr
        go_enter Tryz.func5, Tryz.ntmps5
        go_wp2_with fail
        refine (cut_any s _ hs).mono ?_
        rintro e w1 ⟨rfl, hb⟩
        rw [HH.out, HDV.out]
        rw [if_neg (by decide)]
        have HB_1 := Lib.hid (HB0.out.trans (hb.mono HB0.out.size))
        have K_1 := Lib.hid (K0.out.after hb)
        clear hb
        have L1 := Lib.hid K_1.out.lt
        go_wp2_with fail
        refine (parseBigInt_impl H _ (by unfold maxLen; omega)).mono ?_
        rintro e w2 ⟨v2, rfl, ho2, hb⟩
        rw [HS1.out, HOK.out]
        rw [HM.out] at ho2
        obtain ⟨A2, c2, hv⟩ := ho2.shape
        rw [nats_len, HML.out] at hv
        subst hv
        have O_n_0 := Lib.hid ho2
        clear ho2
        have HB_2 := Lib.hid (HB_1.out.trans (hb.mono HB_1.out.size))
        have K_2 := Lib.hid (K_1.out.after hb)
        clear hb
        go_wp2_with fail
        have HB_3 := Lib.hid (HB_2.out.alloc HB_2.out.size (.cells #[.bool S1, .slice A2 m1 c2] 24))
        have K_3 := Lib.hid (K_2.out.alloc (.cells #[.bool S1, .slice A2 m1 c2] 24))
        have O_n_3 := Lib.hid (OwnV.below O_n_0.out ((Below.refl _ w2).alloc (Nat.le_refl _) (.cells #[.bool S1, .slice A2 m1 c2] 24)))
        have X_b_3 := Lib.hid (HeldL.new w2 [.bool S1, .slice A2 m1 c2] 24)
        have L2 := Lib.hid K_3.out.lt
        refine (natOf_impl 1 _ (by omega)).mono ?_
        rintro e w3 ⟨v3, rfl, ho3, hb⟩
        rw [show dig (1 : Int).toNat = [1] from dig_one] at ho3
        obtain ⟨A3, c3, hv⟩ := ho3.shape
        rw [show (nats [1]).length = 1 from rfl] at hv
        subst hv
        have O_d_0 := Lib.hid ho3
        have AP0 := Lib.hid (OwnV.apart O_n_3.out ho3 (Nat.le_refl _))
        have AP1 := Lib.hid (OwnV.apart' ho3 O_n_3.out (Nat.le_refl _))
        clear ho3
        have HB_4 := Lib.hid (HB_3.out.trans (hb.mono HB_3.out.size))
        have K_4 := Lib.hid (K_3.out.after hb)
        have O_n_4 := Lib.hid (OwnV.below O_n_3.out hb)
        have X_b_4 := Lib.hid (X_b_3.out.after hb)
        clear hb
        have b0 := X_b_4.out.cell 0 _ rfl
        have b1 := X_b_4.out.cell 1 _ rfl
        go_wp2_with fail
        clear b0 b1
        have NEQ := Lib.hid (Nat.ne_of_lt K_4.out.lt)
        have HB_5 := Lib.hid (HB_4.out.alloc HB_4.out.size (.cells #[.bool S1, .slice A2 m1 c2, .slice A3 1 c3] 26))
        have K_5 := Lib.hid (K_4.out.alloc (.cells #[.bool S1, .slice A2 m1 c2, .slice A3 1 c3] 26))
        have O_n_5 := Lib.hid (OwnV.below O_n_4.out ((Below.refl _ w3).alloc (Nat.le_refl _) (.cells #[.bool S1, .slice A2 m1 c2, .slice A3 1 c3] 26)))
        have O_d_5 := Lib.hid (OwnV.below O_d_0.out ((Below.refl _ w3).alloc (Nat.le_refl _) (.cells #[.bool S1, .slice A2 m1 c2, .slice A3 1 c3] 26)))
        have X_b_5 := Lib.hid (X_b_4.out.alloc (.cells #[.bool S1, .slice A2 m1 c2, .slice A3 1 c3] 26))
        have X_q_5 := Lib.hid (HeldL.new w3 [.bool S1, .slice A2 m1 c2, .slice A3 1 c3] 26)
        refine (isValidR_any S1 A2 m1 c2 (toI M) A3 1 c3 (toI [1]) _ O_n_5.out.arg O_d_5.out.arg).mono ?_
        rintro e w6 ⟨rfl, hb⟩
        rw [HKR.out]
        have HB_6 := Lib.hid (HB_5.out.trans (hb.mono HB_5.out.size))
        have K_6 := Lib.hid (K_5.out.after hb)
        have O_n_6 := Lib.hid (OwnV.below O_n_5.out hb)
        have O_d_6 := Lib.hid (OwnV.below O_d_5.out hb)
        have X_b_6 := Lib.hid (X_b_5.out.after hb)
        have X_q_6 := Lib.hid (X_q_5.out.after hb)
        clear hb
        have r0 := K_6.out.cell 0 _ rfl
        have r1 := K_6.out.cell 1 _ rfl
        have r2 := K_6.out.cell 2 _ rfl
        have f0 := K_6.out.froz 0 _ rfl
        have f1 := K_6.out.froz 1 _ rfl
        have f2 := K_6.out.froz 2 _ rfl
        go_wp2
        have TT := ((HB_6.out.setCell (p := ⟨w.heap.size, 0, none⟩) (Nat.le_refl _) (.bool false)).setCell (p := ⟨w.heap.size, 1, none⟩) (Nat.le_refl _) (.slice none 0 0)).setCell (p := ⟨w.heap.size, 2, none⟩) (Nat.le_refl _) (.slice none 0 0)
        refine bodyPost_ret (v := .tuple #[.agg #[.bool false, .slice none 0 0, .slice none 0 0], .bool false]) (by simp [results, Tryz.results5, go_sem, r0, r1, r2]) rfl ?_
        rw [E0.out, E1.out, E2.out, E3.out]
        exact ownRRP_zero (TT)
    · rw [Bool.not_eq_true] at hok
      have hno : rpOk s = false := by simp [rpOk, dnT, hH, hdv, hok]
      obtain ⟨e1, e2, e3⟩ := rp_no hno
      have E0 := Lib.hid hno
      have E1 := Lib.hid e1
      have E2 := Lib.hid e2
      have E3 := Lib.hid e3
      have HH := Lib.hid hH
      have HDV := Lib.hid hdv
      have HOK := Lib.hid hok
      have HS1 := Lib.hid hS1
      have HM := Lib.hid hM
      have HML := Lib.hid hml
      clear e1 e2 e3 hno hH hdv hok hS1 hM hml
      go_enter Tryz.func5, Tryz.ntmps5
      go_wp2_with fail
      refine (cut_any s _ hs).mono ?_
      rintro e w1 ⟨rfl, hb⟩
      rw [HH.out, HDV.out]
      rw [if_neg (by decide)]
      have HB_1 := Lib.hid (HB0.out.trans (hb.mono HB0.out.size))
      have K_1 := Lib.hid (K0.out.after hb)
      clear hb
      have L1 := Lib.hid K_1.out.lt
      go_wp2_with fail
      refine (parseBigInt_impl H _ (by unfold maxLen; omega)).mono ?_
      rintro e w2 ⟨v2, rfl, ho2, hb⟩
      rw [HS1.out, HOK.out]
      rw [HM.out] at ho2
      obtain ⟨A2, c2, hv⟩ := ho2.shape
      rw [nats_len, HML.out] at hv
      subst hv
      have O_n_0 := Lib.hid ho2
      clear ho2
      have HB_2 := Lib.hid (HB_1.out.trans (hb.mono HB_1.out.size))
      have K_2 := Lib.hid (K_1.out.after hb)
      clear hb
      have r0 := K_2.out.cell 0 _ rfl
      have r1 := K_2.out.cell 1 _ rfl
      have r2 := K_2.out.cell 2 _ rfl
      have f0 := K_2.out.froz 0 _ rfl
      have f1 := K_2.out.froz 1 _ rfl
      have f2 := K_2.out.froz 2 _ rfl
      have hlr := K_2.out.lt
      go_wp2
      have TT := ((HB_2.out.setCell (p := ⟨w.heap.size, 0, none⟩) (Nat.le_refl _) (.bool false)).setCell (p := ⟨w.heap.size, 1, none⟩) (Nat.le_refl _) (.slice none 0 0)).setCell (p := ⟨w.heap.size, 2, none⟩) (Nat.le_refl _) (.slice none 0 0)
      refine bodyPost_ret (v := .tuple #[.agg #[.bool false, .slice none 0 0, .slice none 0 0], .bool false]) (by simp [results, Tryz.results5, go_sem, r0, r1, r2, hlr]) rfl ?_
      rw [E0.out, E1.out, E2.out, E3.out]
      exact ownRRP_zero (TT.alloc TT.size _)
end Go.Proofs.YtdilgjakodimbaaGreatDoor
namespace Go.Proofs.YtdilgjakodimbaaGreatDoor
open Go.RowKit Nt Sp
set_option linter.unusedVariables false

theorem own_one (u : World) (t : TypeId) : OwnV (u.alloc (.cells #[.int .i64 1] t)) u.heap.size t (.slice (some ⟨u.heap.size, 0, none⟩) 1 1) (nats [1]) :=
  OwnV.of_own (n := 1) ⟨rfl, .inr ⟨u.heap.size, 1, #[.int .i64 1], rfl, Nat.le_refl _, heap_alloc_new u _, Nat.le_refl _, by unfold maxLen; omega, rfl, rfl⟩⟩
theorem own_one_at (u : World) (b : Nat) (t : TypeId) (h : u.heap.size = b) : OwnV (u.alloc (.cells #[.int .i64 1] t)) b t (.slice (some ⟨b, 0, none⟩) 1 1) (nats [1]) := h ▸ own_one u t
theorem toList_ne2 {s : ByteArray} (h : s ≠ ⟨#[]⟩) : s.toList.isEmpty = false := by
  rw [ByteArray.toList_eq]
  cases hl : s.data.toList with
  | nil => exact absurd (bytes_ext (by rw [hl])) h
  | cons a r => rfl
theorem parts_at {s : ByteArray} {m : Nat} (hm : (parts s ⟨#[47]⟩).length = m) : 0 < m ∧ dvT s = decide (1 < m) ∧ (parts s ⟨#[47]⟩)[0]? = some (hdT s) ∧ (1 < m → (parts s ⟨#[47]⟩)[1]? = some (sndT s)) := by
  subst hm
  unfold dvT hdT sndT
  cases hp : parts s ⟨#[47]⟩ with
  | nil => exact absurd hp (parts_ne s _)
  | cons x r =>
    refine ⟨by simp, rfl, rfl, fun h => ?_⟩
    cases r with
    | nil => simp at h
    | cons y r => rfl
theorem snd_size (s : ByteArray) : (sndT s).size ≤ s.size := by
  unfold sndT
  cases hp : parts s ⟨#[47]⟩ with
  | nil => exact absurd hp (parts_ne s _)
  | cons x r =>
    cases r with
    | nil => exact Nat.zero_le _
    | cons y r =>
      have e := congrArg ByteArray.size (join_parts s 47)
      rw [hp] at e
      have hj : (Jn.join ⟨#[47]⟩ (x :: y :: r)).size = (Jn.joinL ⟨#[47]⟩ (x :: y :: r)).length := by simp [Jn.join, ByteArray.size]
      rw [hj] at e
      show y.size ≤ s.size
      rw [← e]
      cases r with
      | nil => simp [Jn.joinL]; omega
      | cons z r => simp [Jn.joinL]; omega
set_option maxRecDepth 100000 in
set_option maxHeartbeats 4000000 in
theorem parseRat_spec (s : ByteArray) (w : World) (hs : s.size ≤ 1048576) :
    Calls Tryz.prog 4 #[.string s] w (OwnRRP 3 (rpS s) (nats (rpN s)) (nats (rpD s)) (rpOk s) w) := by
  have hhs := hd_size s
  have HB0 := Lib.hid ((Below.refl w.heap.size w).alloc (Nat.le_refl _) (.cells #[.bool false, .slice none 0 0, .slice none 0 0] 26))
  have K0 := Lib.hid (HeldL.new w [.bool false, .slice none 0 0, .slice none 0 0] 26)
  obtain ⟨m, hm⟩ : ∃ z, (parts s ⟨#[47]⟩).length = z := ⟨_, rfl⟩
  obtain ⟨hm0, hdm, hp0, hp1⟩ := parts_at hm
  have hml2 : m ≤ 1048577 := by have := parts_len s ⟨#[47]⟩; omega
  have HLEN := Lib.hid hm
  obtain ⟨H, hH⟩ : ∃ z, hdT s = z := ⟨_, rfl⟩
  rw [hH] at hhs hp0
  have HC0 := Lib.hid hp0
  obtain ⟨S1, hS1⟩ : ∃ z, bpS H = z := ⟨_, rfl⟩
  obtain ⟨M, hM⟩ : ∃ z, bpM H = z := ⟨_, rfl⟩
  obtain ⟨m1, hml⟩ : ∃ z, M.length = z := ⟨_, rfl⟩
  obtain ⟨G, hG⟩ : ∃ z, agT s = z := ⟨_, rfl⟩
  clear hm hp0
  by_cases h1m : 1 < m
  · have hdv : dvT s = true := by rw [hdm]; exact decide_eq_true h1m
    have hp := hp1 h1m
    have hbs := snd_size s
    obtain ⟨B, hB⟩ : ∃ z, sndT s = z := ⟨_, rfl⟩
    rw [hB] at hbs hp
    have HC1 := Lib.hid hp
    obtain ⟨DE, hDE⟩ : ∃ z, parseN B = z := ⟨_, rfl⟩
    obtain ⟨m4, hdl⟩ : ∃ z, DE.length = z := ⟨_, rfl⟩
    have hDS : dsT s = DE := by simp [dsT, hdv, hB, hDE]
    have hgt : (1 : Int) < (m : Int) := by omega
    clear hp hp1 hdm
    by_cases hok : bpOk H = true
    · by_cases hpt : pOk B = true
      · by_cases hgz : G = ⟨#[]⟩
        · skip
          have hno : rpOk s = false := by
            cases hq : rpOk s with
            | false => rfl
            | true =>
              exfalso
              obtain ⟨i1, i2, i3, i4⟩ := (same_all s).mpr hq
              exact i3 (hG.trans hgz)
          obtain ⟨e1, e2, e3⟩ := rp_no hno
          have E0 := Lib.hid hno
          have E1 := Lib.hid e1
          have E2 := Lib.hid e2
          have E3 := Lib.hid e3
          have HOK := Lib.hid hok
          have HS1 := Lib.hid hS1
          have HM := Lib.hid hM
          have HML := Lib.hid hml
          have HPT := Lib.hid hpt
          have HDE := Lib.hid hDE
          have HDL := Lib.hid hdl
          have HF := Lib.hid (show fmtR S1 (toI M) (toI DE) = G by rw [← hG]; unfold agT; rw [hH, hS1, hM, hDS])
          subst hgz
          clear e1 e2 e3 hno hok hS1 hM hml hpt hDE hdl
          clear hG hDS
          clear hH hdv hB
          go_enter Tryz.func4, Tryz.ntmps4
          go_wp2_with fail
          refine (splitAny_spec s ⟨#[47]⟩ _ hs (by show 1 ≤ _; omega)).mono ?_
          rintro e w1 ⟨v1, rfl, ho, hb⟩
          rw [HLEN.out] at ho
          obtain ⟨A, c, rfl⟩ := own_shape ho
          have hV := VRow.of_own ho
          obtain ⟨g, o, rfl, hg, hc⟩ := hV.2 (by omega)
          have c0 : w1.cell? ⟨g, o, none⟩ = some (.string H) := by have h := hc 0 (by omega); rw [List.getElem?_map, HC0.out] at h; exact h
          have HC1w := Lib.hid (show w1.cell? ⟨g, o + 1, none⟩ = some (.string B) by have h := hc 1 (by omega); rw [List.getElem?_map, HC1.out] at h; exact h)
          clear hV hc ho
          have HB_1 := Lib.hid (HB0.out.trans (hb.mono HB0.out.size))
          have K_1 := Lib.hid (K0.out.after hb)
          clear hb
          have L1 := Lib.hid K_1.out.lt
          go_wp2_with fail
          clear c0
          refine (parseBigInt_spec H _ (by unfold maxLen; omega)).mono ?_
          rintro e w2 ⟨v2, rfl, ho2, hb⟩
          rw [HS1.out, HOK.out]
          rw [HM.out] at ho2
          obtain ⟨A2, c2, hv⟩ := ho2.shape
          rw [nats_len, HML.out] at hv
          subst hv
          have O_n_0 := Lib.hid ho2
          clear ho2
          have c1 := (hb.cell (p := ⟨g, o + 1, none⟩) hg).trans HC1w.out
          have hg2 := Nat.lt_of_lt_of_le hg hb.size
          have hg3 : g < w2.heap.size + 1 := by omega
          have HB_2 := Lib.hid (HB_1.out.trans (hb.mono HB_1.out.size))
          have K_2 := Lib.hid (K_1.out.after hb)
          clear hb
          go_wp2_with fail
          have HB_3 := Lib.hid (HB_2.out.alloc HB_2.out.size (.cells #[.bool S1, .slice A2 m1 c2] 24))
          have K_3 := Lib.hid (K_2.out.alloc (.cells #[.bool S1, .slice A2 m1 c2] 24))
          have O_n_3 := Lib.hid (OwnV.below O_n_0.out ((Below.refl _ w2).alloc (Nat.le_refl _) (.cells #[.bool S1, .slice A2 m1 c2] 24)))
          have X_b_3 := Lib.hid (HeldL.new w2 [.bool S1, .slice A2 m1 c2] 24)
          have O_d_0 := Lib.hid (own_one_at (w2.alloc (.cells #[.bool S1, .slice A2 m1 c2] 24)) (w2.heap.size + 1) 3 (by simp))
          have AP0 := Lib.hid (OwnV.apart O_n_3.out O_d_0.out (by simp))
          have AP1 := Lib.hid (OwnV.apart' O_d_0.out O_n_3.out (by simp))
          have L2 := Lib.hid (show w.heap.size < w2.heap.size + 1 by have := K_3.out.lt; simpa using this)
          have HB_4 := Lib.hid (HB_3.out.alloc HB_3.out.size (.cells #[.int .i64 1] 3))
          have K_4 := Lib.hid (K_3.out.alloc (.cells #[.int .i64 1] 3))
          have O_n_4 := Lib.hid (OwnV.below O_n_3.out ((Below.refl _ (w2.alloc (.cells #[.bool S1, .slice A2 m1 c2] 24))).alloc (Nat.le_refl _) (.cells #[.int .i64 1] 3)))
          have X_b_4 := Lib.hid (X_b_3.out.alloc (.cells #[.int .i64 1] 3))
          clear c1 hg2 hg3 AP0 AP1 O_d_0
          have L3 := Lib.hid K_4.out.lt
          refine (parseNat_spec B _ (by unfold maxLen; omega)).mono ?_
          rintro e w3 ⟨v3, rfl, ho3, hb⟩
          rw [HPT.out]
          rw [HDE.out] at ho3
          obtain ⟨A4, c4, hv⟩ := ho3.shape
          rw [nats_len, HDL.out] at hv
          subst hv
          have O_d_1 := Lib.hid ho3
          have AP0 := Lib.hid (OwnV.apart O_n_4.out ho3 (Nat.le_refl _))
          have AP1 := Lib.hid (OwnV.apart' ho3 O_n_4.out (Nat.le_refl _))
          clear ho3
          have HB_5 := Lib.hid (HB_4.out.trans (hb.mono HB_4.out.size))
          have K_5 := Lib.hid (K_4.out.after hb)
          have O_n_5 := Lib.hid (OwnV.below O_n_4.out hb)
          have X_b_5 := Lib.hid (X_b_4.out.after hb)
          clear hb
          have b0 := X_b_5.out.cell 0 _ rfl
          have b1 := X_b_5.out.cell 1 _ rfl
          go_wp2_with fail
          clear b0 b1
          have NEQ := Lib.hid (Nat.ne_of_lt K_5.out.lt)
          have HB_6 := Lib.hid (HB_5.out.alloc HB_5.out.size (.cells #[.bool S1, .slice A2 m1 c2, .slice (A4) m4 c4] 26))
          have K_6 := Lib.hid (K_5.out.alloc (.cells #[.bool S1, .slice A2 m1 c2, .slice (A4) m4 c4] 26))
          have O_n_6 := Lib.hid (OwnV.below O_n_5.out ((Below.refl _ w3).alloc (Nat.le_refl _) (.cells #[.bool S1, .slice A2 m1 c2, .slice (A4) m4 c4] 26)))
          have O_d_6 := Lib.hid (OwnV.below O_d_1.out ((Below.refl _ w3).alloc (Nat.le_refl _) (.cells #[.bool S1, .slice A2 m1 c2, .slice (A4) m4 c4] 26)))
          have X_b_6 := Lib.hid (X_b_5.out.alloc (.cells #[.bool S1, .slice A2 m1 c2, .slice (A4) m4 c4] 26))
          have X_q_6 := Lib.hid (HeldL.new w3 [.bool S1, .slice A2 m1 c2, .slice (A4) m4 c4] 26)
          refine (formatRat_spec S1 A2 m1 c2 (toI M) (A4) m4 c4 (toI DE) _ O_n_6.out.arg O_d_6.out.arg).mono ?_
          rintro e w4 ⟨rfl, hb⟩
          rw [HF.out]
          have HB_7 := Lib.hid (HB_6.out.trans (hb.mono HB_6.out.size))
          have K_7 := Lib.hid (K_6.out.after hb)
          have O_n_7 := Lib.hid (OwnV.below O_n_6.out hb)
          have O_d_7 := Lib.hid (OwnV.below O_d_6.out hb)
          have X_b_7 := Lib.hid (X_b_6.out.after hb)
          have X_q_7 := Lib.hid (X_q_6.out.after hb)
          clear hb
          have r0 := K_7.out.cell 0 _ rfl
          have r1 := K_7.out.cell 1 _ rfl
          have r2 := K_7.out.cell 2 _ rfl
          have f0 := K_7.out.froz 0 _ rfl
          have f1 := K_7.out.froz 1 _ rfl
          have f2 := K_7.out.froz 2 _ rfl
          go_wp2
          have TT := ((HB_7.out.setCell (p := ⟨w.heap.size, 0, none⟩) (Nat.le_refl _) (.bool false)).setCell (p := ⟨w.heap.size, 1, none⟩) (Nat.le_refl _) (.slice none 0 0)).setCell (p := ⟨w.heap.size, 2, none⟩) (Nat.le_refl _) (.slice none 0 0)
          refine bodyPost_ret (v := .tuple #[.agg #[.bool false, .slice none 0 0, .slice none 0 0], .bool false]) (by simp [results, Tryz.results4, go_sem, r0, r1, r2]) rfl ?_
          rw [E0.out, E1.out, E2.out, E3.out]
          exact ownRRP_zero TT
        · by_cases hgs : G = s
          · skip
            have hye : rpOk s = true := (same_all s).mp ⟨by rw [hH]; exact hok, by simp [fineT, hdv, hB, hpt], by rw [hG]; exact hgz, hG.trans hgs⟩
            obtain ⟨e1, e2, e3⟩ := rp_yes hye
            rw [hH] at e1 e2
            rw [hS1] at e1
            rw [hM] at e2
            rw [← den_same hye, hDS] at e3
            have E0 := Lib.hid hye
            have E1 := Lib.hid e1
            have E2 := Lib.hid e2
            have E3 := Lib.hid e3
            have HOK := Lib.hid hok
            have HS1 := Lib.hid hS1
            have HM := Lib.hid hM
            have HML := Lib.hid hml
            have HPT := Lib.hid hpt
            have HDE := Lib.hid hDE
            have HDL := Lib.hid hdl
            have HF := Lib.hid (show fmtR S1 (toI M) (toI DE) = G by rw [← hG]; unfold agT; rw [hH, hS1, hM, hDS])
            have n1 := (str_ne G ⟨#[]⟩ hgz).1
            have n2 := (str_ne G ⟨#[]⟩ hgz).2
            have n3 := toList_ne2 hgz
            rw [ByteArray.toList_eq ⟨#[]⟩] at n1 n2
            have n4 : (G.toList == []) = false := n1
            have n5 : (G.toList != []) = true := n2
            clear n1 n2
            clear e1 e2 e3 hye hok hS1 hM hml hpt hDE hdl
            clear hG hDS
            clear hgz
            obtain rfl : s = G := hgs.symm
            clear hH hdv hB
            go_enter Tryz.func4, Tryz.ntmps4
            go_wp2_with fail
            refine (splitAny_spec s ⟨#[47]⟩ _ hs (by show 1 ≤ _; omega)).mono ?_
            rintro e w1 ⟨v1, rfl, ho, hb⟩
            rw [HLEN.out] at ho
            obtain ⟨A, c, rfl⟩ := own_shape ho
            have hV := VRow.of_own ho
            obtain ⟨g, o, rfl, hg, hc⟩ := hV.2 (by omega)
            have c0 : w1.cell? ⟨g, o, none⟩ = some (.string H) := by have h := hc 0 (by omega); rw [List.getElem?_map, HC0.out] at h; exact h
            have HC1w := Lib.hid (show w1.cell? ⟨g, o + 1, none⟩ = some (.string B) by have h := hc 1 (by omega); rw [List.getElem?_map, HC1.out] at h; exact h)
            clear hV hc ho
            have HB_1 := Lib.hid (HB0.out.trans (hb.mono HB0.out.size))
            have K_1 := Lib.hid (K0.out.after hb)
            clear hb
            have L1 := Lib.hid K_1.out.lt
            go_wp2_with fail
            clear c0
            refine (parseBigInt_spec H _ (by unfold maxLen; omega)).mono ?_
            rintro e w2 ⟨v2, rfl, ho2, hb⟩
            rw [HS1.out, HOK.out]
            rw [HM.out] at ho2
            obtain ⟨A2, c2, hv⟩ := ho2.shape
            rw [nats_len, HML.out] at hv
            subst hv
            have O_n_0 := Lib.hid ho2
            clear ho2
            have c1 := (hb.cell (p := ⟨g, o + 1, none⟩) hg).trans HC1w.out
            have hg2 := Nat.lt_of_lt_of_le hg hb.size
            have hg3 : g < w2.heap.size + 1 := by omega
            have HB_2 := Lib.hid (HB_1.out.trans (hb.mono HB_1.out.size))
            have K_2 := Lib.hid (K_1.out.after hb)
            clear hb
            go_wp2_with fail
            have HB_3 := Lib.hid (HB_2.out.alloc HB_2.out.size (.cells #[.bool S1, .slice A2 m1 c2] 24))
            have K_3 := Lib.hid (K_2.out.alloc (.cells #[.bool S1, .slice A2 m1 c2] 24))
            have O_n_3 := Lib.hid (OwnV.below O_n_0.out ((Below.refl _ w2).alloc (Nat.le_refl _) (.cells #[.bool S1, .slice A2 m1 c2] 24)))
            have X_b_3 := Lib.hid (HeldL.new w2 [.bool S1, .slice A2 m1 c2] 24)
            have O_d_0 := Lib.hid (own_one_at (w2.alloc (.cells #[.bool S1, .slice A2 m1 c2] 24)) (w2.heap.size + 1) 3 (by simp))
            have AP0 := Lib.hid (OwnV.apart O_n_3.out O_d_0.out (by simp))
            have AP1 := Lib.hid (OwnV.apart' O_d_0.out O_n_3.out (by simp))
            have L2 := Lib.hid (show w.heap.size < w2.heap.size + 1 by have := K_3.out.lt; simpa using this)
            have HB_4 := Lib.hid (HB_3.out.alloc HB_3.out.size (.cells #[.int .i64 1] 3))
            have K_4 := Lib.hid (K_3.out.alloc (.cells #[.int .i64 1] 3))
            have O_n_4 := Lib.hid (OwnV.below O_n_3.out ((Below.refl _ (w2.alloc (.cells #[.bool S1, .slice A2 m1 c2] 24))).alloc (Nat.le_refl _) (.cells #[.int .i64 1] 3)))
            have X_b_4 := Lib.hid (X_b_3.out.alloc (.cells #[.int .i64 1] 3))
            clear c1 hg2 hg3 AP0 AP1 O_d_0
            have L3 := Lib.hid K_4.out.lt
            refine (parseNat_spec B _ (by unfold maxLen; omega)).mono ?_
            rintro e w3 ⟨v3, rfl, ho3, hb⟩
            rw [HPT.out]
            rw [HDE.out] at ho3
            obtain ⟨A4, c4, hv⟩ := ho3.shape
            rw [nats_len, HDL.out] at hv
            subst hv
            have O_d_1 := Lib.hid ho3
            have AP0 := Lib.hid (OwnV.apart O_n_4.out ho3 (Nat.le_refl _))
            have AP1 := Lib.hid (OwnV.apart' ho3 O_n_4.out (Nat.le_refl _))
            clear ho3
            have HB_5 := Lib.hid (HB_4.out.trans (hb.mono HB_4.out.size))
            have K_5 := Lib.hid (K_4.out.after hb)
            have O_n_5 := Lib.hid (OwnV.below O_n_4.out hb)
            have X_b_5 := Lib.hid (X_b_4.out.after hb)
            clear hb
            have b0 := X_b_5.out.cell 0 _ rfl
            have b1 := X_b_5.out.cell 1 _ rfl
            go_wp2_with fail
            clear b0 b1
            have NEQ := Lib.hid (Nat.ne_of_lt K_5.out.lt)
            have HB_6 := Lib.hid (HB_5.out.alloc HB_5.out.size (.cells #[.bool S1, .slice A2 m1 c2, .slice (A4) m4 c4] 26))
            have K_6 := Lib.hid (K_5.out.alloc (.cells #[.bool S1, .slice A2 m1 c2, .slice (A4) m4 c4] 26))
            have O_n_6 := Lib.hid (OwnV.below O_n_5.out ((Below.refl _ w3).alloc (Nat.le_refl _) (.cells #[.bool S1, .slice A2 m1 c2, .slice (A4) m4 c4] 26)))
            have O_d_6 := Lib.hid (OwnV.below O_d_1.out ((Below.refl _ w3).alloc (Nat.le_refl _) (.cells #[.bool S1, .slice A2 m1 c2, .slice (A4) m4 c4] 26)))
            have X_b_6 := Lib.hid (X_b_5.out.alloc (.cells #[.bool S1, .slice A2 m1 c2, .slice (A4) m4 c4] 26))
            have X_q_6 := Lib.hid (HeldL.new w3 [.bool S1, .slice A2 m1 c2, .slice (A4) m4 c4] 26)
            refine (formatRat_spec S1 A2 m1 c2 (toI M) (A4) m4 c4 (toI DE) _ O_n_6.out.arg O_d_6.out.arg).mono ?_
            rintro e w4 ⟨rfl, hb⟩
            rw [HF.out]
            have HB_7 := Lib.hid (HB_6.out.trans (hb.mono HB_6.out.size))
            have K_7 := Lib.hid (K_6.out.after hb)
            have O_n_7 := Lib.hid (OwnV.below O_n_6.out hb)
            have O_d_7 := Lib.hid (OwnV.below O_d_6.out hb)
            have X_b_7 := Lib.hid (X_b_6.out.after hb)
            have X_q_7 := Lib.hid (X_q_6.out.after hb)
            clear hb
            have q0 := X_q_7.out.cell 0 _ rfl
            have q1 := X_q_7.out.cell 1 _ rfl
            have q2 := X_q_7.out.cell 2 _ rfl
            go_wp2_with fail
            clear q0 q1 q2
            refine (formatRat_spec S1 A2 m1 c2 (toI M) (A4) m4 c4 (toI DE) _ O_n_7.out.arg O_d_7.out.arg).mono ?_
            rintro e w5 ⟨rfl, hb⟩
            rw [HF.out]
            have HB_8 := Lib.hid (HB_7.out.trans (hb.mono HB_7.out.size))
            have K_8 := Lib.hid (K_7.out.after hb)
            have O_n_8 := Lib.hid (OwnV.below O_n_7.out hb)
            have O_d_8 := Lib.hid (OwnV.below O_d_7.out hb)
            have X_b_8 := Lib.hid (X_b_7.out.after hb)
            have X_q_8 := Lib.hid (X_q_7.out.after hb)
            clear hb
            have r0 := K_8.out.cell 0 _ rfl
            have r1 := K_8.out.cell 1 _ rfl
            have r2 := K_8.out.cell 2 _ rfl
            have f0 := K_8.out.froz 0 _ rfl
            have f1 := K_8.out.froz 1 _ rfl
            have f2 := K_8.out.froz 2 _ rfl
            have q0 := X_q_8.out.cell 0 _ rfl
            have q1 := X_q_8.out.cell 1 _ rfl
            have q2 := X_q_8.out.cell 2 _ rfl
            have hne := NEQ.out
            have hnf := NEQ.out.symm
            go_wp2
            refine bodyPost_ret (v := .tuple #[.agg #[.bool S1, .slice A2 m1 c2, .slice (A4) m4 c4], .bool true]) (by simp [results, Tryz.results4, go_sem, r0, r1, r2]) rfl ?_
            rw [E0.out, E1.out, E2.out, E3.out]
            exact ownRRP_close HB_8.out O_n_8.out O_d_8.out L1.out L3.out (Nat.le_refl _) AP0.out AP1.out
          · skip
            have hno : rpOk s = false := by
              cases hq : rpOk s with
              | false => rfl
              | true =>
                exfalso
                obtain ⟨i1, i2, i3, i4⟩ := (same_all s).mpr hq
                exact hgs (hG.symm.trans i4)
            obtain ⟨e1, e2, e3⟩ := rp_no hno
            have E0 := Lib.hid hno
            have E1 := Lib.hid e1
            have E2 := Lib.hid e2
            have E3 := Lib.hid e3
            have HOK := Lib.hid hok
            have HS1 := Lib.hid hS1
            have HM := Lib.hid hM
            have HML := Lib.hid hml
            have HPT := Lib.hid hpt
            have HDE := Lib.hid hDE
            have HDL := Lib.hid hdl
            have HF := Lib.hid (show fmtR S1 (toI M) (toI DE) = G by rw [← hG]; unfold agT; rw [hH, hS1, hM, hDS])
            have n1 := (str_ne G ⟨#[]⟩ hgz).1
            have n2 := (str_ne G ⟨#[]⟩ hgz).2
            have n3 := toList_ne2 hgz
            rw [ByteArray.toList_eq ⟨#[]⟩] at n1 n2
            have n4 : (G.toList == []) = false := n1
            have n5 : (G.toList != []) = true := n2
            clear n1 n2
            obtain ⟨k1, k2⟩ := str_ne G s hgs
            clear e1 e2 e3 hno hok hS1 hM hml hpt hDE hdl
            clear hG hDS
            clear hgz hgs
            clear hH hdv hB
            go_enter Tryz.func4, Tryz.ntmps4
            go_wp2_with fail
            refine (splitAny_spec s ⟨#[47]⟩ _ hs (by show 1 ≤ _; omega)).mono ?_
            rintro e w1 ⟨v1, rfl, ho, hb⟩
            rw [HLEN.out] at ho
            obtain ⟨A, c, rfl⟩ := own_shape ho
            have hV := VRow.of_own ho
            obtain ⟨g, o, rfl, hg, hc⟩ := hV.2 (by omega)
            have c0 : w1.cell? ⟨g, o, none⟩ = some (.string H) := by have h := hc 0 (by omega); rw [List.getElem?_map, HC0.out] at h; exact h
            have HC1w := Lib.hid (show w1.cell? ⟨g, o + 1, none⟩ = some (.string B) by have h := hc 1 (by omega); rw [List.getElem?_map, HC1.out] at h; exact h)
            clear hV hc ho
            have HB_1 := Lib.hid (HB0.out.trans (hb.mono HB0.out.size))
            have K_1 := Lib.hid (K0.out.after hb)
            clear hb
            have L1 := Lib.hid K_1.out.lt
            go_wp2_with fail
            clear c0
            refine (parseBigInt_spec H _ (by unfold maxLen; omega)).mono ?_
            rintro e w2 ⟨v2, rfl, ho2, hb⟩
            rw [HS1.out, HOK.out]
            rw [HM.out] at ho2
            obtain ⟨A2, c2, hv⟩ := ho2.shape
            rw [nats_len, HML.out] at hv
            subst hv
            have O_n_0 := Lib.hid ho2
            clear ho2
            have c1 := (hb.cell (p := ⟨g, o + 1, none⟩) hg).trans HC1w.out
            have hg2 := Nat.lt_of_lt_of_le hg hb.size
            have hg3 : g < w2.heap.size + 1 := by omega
            have HB_2 := Lib.hid (HB_1.out.trans (hb.mono HB_1.out.size))
            have K_2 := Lib.hid (K_1.out.after hb)
            clear hb
            go_wp2_with fail
            have HB_3 := Lib.hid (HB_2.out.alloc HB_2.out.size (.cells #[.bool S1, .slice A2 m1 c2] 24))
            have K_3 := Lib.hid (K_2.out.alloc (.cells #[.bool S1, .slice A2 m1 c2] 24))
            have O_n_3 := Lib.hid (OwnV.below O_n_0.out ((Below.refl _ w2).alloc (Nat.le_refl _) (.cells #[.bool S1, .slice A2 m1 c2] 24)))
            have X_b_3 := Lib.hid (HeldL.new w2 [.bool S1, .slice A2 m1 c2] 24)
            have O_d_0 := Lib.hid (own_one_at (w2.alloc (.cells #[.bool S1, .slice A2 m1 c2] 24)) (w2.heap.size + 1) 3 (by simp))
            have AP0 := Lib.hid (OwnV.apart O_n_3.out O_d_0.out (by simp))
            have AP1 := Lib.hid (OwnV.apart' O_d_0.out O_n_3.out (by simp))
            have L2 := Lib.hid (show w.heap.size < w2.heap.size + 1 by have := K_3.out.lt; simpa using this)
            have HB_4 := Lib.hid (HB_3.out.alloc HB_3.out.size (.cells #[.int .i64 1] 3))
            have K_4 := Lib.hid (K_3.out.alloc (.cells #[.int .i64 1] 3))
            have O_n_4 := Lib.hid (OwnV.below O_n_3.out ((Below.refl _ (w2.alloc (.cells #[.bool S1, .slice A2 m1 c2] 24))).alloc (Nat.le_refl _) (.cells #[.int .i64 1] 3)))
            have X_b_4 := Lib.hid (X_b_3.out.alloc (.cells #[.int .i64 1] 3))
            clear c1 hg2 hg3 AP0 AP1 O_d_0
            have L3 := Lib.hid K_4.out.lt
            refine (parseNat_spec B _ (by unfold maxLen; omega)).mono ?_
            rintro e w3 ⟨v3, rfl, ho3, hb⟩
            rw [HPT.out]
            rw [HDE.out] at ho3
            obtain ⟨A4, c4, hv⟩ := ho3.shape
            rw [nats_len, HDL.out] at hv
            subst hv
            have O_d_1 := Lib.hid ho3
            have AP0 := Lib.hid (OwnV.apart O_n_4.out ho3 (Nat.le_refl _))
            have AP1 := Lib.hid (OwnV.apart' ho3 O_n_4.out (Nat.le_refl _))
            clear ho3
            have HB_5 := Lib.hid (HB_4.out.trans (hb.mono HB_4.out.size))
            have K_5 := Lib.hid (K_4.out.after hb)
            have O_n_5 := Lib.hid (OwnV.below O_n_4.out hb)
            have X_b_5 := Lib.hid (X_b_4.out.after hb)
            clear hb
            have b0 := X_b_5.out.cell 0 _ rfl
            have b1 := X_b_5.out.cell 1 _ rfl
            go_wp2_with fail
            clear b0 b1
            have NEQ := Lib.hid (Nat.ne_of_lt K_5.out.lt)
            have HB_6 := Lib.hid (HB_5.out.alloc HB_5.out.size (.cells #[.bool S1, .slice A2 m1 c2, .slice (A4) m4 c4] 26))
            have K_6 := Lib.hid (K_5.out.alloc (.cells #[.bool S1, .slice A2 m1 c2, .slice (A4) m4 c4] 26))
            have O_n_6 := Lib.hid (OwnV.below O_n_5.out ((Below.refl _ w3).alloc (Nat.le_refl _) (.cells #[.bool S1, .slice A2 m1 c2, .slice (A4) m4 c4] 26)))
            have O_d_6 := Lib.hid (OwnV.below O_d_1.out ((Below.refl _ w3).alloc (Nat.le_refl _) (.cells #[.bool S1, .slice A2 m1 c2, .slice (A4) m4 c4] 26)))
            have X_b_6 := Lib.hid (X_b_5.out.alloc (.cells #[.bool S1, .slice A2 m1 c2, .slice (A4) m4 c4] 26))
            have X_q_6 := Lib.hid (HeldL.new w3 [.bool S1, .slice A2 m1 c2, .slice (A4) m4 c4] 26)
            refine (formatRat_spec S1 A2 m1 c2 (toI M) (A4) m4 c4 (toI DE) _ O_n_6.out.arg O_d_6.out.arg).mono ?_
            rintro e w4 ⟨rfl, hb⟩
            rw [HF.out]
            have HB_7 := Lib.hid (HB_6.out.trans (hb.mono HB_6.out.size))
            have K_7 := Lib.hid (K_6.out.after hb)
            have O_n_7 := Lib.hid (OwnV.below O_n_6.out hb)
            have O_d_7 := Lib.hid (OwnV.below O_d_6.out hb)
            have X_b_7 := Lib.hid (X_b_6.out.after hb)
            have X_q_7 := Lib.hid (X_q_6.out.after hb)
            clear hb
            have q0 := X_q_7.out.cell 0 _ rfl
            have q1 := X_q_7.out.cell 1 _ rfl
            have q2 := X_q_7.out.cell 2 _ rfl
            go_wp2_with fail
            clear q0 q1 q2
            refine (formatRat_spec S1 A2 m1 c2 (toI M) (A4) m4 c4 (toI DE) _ O_n_7.out.arg O_d_7.out.arg).mono ?_
            rintro e w5 ⟨rfl, hb⟩
            rw [HF.out]
            have HB_8 := Lib.hid (HB_7.out.trans (hb.mono HB_7.out.size))
            have K_8 := Lib.hid (K_7.out.after hb)
            have O_n_8 := Lib.hid (OwnV.below O_n_7.out hb)
            have O_d_8 := Lib.hid (OwnV.below O_d_7.out hb)
            have X_b_8 := Lib.hid (X_b_7.out.after hb)
            have X_q_8 := Lib.hid (X_q_7.out.after hb)
            clear hb
            have r0 := K_8.out.cell 0 _ rfl
            have r1 := K_8.out.cell 1 _ rfl
            have r2 := K_8.out.cell 2 _ rfl
            have f0 := K_8.out.froz 0 _ rfl
            have f1 := K_8.out.froz 1 _ rfl
            have f2 := K_8.out.froz 2 _ rfl
            go_wp2
            have TT := ((HB_8.out.setCell (p := ⟨w.heap.size, 0, none⟩) (Nat.le_refl _) (.bool false)).setCell (p := ⟨w.heap.size, 1, none⟩) (Nat.le_refl _) (.slice none 0 0)).setCell (p := ⟨w.heap.size, 2, none⟩) (Nat.le_refl _) (.slice none 0 0)
            refine bodyPost_ret (v := .tuple #[.agg #[.bool false, .slice none 0 0, .slice none 0 0], .bool false]) (by simp [results, Tryz.results4, go_sem, r0, r1, r2]) rfl ?_
            rw [E0.out, E1.out, E2.out, E3.out]
            exact ownRRP_zero TT
      · rw [Bool.not_eq_true] at hpt
        have hno : rpOk s = false := by
          cases hq : rpOk s with
          | false => rfl
          | true =>
            exfalso
            obtain ⟨i1, i2, i3, i4⟩ := (same_all s).mpr hq
            unfold fineT at i2
            rw [hdv, hB, hpt] at i2
            exact absurd i2 (by decide)
        obtain ⟨e1, e2, e3⟩ := rp_no hno
        have E0 := Lib.hid hno
        have E1 := Lib.hid e1
        have E2 := Lib.hid e2
        have E3 := Lib.hid e3
        have HOK := Lib.hid hok
        have HS1 := Lib.hid hS1
        have HM := Lib.hid hM
        have HML := Lib.hid hml
        have HPT := Lib.hid hpt
        have HDE := Lib.hid hDE
        have HDL := Lib.hid hdl
        clear e1 e2 e3 hno hok hS1 hM hml hpt hDE hdl
        clear hH hdv hB
        go_enter Tryz.func4, Tryz.ntmps4
        go_wp2_with fail
        refine (splitAny_spec s ⟨#[47]⟩ _ hs (by show 1 ≤ _; omega)).mono ?_
        rintro e w1 ⟨v1, rfl, ho, hb⟩
        rw [HLEN.out] at ho
        obtain ⟨A, c, rfl⟩ := own_shape ho
        have hV := VRow.of_own ho
        obtain ⟨g, o, rfl, hg, hc⟩ := hV.2 (by omega)
        have c0 : w1.cell? ⟨g, o, none⟩ = some (.string H) := by have h := hc 0 (by omega); rw [List.getElem?_map, HC0.out] at h; exact h
        have HC1w := Lib.hid (show w1.cell? ⟨g, o + 1, none⟩ = some (.string B) by have h := hc 1 (by omega); rw [List.getElem?_map, HC1.out] at h; exact h)
        clear hV hc ho
        have HB_1 := Lib.hid (HB0.out.trans (hb.mono HB0.out.size))
        have K_1 := Lib.hid (K0.out.after hb)
        clear hb
        have L1 := Lib.hid K_1.out.lt
        go_wp2_with fail
        clear c0
        refine (parseBigInt_spec H _ (by unfold maxLen; omega)).mono ?_
        rintro e w2 ⟨v2, rfl, ho2, hb⟩
        rw [HS1.out, HOK.out]
        rw [HM.out] at ho2
        obtain ⟨A2, c2, hv⟩ := ho2.shape
        rw [nats_len, HML.out] at hv
        subst hv
        have O_n_0 := Lib.hid ho2
        clear ho2
        have c1 := (hb.cell (p := ⟨g, o + 1, none⟩) hg).trans HC1w.out
        have hg2 := Nat.lt_of_lt_of_le hg hb.size
        have hg3 : g < w2.heap.size + 1 := by omega
        have HB_2 := Lib.hid (HB_1.out.trans (hb.mono HB_1.out.size))
        have K_2 := Lib.hid (K_1.out.after hb)
        clear hb
        go_wp2_with fail
        have HB_3 := Lib.hid (HB_2.out.alloc HB_2.out.size (.cells #[.bool S1, .slice A2 m1 c2] 24))
        have K_3 := Lib.hid (K_2.out.alloc (.cells #[.bool S1, .slice A2 m1 c2] 24))
        have O_n_3 := Lib.hid (OwnV.below O_n_0.out ((Below.refl _ w2).alloc (Nat.le_refl _) (.cells #[.bool S1, .slice A2 m1 c2] 24)))
        have X_b_3 := Lib.hid (HeldL.new w2 [.bool S1, .slice A2 m1 c2] 24)
        have O_d_0 := Lib.hid (own_one_at (w2.alloc (.cells #[.bool S1, .slice A2 m1 c2] 24)) (w2.heap.size + 1) 3 (by simp))
        have AP0 := Lib.hid (OwnV.apart O_n_3.out O_d_0.out (by simp))
        have AP1 := Lib.hid (OwnV.apart' O_d_0.out O_n_3.out (by simp))
        have L2 := Lib.hid (show w.heap.size < w2.heap.size + 1 by have := K_3.out.lt; simpa using this)
        have HB_4 := Lib.hid (HB_3.out.alloc HB_3.out.size (.cells #[.int .i64 1] 3))
        have K_4 := Lib.hid (K_3.out.alloc (.cells #[.int .i64 1] 3))
        have O_n_4 := Lib.hid (OwnV.below O_n_3.out ((Below.refl _ (w2.alloc (.cells #[.bool S1, .slice A2 m1 c2] 24))).alloc (Nat.le_refl _) (.cells #[.int .i64 1] 3)))
        have X_b_4 := Lib.hid (X_b_3.out.alloc (.cells #[.int .i64 1] 3))
        clear c1 hg2 hg3 AP0 AP1 O_d_0
        have L3 := Lib.hid K_4.out.lt
        refine (parseNat_spec B _ (by unfold maxLen; omega)).mono ?_
        rintro e w3 ⟨v3, rfl, ho3, hb⟩
        rw [HPT.out]
        rw [HDE.out] at ho3
        obtain ⟨A4, c4, hv⟩ := ho3.shape
        rw [nats_len, HDL.out] at hv
        subst hv
        have O_d_1 := Lib.hid ho3
        have AP0 := Lib.hid (OwnV.apart O_n_4.out ho3 (Nat.le_refl _))
        have AP1 := Lib.hid (OwnV.apart' ho3 O_n_4.out (Nat.le_refl _))
        clear ho3
        have HB_5 := Lib.hid (HB_4.out.trans (hb.mono HB_4.out.size))
        have K_5 := Lib.hid (K_4.out.after hb)
        have O_n_5 := Lib.hid (OwnV.below O_n_4.out hb)
        have X_b_5 := Lib.hid (X_b_4.out.after hb)
        clear hb
        have b0 := X_b_5.out.cell 0 _ rfl
        have b1 := X_b_5.out.cell 1 _ rfl
        have r0 := K_5.out.cell 0 _ rfl
        have r1 := K_5.out.cell 1 _ rfl
        have r2 := K_5.out.cell 2 _ rfl
        have f0 := K_5.out.froz 0 _ rfl
        have f1 := K_5.out.froz 1 _ rfl
        have f2 := K_5.out.froz 2 _ rfl
        have hlr := K_5.out.lt
        go_wp2
        have TT := ((HB_5.out.setCell (p := ⟨w.heap.size, 0, none⟩) (Nat.le_refl _) (.bool false)).setCell (p := ⟨w.heap.size, 1, none⟩) (Nat.le_refl _) (.slice none 0 0)).setCell (p := ⟨w.heap.size, 2, none⟩) (Nat.le_refl _) (.slice none 0 0)
        refine bodyPost_ret (v := .tuple #[.agg #[.bool false, .slice none 0 0, .slice none 0 0], .bool false]) (by simp [results, Tryz.results4, go_sem, r0, r1, r2, hlr]) rfl ?_
        rw [E0.out, E1.out, E2.out, E3.out]
        exact ownRRP_zero (TT.alloc (Below.size TT) _)
    · rw [Bool.not_eq_true] at hok
      obtain ⟨PB, hpt⟩ : ∃ z, pOk B = z := ⟨_, rfl⟩
      have hno : rpOk s = false := by
        cases hq : rpOk s with
        | false => rfl
        | true =>
          exfalso
          obtain ⟨i1, i2, i3, i4⟩ := (same_all s).mpr hq
          rw [hH, hok] at i1
          exact absurd i1 (by decide)
      obtain ⟨e1, e2, e3⟩ := rp_no hno
      have E0 := Lib.hid hno
      have E1 := Lib.hid e1
      have E2 := Lib.hid e2
      have E3 := Lib.hid e3
      have HOK := Lib.hid hok
      have HS1 := Lib.hid hS1
      have HM := Lib.hid hM
      have HML := Lib.hid hml
      have HPT := Lib.hid hpt
      have HDE := Lib.hid hDE
      have HDL := Lib.hid hdl
      clear e1 e2 e3 hno hok hS1 hM hml hpt hDE hdl
      clear hH hdv hB
      go_enter Tryz.func4, Tryz.ntmps4
      go_wp2_with fail
      refine (splitAny_spec s ⟨#[47]⟩ _ hs (by show 1 ≤ _; omega)).mono ?_
      rintro e w1 ⟨v1, rfl, ho, hb⟩
      rw [HLEN.out] at ho
      obtain ⟨A, c, rfl⟩ := own_shape ho
      have hV := VRow.of_own ho
      obtain ⟨g, o, rfl, hg, hc⟩ := hV.2 (by omega)
      have c0 : w1.cell? ⟨g, o, none⟩ = some (.string H) := by have h := hc 0 (by omega); rw [List.getElem?_map, HC0.out] at h; exact h
      have HC1w := Lib.hid (show w1.cell? ⟨g, o + 1, none⟩ = some (.string B) by have h := hc 1 (by omega); rw [List.getElem?_map, HC1.out] at h; exact h)
      clear hV hc ho
      have HB_1 := Lib.hid (HB0.out.trans (hb.mono HB0.out.size))
      have K_1 := Lib.hid (K0.out.after hb)
      clear hb
      have L1 := Lib.hid K_1.out.lt
      go_wp2_with fail
      clear c0
      refine (parseBigInt_spec H _ (by unfold maxLen; omega)).mono ?_
      rintro e w2 ⟨v2, rfl, ho2, hb⟩
      rw [HS1.out, HOK.out]
      rw [HM.out] at ho2
      obtain ⟨A2, c2, hv⟩ := ho2.shape
      rw [nats_len, HML.out] at hv
      subst hv
      have O_n_0 := Lib.hid ho2
      clear ho2
      have c1 := (hb.cell (p := ⟨g, o + 1, none⟩) hg).trans HC1w.out
      have hg2 := Nat.lt_of_lt_of_le hg hb.size
      have hg3 : g < w2.heap.size + 1 := by omega
      have HB_2 := Lib.hid (HB_1.out.trans (hb.mono HB_1.out.size))
      have K_2 := Lib.hid (K_1.out.after hb)
      clear hb
      go_wp2_with fail
      have HB_3 := Lib.hid (HB_2.out.alloc HB_2.out.size (.cells #[.bool S1, .slice A2 m1 c2] 24))
      have K_3 := Lib.hid (K_2.out.alloc (.cells #[.bool S1, .slice A2 m1 c2] 24))
      have O_n_3 := Lib.hid (OwnV.below O_n_0.out ((Below.refl _ w2).alloc (Nat.le_refl _) (.cells #[.bool S1, .slice A2 m1 c2] 24)))
      have X_b_3 := Lib.hid (HeldL.new w2 [.bool S1, .slice A2 m1 c2] 24)
      have O_d_0 := Lib.hid (own_one_at (w2.alloc (.cells #[.bool S1, .slice A2 m1 c2] 24)) (w2.heap.size + 1) 3 (by simp))
      have AP0 := Lib.hid (OwnV.apart O_n_3.out O_d_0.out (by simp))
      have AP1 := Lib.hid (OwnV.apart' O_d_0.out O_n_3.out (by simp))
      have L2 := Lib.hid (show w.heap.size < w2.heap.size + 1 by have := K_3.out.lt; simpa using this)
      have HB_4 := Lib.hid (HB_3.out.alloc HB_3.out.size (.cells #[.int .i64 1] 3))
      have K_4 := Lib.hid (K_3.out.alloc (.cells #[.int .i64 1] 3))
      have O_n_4 := Lib.hid (OwnV.below O_n_3.out ((Below.refl _ (w2.alloc (.cells #[.bool S1, .slice A2 m1 c2] 24))).alloc (Nat.le_refl _) (.cells #[.int .i64 1] 3)))
      have X_b_4 := Lib.hid (X_b_3.out.alloc (.cells #[.int .i64 1] 3))
      clear c1 hg2 hg3 AP0 AP1 O_d_0
      have L3 := Lib.hid K_4.out.lt
      refine (parseNat_spec B _ (by unfold maxLen; omega)).mono ?_
      rintro e w3 ⟨v3, rfl, ho3, hb⟩
      rw [HPT.out]
      rw [HDE.out] at ho3
      obtain ⟨A4, c4, hv⟩ := ho3.shape
      rw [nats_len, HDL.out] at hv
      subst hv
      have O_d_1 := Lib.hid ho3
      have AP0 := Lib.hid (OwnV.apart O_n_4.out ho3 (Nat.le_refl _))
      have AP1 := Lib.hid (OwnV.apart' ho3 O_n_4.out (Nat.le_refl _))
      clear ho3
      have HB_5 := Lib.hid (HB_4.out.trans (hb.mono HB_4.out.size))
      have K_5 := Lib.hid (K_4.out.after hb)
      have O_n_5 := Lib.hid (OwnV.below O_n_4.out hb)
      have X_b_5 := Lib.hid (X_b_4.out.after hb)
      clear hb
      have b0 := X_b_5.out.cell 0 _ rfl
      have b1 := X_b_5.out.cell 1 _ rfl
      have r0 := K_5.out.cell 0 _ rfl
      have r1 := K_5.out.cell 1 _ rfl
      have r2 := K_5.out.cell 2 _ rfl
      have f0 := K_5.out.froz 0 _ rfl
      have f1 := K_5.out.froz 1 _ rfl
      have f2 := K_5.out.froz 2 _ rfl
      have hlr := K_5.out.lt
      go_wp2
      have TT := ((HB_5.out.setCell (p := ⟨w.heap.size, 0, none⟩) (Nat.le_refl _) (.bool false)).setCell (p := ⟨w.heap.size, 1, none⟩) (Nat.le_refl _) (.slice none 0 0)).setCell (p := ⟨w.heap.size, 2, none⟩) (Nat.le_refl _) (.slice none 0 0)
      refine bodyPost_ret (v := .tuple #[.agg #[.bool false, .slice none 0 0, .slice none 0 0], .bool false]) (by simp [results, Tryz.results4, go_sem, r0, r1, r2, hlr]) rfl ?_
      rw [E0.out, E1.out, E2.out, E3.out]
      exact ownRRP_zero (TT.alloc (Below.size TT) _)
  · have hdv : dvT s = false := by rw [hdm]; exact decide_eq_false h1m
    have hDS : dsT s = [1] := by simp [dsT, hdv]
    have hgt : ¬ ((1 : Int) < (m : Int)) := by omega
    clear hp1 hdm
    by_cases hok : bpOk H = true
    · by_cases hgz : G = ⟨#[]⟩
      · skip
        have hno : rpOk s = false := by
          cases hq : rpOk s with
          | false => rfl
          | true =>
            exfalso
            obtain ⟨i1, i2, i3, i4⟩ := (same_all s).mpr hq
            exact i3 (hG.trans hgz)
        obtain ⟨e1, e2, e3⟩ := rp_no hno
        have E0 := Lib.hid hno
        have E1 := Lib.hid e1
        have E2 := Lib.hid e2
        have E3 := Lib.hid e3
        have HOK := Lib.hid hok
        have HS1 := Lib.hid hS1
        have HM := Lib.hid hM
        have HML := Lib.hid hml
        have HF := Lib.hid (show fmtR S1 (toI M) (toI [1]) = G by rw [← hG]; unfold agT; rw [hH, hS1, hM, hDS])
        subst hgz
        clear e1 e2 e3 hno hok hS1 hM hml
        clear hG hDS
        clear hH hdv
        go_enter Tryz.func4, Tryz.ntmps4
        go_wp2_with fail
        refine (splitAny_spec s ⟨#[47]⟩ _ hs (by show 1 ≤ _; omega)).mono ?_
        rintro e w1 ⟨v1, rfl, ho, hb⟩
        rw [HLEN.out] at ho
        obtain ⟨A, c, rfl⟩ := own_shape ho
        have hV := VRow.of_own ho
        obtain ⟨g, o, rfl, hg, hc⟩ := hV.2 (by omega)
        have c0 : w1.cell? ⟨g, o, none⟩ = some (.string H) := by have h := hc 0 (by omega); rw [List.getElem?_map, HC0.out] at h; exact h
        clear hV hc ho
        have HB_1 := Lib.hid (HB0.out.trans (hb.mono HB0.out.size))
        have K_1 := Lib.hid (K0.out.after hb)
        clear hb
        have L1 := Lib.hid K_1.out.lt
        go_wp2_with fail
        clear c0
        refine (parseBigInt_spec H _ (by unfold maxLen; omega)).mono ?_
        rintro e w2 ⟨v2, rfl, ho2, hb⟩
        rw [HS1.out, HOK.out]
        rw [HM.out] at ho2
        obtain ⟨A2, c2, hv⟩ := ho2.shape
        rw [nats_len, HML.out] at hv
        subst hv
        have O_n_0 := Lib.hid ho2
        clear ho2
        have HB_2 := Lib.hid (HB_1.out.trans (hb.mono HB_1.out.size))
        have K_2 := Lib.hid (K_1.out.after hb)
        clear hb
        go_wp2_with fail
        have HB_3 := Lib.hid (HB_2.out.alloc HB_2.out.size (.cells #[.bool S1, .slice A2 m1 c2] 24))
        have K_3 := Lib.hid (K_2.out.alloc (.cells #[.bool S1, .slice A2 m1 c2] 24))
        have O_n_3 := Lib.hid (OwnV.below O_n_0.out ((Below.refl _ w2).alloc (Nat.le_refl _) (.cells #[.bool S1, .slice A2 m1 c2] 24)))
        have X_b_3 := Lib.hid (HeldL.new w2 [.bool S1, .slice A2 m1 c2] 24)
        have O_d_0 := Lib.hid (own_one_at (w2.alloc (.cells #[.bool S1, .slice A2 m1 c2] 24)) (w2.heap.size + 1) 3 (by simp))
        have AP0 := Lib.hid (OwnV.apart O_n_3.out O_d_0.out (by simp))
        have AP1 := Lib.hid (OwnV.apart' O_d_0.out O_n_3.out (by simp))
        have L2 := Lib.hid (show w.heap.size < w2.heap.size + 1 by have := K_3.out.lt; simpa using this)
        have HB_4 := Lib.hid (HB_3.out.alloc HB_3.out.size (.cells #[.int .i64 1] 3))
        have K_4 := Lib.hid (K_3.out.alloc (.cells #[.int .i64 1] 3))
        have O_n_4 := Lib.hid (OwnV.below O_n_3.out ((Below.refl _ (w2.alloc (.cells #[.bool S1, .slice A2 m1 c2] 24))).alloc (Nat.le_refl _) (.cells #[.int .i64 1] 3)))
        have X_b_4 := Lib.hid (X_b_3.out.alloc (.cells #[.int .i64 1] 3))
        have NEQ := Lib.hid (show w.heap.size ≠ w2.heap.size + 1 + 1 by have := L2.out; omega)
        have HB_5 := Lib.hid (HB_4.out.alloc HB_4.out.size (.cells #[.bool S1, .slice A2 m1 c2, .slice (some ⟨w2.heap.size + 1, 0, none⟩) 1 1] 26))
        have K_5 := Lib.hid (K_4.out.alloc (.cells #[.bool S1, .slice A2 m1 c2, .slice (some ⟨w2.heap.size + 1, 0, none⟩) 1 1] 26))
        have O_n_5 := Lib.hid (OwnV.below O_n_4.out ((Below.refl _ ((w2.alloc (.cells #[.bool S1, .slice A2 m1 c2] 24)).alloc (.cells #[.int .i64 1] 3))).alloc (Nat.le_refl _) (.cells #[.bool S1, .slice A2 m1 c2, .slice (some ⟨w2.heap.size + 1, 0, none⟩) 1 1] 26)))
        have O_d_5 := Lib.hid (OwnV.below O_d_0.out ((Below.refl _ ((w2.alloc (.cells #[.bool S1, .slice A2 m1 c2] 24)).alloc (.cells #[.int .i64 1] 3))).alloc (Nat.le_refl _) (.cells #[.bool S1, .slice A2 m1 c2, .slice (some ⟨w2.heap.size + 1, 0, none⟩) 1 1] 26)))
        have X_b_5 := Lib.hid (X_b_4.out.alloc (.cells #[.bool S1, .slice A2 m1 c2, .slice (some ⟨w2.heap.size + 1, 0, none⟩) 1 1] 26))
        have X_q_5 := Lib.hid (HeldL.new ((w2.alloc (.cells #[.bool S1, .slice A2 m1 c2] 24)).alloc (.cells #[.int .i64 1] 3)) [.bool S1, .slice A2 m1 c2, .slice (some ⟨w2.heap.size + 1, 0, none⟩) 1 1] 26)
        clear X_q_5
        have X_q_9 := Lib.hid (HeldL.new_at ((w2.alloc (.cells #[.bool S1, .slice A2 m1 c2] 24)).alloc (.cells #[.int .i64 1] 3)) (w2.heap.size + 1 + 1) [.bool S1, .slice A2 m1 c2, .slice (some ⟨w2.heap.size + 1, 0, none⟩) 1 1] 26 (by simp))
        refine (formatRat_spec S1 A2 m1 c2 (toI M) (some ⟨w2.heap.size + 1, 0, none⟩) 1 1 (toI [1]) _ O_n_5.out.arg O_d_5.out.arg).mono ?_
        rintro e w4 ⟨rfl, hb⟩
        rw [HF.out]
        have HB_6 := Lib.hid (HB_5.out.trans (hb.mono HB_5.out.size))
        have K_6 := Lib.hid (K_5.out.after hb)
        have O_n_6 := Lib.hid (OwnV.below O_n_5.out hb)
        have O_d_6 := Lib.hid (OwnV.below O_d_5.out hb)
        have X_b_6 := Lib.hid (X_b_5.out.after hb)
        have X_q_6 := Lib.hid (X_q_9.out.after hb)
        clear hb
        have r0 := K_6.out.cell 0 _ rfl
        have r1 := K_6.out.cell 1 _ rfl
        have r2 := K_6.out.cell 2 _ rfl
        have f0 := K_6.out.froz 0 _ rfl
        have f1 := K_6.out.froz 1 _ rfl
        have f2 := K_6.out.froz 2 _ rfl
        go_wp2
        have TT := ((HB_6.out.setCell (p := ⟨w.heap.size, 0, none⟩) (Nat.le_refl _) (.bool false)).setCell (p := ⟨w.heap.size, 1, none⟩) (Nat.le_refl _) (.slice none 0 0)).setCell (p := ⟨w.heap.size, 2, none⟩) (Nat.le_refl _) (.slice none 0 0)
        refine bodyPost_ret (v := .tuple #[.agg #[.bool false, .slice none 0 0, .slice none 0 0], .bool false]) (by simp [results, Tryz.results4, go_sem, r0, r1, r2]) rfl ?_
        rw [E0.out, E1.out, E2.out, E3.out]
        exact ownRRP_zero TT
      · by_cases hgs : G = s
        · skip
          have hye : rpOk s = true := (same_all s).mp ⟨by rw [hH]; exact hok, by simp [fineT, hdv], by rw [hG]; exact hgz, hG.trans hgs⟩
          obtain ⟨e1, e2, e3⟩ := rp_yes hye
          rw [hH] at e1 e2
          rw [hS1] at e1
          rw [hM] at e2
          rw [← den_same hye, hDS] at e3
          have E0 := Lib.hid hye
          have E1 := Lib.hid e1
          have E2 := Lib.hid e2
          have E3 := Lib.hid e3
          have HOK := Lib.hid hok
          have HS1 := Lib.hid hS1
          have HM := Lib.hid hM
          have HML := Lib.hid hml
          have HF := Lib.hid (show fmtR S1 (toI M) (toI [1]) = G by rw [← hG]; unfold agT; rw [hH, hS1, hM, hDS])
          have n1 := (str_ne G ⟨#[]⟩ hgz).1
          have n2 := (str_ne G ⟨#[]⟩ hgz).2
          have n3 := toList_ne2 hgz
          rw [ByteArray.toList_eq ⟨#[]⟩] at n1 n2
          have n4 : (G.toList == []) = false := n1
          have n5 : (G.toList != []) = true := n2
          clear n1 n2
          clear e1 e2 e3 hye hok hS1 hM hml
          clear hG hDS
          clear hgz
          obtain rfl : s = G := hgs.symm
          clear hH hdv
          go_enter Tryz.func4, Tryz.ntmps4
          go_wp2_with fail
          refine (splitAny_spec s ⟨#[47]⟩ _ hs (by show 1 ≤ _; omega)).mono ?_
          rintro e w1 ⟨v1, rfl, ho, hb⟩
          rw [HLEN.out] at ho
          obtain ⟨A, c, rfl⟩ := own_shape ho
          have hV := VRow.of_own ho
          obtain ⟨g, o, rfl, hg, hc⟩ := hV.2 (by omega)
          have c0 : w1.cell? ⟨g, o, none⟩ = some (.string H) := by have h := hc 0 (by omega); rw [List.getElem?_map, HC0.out] at h; exact h
          clear hV hc ho
          have HB_1 := Lib.hid (HB0.out.trans (hb.mono HB0.out.size))
          have K_1 := Lib.hid (K0.out.after hb)
          clear hb
          have L1 := Lib.hid K_1.out.lt
          go_wp2_with fail
          clear c0
          refine (parseBigInt_spec H _ (by unfold maxLen; omega)).mono ?_
          rintro e w2 ⟨v2, rfl, ho2, hb⟩
          rw [HS1.out, HOK.out]
          rw [HM.out] at ho2
          obtain ⟨A2, c2, hv⟩ := ho2.shape
          rw [nats_len, HML.out] at hv
          subst hv
          have O_n_0 := Lib.hid ho2
          clear ho2
          have HB_2 := Lib.hid (HB_1.out.trans (hb.mono HB_1.out.size))
          have K_2 := Lib.hid (K_1.out.after hb)
          clear hb
          go_wp2_with fail
          have HB_3 := Lib.hid (HB_2.out.alloc HB_2.out.size (.cells #[.bool S1, .slice A2 m1 c2] 24))
          have K_3 := Lib.hid (K_2.out.alloc (.cells #[.bool S1, .slice A2 m1 c2] 24))
          have O_n_3 := Lib.hid (OwnV.below O_n_0.out ((Below.refl _ w2).alloc (Nat.le_refl _) (.cells #[.bool S1, .slice A2 m1 c2] 24)))
          have X_b_3 := Lib.hid (HeldL.new w2 [.bool S1, .slice A2 m1 c2] 24)
          have O_d_0 := Lib.hid (own_one_at (w2.alloc (.cells #[.bool S1, .slice A2 m1 c2] 24)) (w2.heap.size + 1) 3 (by simp))
          have AP0 := Lib.hid (OwnV.apart O_n_3.out O_d_0.out (by simp))
          have AP1 := Lib.hid (OwnV.apart' O_d_0.out O_n_3.out (by simp))
          have L2 := Lib.hid (show w.heap.size < w2.heap.size + 1 by have := K_3.out.lt; simpa using this)
          have HB_4 := Lib.hid (HB_3.out.alloc HB_3.out.size (.cells #[.int .i64 1] 3))
          have K_4 := Lib.hid (K_3.out.alloc (.cells #[.int .i64 1] 3))
          have O_n_4 := Lib.hid (OwnV.below O_n_3.out ((Below.refl _ (w2.alloc (.cells #[.bool S1, .slice A2 m1 c2] 24))).alloc (Nat.le_refl _) (.cells #[.int .i64 1] 3)))
          have X_b_4 := Lib.hid (X_b_3.out.alloc (.cells #[.int .i64 1] 3))
          have NEQ := Lib.hid (show w.heap.size ≠ w2.heap.size + 1 + 1 by have := L2.out; omega)
          have HB_5 := Lib.hid (HB_4.out.alloc HB_4.out.size (.cells #[.bool S1, .slice A2 m1 c2, .slice (some ⟨w2.heap.size + 1, 0, none⟩) 1 1] 26))
          have K_5 := Lib.hid (K_4.out.alloc (.cells #[.bool S1, .slice A2 m1 c2, .slice (some ⟨w2.heap.size + 1, 0, none⟩) 1 1] 26))
          have O_n_5 := Lib.hid (OwnV.below O_n_4.out ((Below.refl _ ((w2.alloc (.cells #[.bool S1, .slice A2 m1 c2] 24)).alloc (.cells #[.int .i64 1] 3))).alloc (Nat.le_refl _) (.cells #[.bool S1, .slice A2 m1 c2, .slice (some ⟨w2.heap.size + 1, 0, none⟩) 1 1] 26)))
          have O_d_5 := Lib.hid (OwnV.below O_d_0.out ((Below.refl _ ((w2.alloc (.cells #[.bool S1, .slice A2 m1 c2] 24)).alloc (.cells #[.int .i64 1] 3))).alloc (Nat.le_refl _) (.cells #[.bool S1, .slice A2 m1 c2, .slice (some ⟨w2.heap.size + 1, 0, none⟩) 1 1] 26)))
          have X_b_5 := Lib.hid (X_b_4.out.alloc (.cells #[.bool S1, .slice A2 m1 c2, .slice (some ⟨w2.heap.size + 1, 0, none⟩) 1 1] 26))
          have X_q_5 := Lib.hid (HeldL.new ((w2.alloc (.cells #[.bool S1, .slice A2 m1 c2] 24)).alloc (.cells #[.int .i64 1] 3)) [.bool S1, .slice A2 m1 c2, .slice (some ⟨w2.heap.size + 1, 0, none⟩) 1 1] 26)
          clear X_q_5
          have X_q_9 := Lib.hid (HeldL.new_at ((w2.alloc (.cells #[.bool S1, .slice A2 m1 c2] 24)).alloc (.cells #[.int .i64 1] 3)) (w2.heap.size + 1 + 1) [.bool S1, .slice A2 m1 c2, .slice (some ⟨w2.heap.size + 1, 0, none⟩) 1 1] 26 (by simp))
          refine (formatRat_spec S1 A2 m1 c2 (toI M) (some ⟨w2.heap.size + 1, 0, none⟩) 1 1 (toI [1]) _ O_n_5.out.arg O_d_5.out.arg).mono ?_
          rintro e w4 ⟨rfl, hb⟩
          rw [HF.out]
          have HB_6 := Lib.hid (HB_5.out.trans (hb.mono HB_5.out.size))
          have K_6 := Lib.hid (K_5.out.after hb)
          have O_n_6 := Lib.hid (OwnV.below O_n_5.out hb)
          have O_d_6 := Lib.hid (OwnV.below O_d_5.out hb)
          have X_b_6 := Lib.hid (X_b_5.out.after hb)
          have X_q_6 := Lib.hid (X_q_9.out.after hb)
          clear hb
          have q0 := X_q_6.out.cell 0 _ rfl
          have q1 := X_q_6.out.cell 1 _ rfl
          have q2 := X_q_6.out.cell 2 _ rfl
          go_wp2_with fail
          clear q0 q1 q2
          refine (formatRat_spec S1 A2 m1 c2 (toI M) (some ⟨w2.heap.size + 1, 0, none⟩) 1 1 (toI [1]) _ O_n_6.out.arg O_d_6.out.arg).mono ?_
          rintro e w5 ⟨rfl, hb⟩
          rw [HF.out]
          have HB_7 := Lib.hid (HB_6.out.trans (hb.mono HB_6.out.size))
          have K_7 := Lib.hid (K_6.out.after hb)
          have O_n_7 := Lib.hid (OwnV.below O_n_6.out hb)
          have O_d_7 := Lib.hid (OwnV.below O_d_6.out hb)
          have X_b_7 := Lib.hid (X_b_6.out.after hb)
          have X_q_7 := Lib.hid (X_q_6.out.after hb)
          clear hb
          have r0 := K_7.out.cell 0 _ rfl
          have r1 := K_7.out.cell 1 _ rfl
          have r2 := K_7.out.cell 2 _ rfl
          have f0 := K_7.out.froz 0 _ rfl
          have f1 := K_7.out.froz 1 _ rfl
          have f2 := K_7.out.froz 2 _ rfl
          have q0 := X_q_7.out.cell 0 _ rfl
          have q1 := X_q_7.out.cell 1 _ rfl
          have q2 := X_q_7.out.cell 2 _ rfl
          have hne := NEQ.out
          have hnf := NEQ.out.symm
          go_wp2
          refine bodyPost_ret (v := .tuple #[.agg #[.bool S1, .slice A2 m1 c2, .slice (some ⟨w2.heap.size + 1, 0, none⟩) 1 1], .bool true]) (by simp [results, Tryz.results4, go_sem, r0, r1, r2]) rfl ?_
          rw [E0.out, E1.out, E2.out, E3.out]
          exact ownRRP_close HB_7.out O_n_7.out O_d_7.out L1.out L2.out (Nat.le_refl _) AP0.out AP1.out
        · skip
          have hno : rpOk s = false := by
            cases hq : rpOk s with
            | false => rfl
            | true =>
              exfalso
              obtain ⟨i1, i2, i3, i4⟩ := (same_all s).mpr hq
              exact hgs (hG.symm.trans i4)
          obtain ⟨e1, e2, e3⟩ := rp_no hno
          have E0 := Lib.hid hno
          have E1 := Lib.hid e1
          have E2 := Lib.hid e2
          have E3 := Lib.hid e3
          have HOK := Lib.hid hok
          have HS1 := Lib.hid hS1
          have HM := Lib.hid hM
          have HML := Lib.hid hml
          have HF := Lib.hid (show fmtR S1 (toI M) (toI [1]) = G by rw [← hG]; unfold agT; rw [hH, hS1, hM, hDS])
          have n1 := (str_ne G ⟨#[]⟩ hgz).1
          have n2 := (str_ne G ⟨#[]⟩ hgz).2
          have n3 := toList_ne2 hgz
          rw [ByteArray.toList_eq ⟨#[]⟩] at n1 n2
          have n4 : (G.toList == []) = false := n1
          have n5 : (G.toList != []) = true := n2
          clear n1 n2
          obtain ⟨k1, k2⟩ := str_ne G s hgs
          clear e1 e2 e3 hno hok hS1 hM hml
          clear hG hDS
          clear hgz hgs
          clear hH hdv
          go_enter Tryz.func4, Tryz.ntmps4
          go_wp2_with fail
          refine (splitAny_spec s ⟨#[47]⟩ _ hs (by show 1 ≤ _; omega)).mono ?_
          rintro e w1 ⟨v1, rfl, ho, hb⟩
          rw [HLEN.out] at ho
          obtain ⟨A, c, rfl⟩ := own_shape ho
          have hV := VRow.of_own ho
          obtain ⟨g, o, rfl, hg, hc⟩ := hV.2 (by omega)
          have c0 : w1.cell? ⟨g, o, none⟩ = some (.string H) := by have h := hc 0 (by omega); rw [List.getElem?_map, HC0.out] at h; exact h
          clear hV hc ho
          have HB_1 := Lib.hid (HB0.out.trans (hb.mono HB0.out.size))
          have K_1 := Lib.hid (K0.out.after hb)
          clear hb
          have L1 := Lib.hid K_1.out.lt
          go_wp2_with fail
          clear c0
          refine (parseBigInt_spec H _ (by unfold maxLen; omega)).mono ?_
          rintro e w2 ⟨v2, rfl, ho2, hb⟩
          rw [HS1.out, HOK.out]
          rw [HM.out] at ho2
          obtain ⟨A2, c2, hv⟩ := ho2.shape
          rw [nats_len, HML.out] at hv
          subst hv
          have O_n_0 := Lib.hid ho2
          clear ho2
          have HB_2 := Lib.hid (HB_1.out.trans (hb.mono HB_1.out.size))
          have K_2 := Lib.hid (K_1.out.after hb)
          clear hb
          go_wp2_with fail
          have HB_3 := Lib.hid (HB_2.out.alloc HB_2.out.size (.cells #[.bool S1, .slice A2 m1 c2] 24))
          have K_3 := Lib.hid (K_2.out.alloc (.cells #[.bool S1, .slice A2 m1 c2] 24))
          have O_n_3 := Lib.hid (OwnV.below O_n_0.out ((Below.refl _ w2).alloc (Nat.le_refl _) (.cells #[.bool S1, .slice A2 m1 c2] 24)))
          have X_b_3 := Lib.hid (HeldL.new w2 [.bool S1, .slice A2 m1 c2] 24)
          have O_d_0 := Lib.hid (own_one_at (w2.alloc (.cells #[.bool S1, .slice A2 m1 c2] 24)) (w2.heap.size + 1) 3 (by simp))
          have AP0 := Lib.hid (OwnV.apart O_n_3.out O_d_0.out (by simp))
          have AP1 := Lib.hid (OwnV.apart' O_d_0.out O_n_3.out (by simp))
          have L2 := Lib.hid (show w.heap.size < w2.heap.size + 1 by have := K_3.out.lt; simpa using this)
          have HB_4 := Lib.hid (HB_3.out.alloc HB_3.out.size (.cells #[.int .i64 1] 3))
          have K_4 := Lib.hid (K_3.out.alloc (.cells #[.int .i64 1] 3))
          have O_n_4 := Lib.hid (OwnV.below O_n_3.out ((Below.refl _ (w2.alloc (.cells #[.bool S1, .slice A2 m1 c2] 24))).alloc (Nat.le_refl _) (.cells #[.int .i64 1] 3)))
          have X_b_4 := Lib.hid (X_b_3.out.alloc (.cells #[.int .i64 1] 3))
          have NEQ := Lib.hid (show w.heap.size ≠ w2.heap.size + 1 + 1 by have := L2.out; omega)
          have HB_5 := Lib.hid (HB_4.out.alloc HB_4.out.size (.cells #[.bool S1, .slice A2 m1 c2, .slice (some ⟨w2.heap.size + 1, 0, none⟩) 1 1] 26))
          have K_5 := Lib.hid (K_4.out.alloc (.cells #[.bool S1, .slice A2 m1 c2, .slice (some ⟨w2.heap.size + 1, 0, none⟩) 1 1] 26))
          have O_n_5 := Lib.hid (OwnV.below O_n_4.out ((Below.refl _ ((w2.alloc (.cells #[.bool S1, .slice A2 m1 c2] 24)).alloc (.cells #[.int .i64 1] 3))).alloc (Nat.le_refl _) (.cells #[.bool S1, .slice A2 m1 c2, .slice (some ⟨w2.heap.size + 1, 0, none⟩) 1 1] 26)))
          have O_d_5 := Lib.hid (OwnV.below O_d_0.out ((Below.refl _ ((w2.alloc (.cells #[.bool S1, .slice A2 m1 c2] 24)).alloc (.cells #[.int .i64 1] 3))).alloc (Nat.le_refl _) (.cells #[.bool S1, .slice A2 m1 c2, .slice (some ⟨w2.heap.size + 1, 0, none⟩) 1 1] 26)))
          have X_b_5 := Lib.hid (X_b_4.out.alloc (.cells #[.bool S1, .slice A2 m1 c2, .slice (some ⟨w2.heap.size + 1, 0, none⟩) 1 1] 26))
          have X_q_5 := Lib.hid (HeldL.new ((w2.alloc (.cells #[.bool S1, .slice A2 m1 c2] 24)).alloc (.cells #[.int .i64 1] 3)) [.bool S1, .slice A2 m1 c2, .slice (some ⟨w2.heap.size + 1, 0, none⟩) 1 1] 26)
          clear X_q_5
          have X_q_9 := Lib.hid (HeldL.new_at ((w2.alloc (.cells #[.bool S1, .slice A2 m1 c2] 24)).alloc (.cells #[.int .i64 1] 3)) (w2.heap.size + 1 + 1) [.bool S1, .slice A2 m1 c2, .slice (some ⟨w2.heap.size + 1, 0, none⟩) 1 1] 26 (by simp))
          refine (formatRat_spec S1 A2 m1 c2 (toI M) (some ⟨w2.heap.size + 1, 0, none⟩) 1 1 (toI [1]) _ O_n_5.out.arg O_d_5.out.arg).mono ?_
          rintro e w4 ⟨rfl, hb⟩
          rw [HF.out]
          have HB_6 := Lib.hid (HB_5.out.trans (hb.mono HB_5.out.size))
          have K_6 := Lib.hid (K_5.out.after hb)
          have O_n_6 := Lib.hid (OwnV.below O_n_5.out hb)
          have O_d_6 := Lib.hid (OwnV.below O_d_5.out hb)
          have X_b_6 := Lib.hid (X_b_5.out.after hb)
          have X_q_6 := Lib.hid (X_q_9.out.after hb)
          clear hb
          have q0 := X_q_6.out.cell 0 _ rfl
          have q1 := X_q_6.out.cell 1 _ rfl
          have q2 := X_q_6.out.cell 2 _ rfl
          go_wp2_with fail
          clear q0 q1 q2
          refine (formatRat_spec S1 A2 m1 c2 (toI M) (some ⟨w2.heap.size + 1, 0, none⟩) 1 1 (toI [1]) _ O_n_6.out.arg O_d_6.out.arg).mono ?_
          rintro e w5 ⟨rfl, hb⟩
          rw [HF.out]
          have HB_7 := Lib.hid (HB_6.out.trans (hb.mono HB_6.out.size))
          have K_7 := Lib.hid (K_6.out.after hb)
          have O_n_7 := Lib.hid (OwnV.below O_n_6.out hb)
          have O_d_7 := Lib.hid (OwnV.below O_d_6.out hb)
          have X_b_7 := Lib.hid (X_b_6.out.after hb)
          have X_q_7 := Lib.hid (X_q_6.out.after hb)
          clear hb
          have r0 := K_7.out.cell 0 _ rfl
          have r1 := K_7.out.cell 1 _ rfl
          have r2 := K_7.out.cell 2 _ rfl
          have f0 := K_7.out.froz 0 _ rfl
          have f1 := K_7.out.froz 1 _ rfl
          have f2 := K_7.out.froz 2 _ rfl
          go_wp2
          have TT := ((HB_7.out.setCell (p := ⟨w.heap.size, 0, none⟩) (Nat.le_refl _) (.bool false)).setCell (p := ⟨w.heap.size, 1, none⟩) (Nat.le_refl _) (.slice none 0 0)).setCell (p := ⟨w.heap.size, 2, none⟩) (Nat.le_refl _) (.slice none 0 0)
          refine bodyPost_ret (v := .tuple #[.agg #[.bool false, .slice none 0 0, .slice none 0 0], .bool false]) (by simp [results, Tryz.results4, go_sem, r0, r1, r2]) rfl ?_
          rw [E0.out, E1.out, E2.out, E3.out]
          exact ownRRP_zero TT
    · rw [Bool.not_eq_true] at hok
      have hno : rpOk s = false := by
        cases hq : rpOk s with
        | false => rfl
        | true =>
          exfalso
          obtain ⟨i1, i2, i3, i4⟩ := (same_all s).mpr hq
          rw [hH, hok] at i1
          exact absurd i1 (by decide)
      obtain ⟨e1, e2, e3⟩ := rp_no hno
      have E0 := Lib.hid hno
      have E1 := Lib.hid e1
      have E2 := Lib.hid e2
      have E3 := Lib.hid e3
      have HOK := Lib.hid hok
      have HS1 := Lib.hid hS1
      have HM := Lib.hid hM
      have HML := Lib.hid hml
      clear e1 e2 e3 hno hok hS1 hM hml
      clear hH hdv
      go_enter Tryz.func4, Tryz.ntmps4
      go_wp2_with fail
      refine (splitAny_spec s ⟨#[47]⟩ _ hs (by show 1 ≤ _; omega)).mono ?_
      rintro e w1 ⟨v1, rfl, ho, hb⟩
      rw [HLEN.out] at ho
      obtain ⟨A, c, rfl⟩ := own_shape ho
      have hV := VRow.of_own ho
      obtain ⟨g, o, rfl, hg, hc⟩ := hV.2 (by omega)
      have c0 : w1.cell? ⟨g, o, none⟩ = some (.string H) := by have h := hc 0 (by omega); rw [List.getElem?_map, HC0.out] at h; exact h
      clear hV hc ho
      have HB_1 := Lib.hid (HB0.out.trans (hb.mono HB0.out.size))
      have K_1 := Lib.hid (K0.out.after hb)
      clear hb
      have L1 := Lib.hid K_1.out.lt
      go_wp2_with fail
      clear c0
      refine (parseBigInt_spec H _ (by unfold maxLen; omega)).mono ?_
      rintro e w2 ⟨v2, rfl, ho2, hb⟩
      rw [HS1.out, HOK.out]
      rw [HM.out] at ho2
      obtain ⟨A2, c2, hv⟩ := ho2.shape
      rw [nats_len, HML.out] at hv
      subst hv
      have O_n_0 := Lib.hid ho2
      clear ho2
      have HB_2 := Lib.hid (HB_1.out.trans (hb.mono HB_1.out.size))
      have K_2 := Lib.hid (K_1.out.after hb)
      clear hb
      have r0 := K_2.out.cell 0 _ rfl
      have r1 := K_2.out.cell 1 _ rfl
      have r2 := K_2.out.cell 2 _ rfl
      have f0 := K_2.out.froz 0 _ rfl
      have f1 := K_2.out.froz 1 _ rfl
      have f2 := K_2.out.froz 2 _ rfl
      have hlr := K_2.out.lt
      have hlr2 : w.heap.size < w2.heap.size + 1 := by omega
      have hlr3 : w.heap.size < w2.heap.size + 1 + 1 := by omega
      go_wp2
      have TT := ((HB_2.out.setCell (p := ⟨w.heap.size, 0, none⟩) (Nat.le_refl _) (.bool false)).setCell (p := ⟨w.heap.size, 1, none⟩) (Nat.le_refl _) (.slice none 0 0)).setCell (p := ⟨w.heap.size, 2, none⟩) (Nat.le_refl _) (.slice none 0 0)
      refine bodyPost_ret (v := .tuple #[.agg #[.bool false, .slice none 0 0, .slice none 0 0], .bool false]) (by simp [results, Tryz.results4, go_sem, r0, r1, r2, hlr, hlr2, hlr3]) rfl ?_
      rw [E0.out, E1.out, E2.out, E3.out]
      exact ownRRP_zero (((TT.alloc (Below.size TT) _).alloc (Below.size (TT.alloc (Below.size TT) _)) _).alloc (Below.size ((TT.alloc (Below.size TT) _).alloc (Below.size (TT.alloc (Below.size TT) _)) _)) _)
end Go.Proofs.YtdilgjakodimbaaGreatDoor
namespace Go.Proofs.YtdilgjakodimbaaGreatDoor
open Go.ChangeShapes Go.WideShapes Go.ChangeAt Go.RowKit
set_option linter.unusedVariables false
theorem tPow : (Tryz.prog.globals[5]?).map (·.type) = some 119 := by kernel_rfl
theorem star : "*errors.errorString" = "*" ++ "errors.errorString" := by decide
theorem rowErr (u : TypeId) (h : Tryz.prog.typeName? 3 u = some "*errors.errorString") : u = 109 :=
  typeName_ptr_named (nm := "errors.errorString") (by rw [← star]; kernel_rfl) (by kernel_rfl) (by decide) u (by rw [← star]; exact h)
theorem tSyn : (Tryz.prog.globals[1]?).map (·.type) = some 56 := by kernel_rfl
theorem tRan : (Tryz.prog.globals[2]?).map (·.type) = some 56 := by kernel_rfl

theorem laid3_rat {W : World} (h : laidMetH Tryz.prog Rows.fnExactParseRatRow.laid W) : Laid3 W := by
  rw [MakeChecks.laidMetH_plain _ _ _ (by kernel_rfl)] at h
  have h2 : laidMet Tryz.prog [("internal/strconv.uint64pow10", Lib.tabData .u64 Lib.pow10Tab), ("strconv.ErrRange", Rows.laid_strconv_ErrRange), ("strconv.ErrSyntax", Rows.laid_strconv_ErrSyntax)] W := h.tail.tail
  have h3 := h2.tail
  have h4 := h3.tail
  refine ⟨Lib.tabIs_of_head gPow tPow Tryz.underlying119 Tryz.underlying97 (by kernel_rfl) (by kernel_rfl) h2, ?_, ?_⟩
  · obtain ⟨a, s, hv, _⟩ := laid_sentinel h4 gSyn tSyn Tryz.underlying56 rowErr Tryz.underlying109 Tryz.underlying111 rfl rfl Tryz.underlying9 (by kernel_rfl) (by kernel_rfl)
    exact ⟨_, _, hv⟩
  · obtain ⟨a, s, hv, _⟩ := laid_sentinel h3 gRan tRan Tryz.underlying56 rowErr Tryz.underlying109 Tryz.underlying111 rfl rfl Tryz.underlying9 (by kernel_rfl) (by kernel_rfl)
    exact ⟨_, _, hv⟩
end Go.Proofs.YtdilgjakodimbaaGreatDoor
namespace Go.Proofs.YtdilgjakodimbaaGreatDoor.lawParseRat
open Go.ChangeShapes Go.WideShapes Go.ChangeAt Go.RowKit
open Go.ChangeMaps (open_string shut_string)
set_option linter.unusedVariables false

theorem own : ownKnob Tryz.prog.godebug = none := by kernel_rfl
theorem laidOut : laidOutB Tryz.prog = true := by kernel_rfl
open Nt

set_option maxRecDepth 100000 in
set_option maxHeartbeats 4000000 in
theorem walk (W : World) (hlaid : Laid3 W) (a0 : ByteArray) (w0 : a0.size ≤ maxLen) :
    Calls Tryz.prog 3 #[.string a0] W fun e w' => e = .returned (.bool true) ∧ Below W.heap.size W w' := by
  have HLD := Lib.hid hlaid
  clear hlaid
  unfold maxLen at w0
  by_cases hs0 : 1048576 < a0.size
  · go_enter Tryz.func3, Tryz.ntmps3
    go_wp2
    go_ret
    exact ⟨rfl, Below.refl _ _⟩
  obtain ⟨RS0, hRS0⟩ : ∃ b : Bool, rpS a0 = b := ⟨_, rfl⟩
  have HS0 := Lib.hid hRS0
  clear hRS0
  obtain ⟨R0, hR0⟩ : ∃ R : List Int, nats (rpN a0) = ints R := ⟨_, rfl⟩
  have hN0 : R0.length ≤ 1048576 := by have h : (nats (rpN a0)).length ≤ 1048576 := (by rw [nats_len]; exact Nat.le_trans (rpN_len _) (by omega)); rw [hR0, ints_len] at h; exact h
  obtain ⟨n0, hn0⟩ : ∃ n, R0.length = n := ⟨_, rfl⟩
  rw [hn0] at hN0
  have HN0 := Lib.hid (show (ints R0).length = n0 by rw [ints_len]; exact hn0)
  have HR0 := Lib.hid hR0
  clear hR0 hn0
  obtain ⟨R0b, hR0b⟩ : ∃ R : List Int, nats (rpD a0) = ints R := ⟨_, rfl⟩
  have hN0b : R0b.length ≤ 1048576 := by have h : (nats (rpD a0)).length ≤ 1048576 := (by rw [nats_len]; exact Nat.le_trans (rpD_len _) (by omega)); rw [hR0b, ints_len] at h; exact h
  obtain ⟨n0b, hn0b⟩ : ∃ n, R0b.length = n := ⟨_, rfl⟩
  rw [hn0b] at hN0b
  have HN0b := Lib.hid (show (ints R0b).length = n0b by rw [ints_len]; exact hn0b)
  have HR0b := Lib.hid hR0b
  clear hR0b hn0b
  have HB_0 := Lib.hid (Below.refl W.heap.size W)
  go_enter Tryz.func3, Tryz.ntmps3
  go_wp2_with fail
  refine (parseRat_spec a0 _ (by omega)).mono ?_
  rintro e w1 ⟨v_w0, v_w0b, rfl, ho_w0, ho_w0b, ap01, ap10, hb⟩
  rw [HS0.out]
  rw [HR0.out] at ho_w0
  obtain ⟨A_w0, c_w0, hv⟩ := ho_w0.shape
  rw [HN0.out] at hv
  subst hv
  rw [HR0b.out] at ho_w0b
  obtain ⟨A_w0b, c_w0b, hv⟩ := ho_w0b.shape
  rw [HN0b.out] at hv
  subst hv
  have AP_w0_w0b := Lib.hid ap01
  clear ap01
  have AP_w0b_w0 := Lib.hid ap10
  clear ap10
  have H_w0_0 := Lib.hid (ho_w0.based HB_0.out.size)
  clear ho_w0
  have H_w0b_0 := Lib.hid (ho_w0b.based HB_0.out.size)
  clear ho_w0b
  have HB_1 := Lib.hid (HB_0.out.trans (hb.mono HB_0.out.size))
  clear hb HB_0
  have K_w0_2 := Lib.hid (HeldL.new w1 [.bool RS0, .slice A_w0 n0 c_w0, .slice A_w0b n0b c_w0b] 26)
  have H_w0_2 := Lib.hid (OwnV.below H_w0_0.out ((Below.refl _ w1).alloc (Nat.le_refl _) (.cells #[.bool RS0, .slice A_w0 n0 c_w0, .slice A_w0b n0b c_w0b] 26)))
  clear H_w0_0
  have H_w0b_2 := Lib.hid (OwnV.below H_w0b_0.out ((Below.refl _ w1).alloc (Nat.le_refl _) (.cells #[.bool RS0, .slice A_w0 n0 c_w0, .slice A_w0b n0b c_w0b] 26)))
  clear H_w0b_0
  have HB_2 := Lib.hid (HB_1.out.alloc HB_1.out.size (.cells #[.bool RS0, .slice A_w0 n0 c_w0, .slice A_w0b n0b c_w0b] 26))
  clear HB_1
  go_wp2_with fail
  refine (parseRat_impl a0 _ (by omega)).mono ?_
  rintro e w2 ⟨v_g0, v_g0b, rfl, ho_g0, ho_g0b, ap01, ap10, hb⟩
  rw [HS0.out]
  rw [HR0.out] at ho_g0
  obtain ⟨A_g0, c_g0, hv⟩ := ho_g0.shape
  rw [HN0.out] at hv
  subst hv
  rw [HR0b.out] at ho_g0b
  obtain ⟨A_g0b, c_g0b, hv⟩ := ho_g0b.shape
  rw [HN0b.out] at hv
  subst hv
  have AP_g0_g0b := Lib.hid ap01
  clear ap01
  have AP_g0b_g0 := Lib.hid ap10
  clear ap10
  have AP_w0_g0 := Lib.hid (OwnV.apart H_w0_2.out ho_g0 (Nat.le_refl _))
  have AP_g0_w0 := Lib.hid (OwnV.apart' ho_g0 H_w0_2.out (Nat.le_refl _))
  have AP_w0b_g0 := Lib.hid (OwnV.apart H_w0b_2.out ho_g0 (Nat.le_refl _))
  have AP_g0_w0b := Lib.hid (OwnV.apart' ho_g0 H_w0b_2.out (Nat.le_refl _))
  have BN_w0_g0 := Lib.hid (OwnV.bn ho_g0 K_w0_2.out.lt)
  have H_g0_0 := Lib.hid (ho_g0.based HB_2.out.size)
  clear ho_g0
  have AP_w0_g0b := Lib.hid (OwnV.apart H_w0_2.out ho_g0b (Nat.le_refl _))
  have AP_g0b_w0 := Lib.hid (OwnV.apart' ho_g0b H_w0_2.out (Nat.le_refl _))
  have AP_w0b_g0b := Lib.hid (OwnV.apart H_w0b_2.out ho_g0b (Nat.le_refl _))
  have AP_g0b_w0b := Lib.hid (OwnV.apart' ho_g0b H_w0b_2.out (Nat.le_refl _))
  have BN_w0_g0b := Lib.hid (OwnV.bn ho_g0b K_w0_2.out.lt)
  have H_g0b_0 := Lib.hid (ho_g0b.based HB_2.out.size)
  clear ho_g0b
  have K_w0_3 := Lib.hid (K_w0_2.out.after hb)
  clear K_w0_2
  have H_w0_3 := Lib.hid (OwnV.below (w := (w1.alloc (.cells #[.bool RS0, .slice A_w0 n0 c_w0, .slice A_w0b n0b c_w0b] 26))) H_w0_2.out hb)
  clear H_w0_2
  have H_w0b_3 := Lib.hid (OwnV.below (w := (w1.alloc (.cells #[.bool RS0, .slice A_w0 n0 c_w0, .slice A_w0b n0b c_w0b] 26))) H_w0b_2.out hb)
  clear H_w0b_2
  have HB_3 := Lib.hid (HB_2.out.trans (hb.mono HB_2.out.size))
  clear hb HB_2
  have K_w0_4 := Lib.hid (K_w0_3.out.alloc (.cells #[.bool RS0, .slice A_g0 n0 c_g0, .slice A_g0b n0b c_g0b] 26))
  clear K_w0_3
  have K_g0_4 := Lib.hid (HeldL.new w2 [.bool RS0, .slice A_g0 n0 c_g0, .slice A_g0b n0b c_g0b] 26)
  have H_w0_4 := Lib.hid (OwnV.below H_w0_3.out ((Below.refl _ w2).alloc (Nat.le_refl _) (.cells #[.bool RS0, .slice A_g0 n0 c_g0, .slice A_g0b n0b c_g0b] 26)))
  clear H_w0_3
  have H_w0b_4 := Lib.hid (OwnV.below H_w0b_3.out ((Below.refl _ w2).alloc (Nat.le_refl _) (.cells #[.bool RS0, .slice A_g0 n0 c_g0, .slice A_g0b n0b c_g0b] 26)))
  clear H_w0b_3
  have BN_g0_g0 := Lib.hid (OwnV.bn_new H_g0_0.out)
  have H_g0_4 := Lib.hid (OwnV.below H_g0_0.out ((Below.refl _ w2).alloc (Nat.le_refl _) (.cells #[.bool RS0, .slice A_g0 n0 c_g0, .slice A_g0b n0b c_g0b] 26)))
  clear H_g0_0
  have BN_g0_g0b := Lib.hid (OwnV.bn_new H_g0b_0.out)
  have H_g0b_4 := Lib.hid (OwnV.below H_g0b_0.out ((Below.refl _ w2).alloc (Nat.le_refl _) (.cells #[.bool RS0, .slice A_g0 n0 c_g0, .slice A_g0b n0b c_g0b] 26)))
  clear H_g0b_0
  have HB_4 := Lib.hid (HB_3.out.alloc HB_3.out.size (.cells #[.bool RS0, .slice A_g0 n0 c_g0, .slice A_g0b n0b c_g0b] 26))
  clear HB_3
  have hk_g0_0_4 := K_g0_4.out.cell 0 _ rfl
  have hk_g0_1_4 := K_g0_4.out.cell 1 _ rfl
  have hk_g0_2_4 := K_g0_4.out.cell 2 _ rfl
  have hk_w0_0_4 := K_w0_4.out.cell 0 _ rfl
  have hk_w0_1_4 := K_w0_4.out.cell 1 _ rfl
  have hk_w0_2_4 := K_w0_4.out.cell 2 _ rfl
  go_wp2_with fail
  refine (eqRat_same RS0 A_g0 A_w0 n0 c_g0 c_w0 R0 A_g0b A_w0b n0b c_g0b c_w0b R0b _ H_g0_4.out.row H_w0_4.out.row H_g0b_4.out.row H_w0b_4.out.row (by unfold maxLen; omega) (by unfold maxLen; omega)).mono ?_
  rintro e w3 ⟨rfl, hb⟩
  have K_w0_5 := Lib.hid (K_w0_4.out.after hb)
  clear K_w0_4
  have K_g0_5 := Lib.hid (K_g0_4.out.after hb)
  clear K_g0_4
  have H_w0_5 := Lib.hid (OwnV.below (w := (w2.alloc (.cells #[.bool RS0, .slice A_g0 n0 c_g0, .slice A_g0b n0b c_g0b] 26))) H_w0_4.out hb)
  clear H_w0_4
  have H_w0b_5 := Lib.hid (OwnV.below (w := (w2.alloc (.cells #[.bool RS0, .slice A_g0 n0 c_g0, .slice A_g0b n0b c_g0b] 26))) H_w0b_4.out hb)
  clear H_w0b_4
  have H_g0_5 := Lib.hid (OwnV.below (w := (w2.alloc (.cells #[.bool RS0, .slice A_g0 n0 c_g0, .slice A_g0b n0b c_g0b] 26))) H_g0_4.out hb)
  clear H_g0_4
  have H_g0b_5 := Lib.hid (OwnV.below (w := (w2.alloc (.cells #[.bool RS0, .slice A_g0 n0 c_g0, .slice A_g0b n0b c_g0b] 26))) H_g0b_4.out hb)
  clear H_g0b_4
  have HB_5 := Lib.hid (HB_4.out.trans (hb.mono HB_4.out.size))
  clear hb HB_4
  clear hk_g0_0_4
  clear hk_g0_1_4
  clear hk_g0_2_4
  clear hk_w0_0_4
  clear hk_w0_1_4
  clear hk_w0_2_4
  have hk_g0_0_5 := K_g0_5.out.cell 0 _ rfl
  have hk_g0_1_5 := K_g0_5.out.cell 1 _ rfl
  have hk_g0_2_5 := K_g0_5.out.cell 2 _ rfl
  go_wp2_with fail
  refine (markRat_at RS0 A_g0 n0 c_g0 A_g0b n0b c_g0b (1) W.heap.size _ (by first | rfl | omega) _ _ _ H_g0_5.out H_g0b_5.out AP_g0_g0b.out AP_g0b_g0.out (by omega)).mono ?_
  rintro e w4 ⟨rfl, wm4, hg0, hg1, ho0, ho1⟩
  have K_w0_6 := Lib.hid ((K_w0_5.out.grown hg0 BN_w0_g0.out).grown hg1 BN_w0_g0b.out)
  clear K_w0_5
  have K_g0_6 := Lib.hid ((K_g0_5.out.grown hg0 BN_g0_g0.out).grown hg1 BN_g0_g0b.out)
  clear K_g0_5
  have HB_6 := Lib.hid (Below.grown (Below.grown HB_5.out hg0 (Below.size HB_5.out) (fun k hk => (H_g0_5.out.lt k hk).1)) hg1 (Below.size (Below.grown HB_5.out hg0 (Below.size HB_5.out) (fun k hk => (H_g0_5.out.lt k hk).1))) (fun k hk => (H_g0b_5.out.lt k hk).1))
  clear HB_5
  have H_w0_6 := Lib.hid ((H_w0_5.out.kept hg0 AP_w0_g0.out).kept hg1 AP_w0_g0b.out)
  clear H_w0_5
  have H_w0b_6 := Lib.hid ((H_w0b_5.out.kept hg0 AP_w0b_g0.out).kept hg1 AP_w0b_g0b.out)
  clear H_w0b_5
  clear H_g0_5
  have H_g0_6 := Lib.hid ho0
  clear ho0
  clear H_g0b_5
  have H_g0b_6 := Lib.hid ho1
  clear ho1
  clear hg1 hg0
  clear hk_g0_0_5
  clear hk_g0_1_5
  clear hk_g0_2_5
  have hk_g0_0_6 := K_g0_6.out.cell 0 _ rfl
  have hk_g0_1_6 := K_g0_6.out.cell 1 _ rfl
  have hk_g0_2_6 := K_g0_6.out.cell 2 _ rfl
  go_wp2_with fail
  refine (heldRat_at RS0 A_g0 n0 c_g0 A_g0b n0b c_g0b (1) _ (by first | rfl | omega) _ H_g0_6.out.row H_g0b_6.out.row (by omega)).mono ?_
  rintro e w5 ⟨rfl, hb⟩
  have K_w0_7 := Lib.hid (K_w0_6.out.after hb)
  clear K_w0_6
  have K_g0_7 := Lib.hid (K_g0_6.out.after hb)
  clear K_g0_6
  have H_w0_7 := Lib.hid (OwnV.below (w := w4) H_w0_6.out hb)
  clear H_w0_6
  have H_w0b_7 := Lib.hid (OwnV.below (w := w4) H_w0b_6.out hb)
  clear H_w0b_6
  have H_g0_7 := Lib.hid (OwnV.below (w := w4) H_g0_6.out hb)
  clear H_g0_6
  have H_g0b_7 := Lib.hid (OwnV.below (w := w4) H_g0b_6.out hb)
  clear H_g0b_6
  have HB_7 := Lib.hid (HB_6.out.trans (hb.mono HB_6.out.size))
  clear hb HB_6
  clear hk_g0_0_6
  clear hk_g0_1_6
  clear hk_g0_2_6
  go_wp2_with fail
  refine (parseRat_impl a0 _ (by omega)).mono ?_
  rintro e w6 ⟨v_h0, v_h0b, rfl, ho_h0, ho_h0b, ap01, ap10, hb⟩
  rw [HS0.out]
  rw [HR0.out] at ho_h0
  obtain ⟨A_h0, c_h0, hv⟩ := ho_h0.shape
  rw [HN0.out] at hv
  subst hv
  rw [HR0b.out] at ho_h0b
  obtain ⟨A_h0b, c_h0b, hv⟩ := ho_h0b.shape
  rw [HN0b.out] at hv
  subst hv
  have AP_h0_h0b := Lib.hid ap01
  clear ap01
  have AP_h0b_h0 := Lib.hid ap10
  clear ap10
  have AP_w0_h0 := Lib.hid (OwnV.apart H_w0_7.out ho_h0 (Nat.le_refl _))
  have AP_h0_w0 := Lib.hid (OwnV.apart' ho_h0 H_w0_7.out (Nat.le_refl _))
  have AP_w0b_h0 := Lib.hid (OwnV.apart H_w0b_7.out ho_h0 (Nat.le_refl _))
  have AP_h0_w0b := Lib.hid (OwnV.apart' ho_h0 H_w0b_7.out (Nat.le_refl _))
  have AP_g0_h0 := Lib.hid (OwnV.apart H_g0_7.out ho_h0 (Nat.le_refl _))
  have AP_h0_g0 := Lib.hid (OwnV.apart' ho_h0 H_g0_7.out (Nat.le_refl _))
  have AP_g0b_h0 := Lib.hid (OwnV.apart H_g0b_7.out ho_h0 (Nat.le_refl _))
  have AP_h0_g0b := Lib.hid (OwnV.apart' ho_h0 H_g0b_7.out (Nat.le_refl _))
  have H_h0_0 := Lib.hid (ho_h0.based HB_7.out.size)
  clear ho_h0
  have AP_w0_h0b := Lib.hid (OwnV.apart H_w0_7.out ho_h0b (Nat.le_refl _))
  have AP_h0b_w0 := Lib.hid (OwnV.apart' ho_h0b H_w0_7.out (Nat.le_refl _))
  have AP_w0b_h0b := Lib.hid (OwnV.apart H_w0b_7.out ho_h0b (Nat.le_refl _))
  have AP_h0b_w0b := Lib.hid (OwnV.apart' ho_h0b H_w0b_7.out (Nat.le_refl _))
  have AP_g0_h0b := Lib.hid (OwnV.apart H_g0_7.out ho_h0b (Nat.le_refl _))
  have AP_h0b_g0 := Lib.hid (OwnV.apart' ho_h0b H_g0_7.out (Nat.le_refl _))
  have AP_g0b_h0b := Lib.hid (OwnV.apart H_g0b_7.out ho_h0b (Nat.le_refl _))
  have AP_h0b_g0b := Lib.hid (OwnV.apart' ho_h0b H_g0b_7.out (Nat.le_refl _))
  have H_h0b_0 := Lib.hid (ho_h0b.based HB_7.out.size)
  clear ho_h0b
  have K_w0_8 := Lib.hid (K_w0_7.out.after hb)
  clear K_w0_7
  have K_g0_8 := Lib.hid (K_g0_7.out.after hb)
  clear K_g0_7
  have H_w0_8 := Lib.hid (OwnV.below (w := w5) H_w0_7.out hb)
  clear H_w0_7
  have H_w0b_8 := Lib.hid (OwnV.below (w := w5) H_w0b_7.out hb)
  clear H_w0b_7
  have H_g0_8 := Lib.hid (OwnV.below (w := w5) H_g0_7.out hb)
  clear H_g0_7
  have H_g0b_8 := Lib.hid (OwnV.below (w := w5) H_g0b_7.out hb)
  clear H_g0b_7
  have HB_8 := Lib.hid (HB_7.out.trans (hb.mono HB_7.out.size))
  clear hb HB_7
  have K_w0_9 := Lib.hid (K_w0_8.out.alloc (.cells #[.bool RS0, .slice A_h0 n0 c_h0, .slice A_h0b n0b c_h0b] 26))
  clear K_w0_8
  have K_g0_9 := Lib.hid (K_g0_8.out.alloc (.cells #[.bool RS0, .slice A_h0 n0 c_h0, .slice A_h0b n0b c_h0b] 26))
  clear K_g0_8
  have K_h0_9 := Lib.hid (HeldL.new w6 [.bool RS0, .slice A_h0 n0 c_h0, .slice A_h0b n0b c_h0b] 26)
  have H_w0_9 := Lib.hid (OwnV.below H_w0_8.out ((Below.refl _ w6).alloc (Nat.le_refl _) (.cells #[.bool RS0, .slice A_h0 n0 c_h0, .slice A_h0b n0b c_h0b] 26)))
  clear H_w0_8
  have H_w0b_9 := Lib.hid (OwnV.below H_w0b_8.out ((Below.refl _ w6).alloc (Nat.le_refl _) (.cells #[.bool RS0, .slice A_h0 n0 c_h0, .slice A_h0b n0b c_h0b] 26)))
  clear H_w0b_8
  have BN_h0_g0 := Lib.hid (OwnV.bn_new H_g0_8.out)
  have H_g0_9 := Lib.hid (OwnV.below H_g0_8.out ((Below.refl _ w6).alloc (Nat.le_refl _) (.cells #[.bool RS0, .slice A_h0 n0 c_h0, .slice A_h0b n0b c_h0b] 26)))
  clear H_g0_8
  have BN_h0_g0b := Lib.hid (OwnV.bn_new H_g0b_8.out)
  have H_g0b_9 := Lib.hid (OwnV.below H_g0b_8.out ((Below.refl _ w6).alloc (Nat.le_refl _) (.cells #[.bool RS0, .slice A_h0 n0 c_h0, .slice A_h0b n0b c_h0b] 26)))
  clear H_g0b_8
  have H_h0_9 := Lib.hid (OwnV.below H_h0_0.out ((Below.refl _ w6).alloc (Nat.le_refl _) (.cells #[.bool RS0, .slice A_h0 n0 c_h0, .slice A_h0b n0b c_h0b] 26)))
  clear H_h0_0
  have H_h0b_9 := Lib.hid (OwnV.below H_h0b_0.out ((Below.refl _ w6).alloc (Nat.le_refl _) (.cells #[.bool RS0, .slice A_h0 n0 c_h0, .slice A_h0b n0b c_h0b] 26)))
  clear H_h0b_0
  have HB_9 := Lib.hid (HB_8.out.alloc HB_8.out.size (.cells #[.bool RS0, .slice A_h0 n0 c_h0, .slice A_h0b n0b c_h0b] 26))
  clear HB_8
  have hk_h0_0_9 := K_h0_9.out.cell 0 _ rfl
  have hk_h0_1_9 := K_h0_9.out.cell 1 _ rfl
  have hk_h0_2_9 := K_h0_9.out.cell 2 _ rfl
  have hk_w0_0_9 := K_w0_9.out.cell 0 _ rfl
  have hk_w0_1_9 := K_w0_9.out.cell 1 _ rfl
  have hk_w0_2_9 := K_w0_9.out.cell 2 _ rfl
  go_wp2_with fail
  refine (eqRat_same RS0 A_h0 A_w0 n0 c_h0 c_w0 R0 A_h0b A_w0b n0b c_h0b c_w0b R0b _ H_h0_9.out.row H_w0_9.out.row H_h0b_9.out.row H_w0b_9.out.row (by unfold maxLen; omega) (by unfold maxLen; omega)).mono ?_
  rintro e w7 ⟨rfl, hb⟩
  have K_w0_10 := Lib.hid (K_w0_9.out.after hb)
  clear K_w0_9
  have K_g0_10 := Lib.hid (K_g0_9.out.after hb)
  clear K_g0_9
  have K_h0_10 := Lib.hid (K_h0_9.out.after hb)
  clear K_h0_9
  have H_w0_10 := Lib.hid (OwnV.below (w := (w6.alloc (.cells #[.bool RS0, .slice A_h0 n0 c_h0, .slice A_h0b n0b c_h0b] 26))) H_w0_9.out hb)
  clear H_w0_9
  have H_w0b_10 := Lib.hid (OwnV.below (w := (w6.alloc (.cells #[.bool RS0, .slice A_h0 n0 c_h0, .slice A_h0b n0b c_h0b] 26))) H_w0b_9.out hb)
  clear H_w0b_9
  have H_g0_10 := Lib.hid (OwnV.below (w := (w6.alloc (.cells #[.bool RS0, .slice A_h0 n0 c_h0, .slice A_h0b n0b c_h0b] 26))) H_g0_9.out hb)
  clear H_g0_9
  have H_g0b_10 := Lib.hid (OwnV.below (w := (w6.alloc (.cells #[.bool RS0, .slice A_h0 n0 c_h0, .slice A_h0b n0b c_h0b] 26))) H_g0b_9.out hb)
  clear H_g0b_9
  have H_h0_10 := Lib.hid (OwnV.below (w := (w6.alloc (.cells #[.bool RS0, .slice A_h0 n0 c_h0, .slice A_h0b n0b c_h0b] 26))) H_h0_9.out hb)
  clear H_h0_9
  have H_h0b_10 := Lib.hid (OwnV.below (w := (w6.alloc (.cells #[.bool RS0, .slice A_h0 n0 c_h0, .slice A_h0b n0b c_h0b] 26))) H_h0b_9.out hb)
  clear H_h0b_9
  have HB_10 := Lib.hid (HB_9.out.trans (hb.mono HB_9.out.size))
  clear hb HB_9
  clear hk_h0_0_9
  clear hk_h0_1_9
  clear hk_h0_2_9
  clear hk_w0_0_9
  clear hk_w0_1_9
  clear hk_w0_2_9
  have hk_g0_0_10 := K_g0_10.out.cell 0 _ rfl
  have hk_g0_1_10 := K_g0_10.out.cell 1 _ rfl
  have hk_g0_2_10 := K_g0_10.out.cell 2 _ rfl
  go_wp2_with fail
  refine (heldRat_at RS0 A_g0 n0 c_g0 A_g0b n0b c_g0b (1) _ (by first | rfl | omega) _ H_g0_10.out.row H_g0b_10.out.row (by omega)).mono ?_
  rintro e w8 ⟨rfl, hb⟩
  have K_w0_11 := Lib.hid (K_w0_10.out.after hb)
  clear K_w0_10
  have K_g0_11 := Lib.hid (K_g0_10.out.after hb)
  clear K_g0_10
  have K_h0_11 := Lib.hid (K_h0_10.out.after hb)
  clear K_h0_10
  have H_w0_11 := Lib.hid (OwnV.below (w := w7) H_w0_10.out hb)
  clear H_w0_10
  have H_w0b_11 := Lib.hid (OwnV.below (w := w7) H_w0b_10.out hb)
  clear H_w0b_10
  have H_g0_11 := Lib.hid (OwnV.below (w := w7) H_g0_10.out hb)
  clear H_g0_10
  have H_g0b_11 := Lib.hid (OwnV.below (w := w7) H_g0b_10.out hb)
  clear H_g0b_10
  have H_h0_11 := Lib.hid (OwnV.below (w := w7) H_h0_10.out hb)
  clear H_h0_10
  have H_h0b_11 := Lib.hid (OwnV.below (w := w7) H_h0b_10.out hb)
  clear H_h0b_10
  have HB_11 := Lib.hid (HB_10.out.trans (hb.mono HB_10.out.size))
  clear hb HB_10
  clear hk_g0_0_10
  clear hk_g0_1_10
  clear hk_g0_2_10
  go_wp2
  go_ret
  exact ⟨rfl, HB_11.out⟩

theorem door_met (os : Os) (args : Array Value) : laidMetH Tryz.prog Rows.fnExactParseRatRow.laid ((World.doorLaid Tryz.prog 400 os).forCall (fun _ _ => 0) ⟨#[], args, []⟩).memory :=
  laidMetH_of_parts3 (fuel := 8) (laidMet_of_run' 8 (by kernel_rfl) (by kernel_rfl)) (by kernel_rfl) (by kernel_rfl)
set_option maxRecDepth 100000 in
theorem lifted (os : Os) (started : os.Started) (H : Type) (enc : TypeId × Value → H) :
    ReturnsInHanded {} Tryz.checked os 3 .any (fun w args => (Rows.fnExactParseRatSpec.pre enc Tryz.prog Tryz.f3 [] false w args ∧ laidMetH Tryz.prog Rows.fnExactParseRatRow.laid w) ∧ sizedMet enc Tryz.prog Tryz.f3 (OpenSpec.ofChange Rows.fnExactParseRatSpec) false w args)
      (Rows.fnExactParseRatSpec.post enc Tryz.prog Tryz.f3 false true false false) := by
  refine returnsInHanded_of_change_and (C := Tryz.checked) (X := fun w _ => laidMetH Tryz.prog Rows.fnExactParseRatRow.laid w) (fun _ _ _ hh h => h.of_heap hh) own started (by kernel_rfl) Tryz.func3
    (ChangeSpec.witness_shaped (enc := enc) (C := Tryz.checked) (os := os) (X := fun w _ => laidMetH Tryz.prog Rows.fnExactParseRatRow.laid w) false (World.doorLaid Tryz.prog 400 os) #[.string ByteArray.empty] 8 rfl (World.shaped_of_RefB (by kernel_rfl) (by kernel_rfl)) (by kernel_rfl) (by kernel_rfl) (by kernel_rfl) (door_met os _)) ?_
  intro W base args ds gs before hval0 hW _ _ hL _
  have hval : ∀ (j : Nat) t v, Tryz.f3.params[j]? = some t → args[j]? = some v → Value.okWide Tryz.prog W .any base t v := hval0
  have hW' := hW
  obtain ⟨p, q, hA0, hV, rfl, hfz, hnd⟩ := hW
  have hA : DataW.TrodAll enc Tryz.prog W 0 (fun _ => true) true Tryz.f3.params.toList args.toList ds p := hA0
  rw [Tryz.params3] at hA hval
  obtain ⟨v0, vs0, d0, ds0, p0, q0, hargs, rfl, rfl, h0, r0⟩ := trodAll_cons hA
  obtain ⟨rfl, rfl, rfl⟩ := trodAll_nil r0
  obtain rfl : args = #[v0] := by cases args; simp_all
  obtain ⟨rfl, rfl⟩ := trodVars_none hV
  obtain ⟨a0, rfl, rfl, rfl, w0⟩ := open_string Tryz.underlying9 (hval 0 9 v0 rfl rfl) h0
  clear hA0 hval0
  refine (walk W (laid3_rat hL) a0 w0).mono fun e W' ⟨he, bel⟩ => ?_
  subst he
  exact ⟨_, rfl, _, _, _, [], _, [], hW', trodAll_mk1 (shut_bool Tryz.underlying4 _), (trodAll_cons_mk (shut_string Tryz.underlying9 w0) trodAll_mk0), rfl, bel.frame _, fun h => by cases h⟩

theorem over : Rows.fnExactParseRatRow.holds Tryz.pinned (OpenSpec.ofChange Rows.fnExactParseRatSpec) :=
  OpenClaim.holds_of_wide 3 Tryz.f3 rfl rfl rfl rfl rfl rfl rfl ⟨rfl, rfl, rfl, rfl, rfl⟩ rfl rfl rfl rfl rfl (by kernel_rfl) Tryz.func3 (by kernel_rfl)
    (of_decide_eq_true (by kernel_rfl)) (by unfold Func.isWrapper; first | (rw [if_pos (by decide +kernel)]; kernel_rfl) | (rw [if_neg (by decide +kernel)]; exact ⟨rfl, rfl⟩))
    (fun os started H enc _ => lifted os started H enc)

theorem bare : Rows.FnExactParseRatSaid := over
theorem proved : Rows.FnExactParseRatCardSaid :=
  Claim7.holds_tied_plain_at .later [] [.data, .data, .data, .sentinel, .sentinel] true (true, "b68fa568431338f25fb9c44ca10f2f0cb70d92d55829f18e927304d248fce59d") true
    bare (fun _ h => by cases h) (by kernel_rfl) (fun _ h => by cases h) fnExactParseRat_row_tie rfl ⟨rfl, rfl⟩ (by kernel_rfl) rfl
    (fun f fn hf hfn => by
      obtain rfl : f = 3 := Option.some.inj ((show Tryz.prog.funcNamed "loop.example/g00810/laws.FnExactParseRat" = some 3 by kernel_rfl).symm.trans hf) |>.symm
      obtain rfl : fn = Tryz.f3 := (Option.some.inj (Tryz.func3.symm.trans hfn)).symm
      exact ⟨by kernel_rfl, fun j t ht => by
        rw [Tryz.params3] at ht
        have hm : t ∈ [9] := by simpa using Array.mem_of_getElem? ht
        have hall : ([9].all fun u => !Tryz.prog.wantsStandIn u) = true := by kernel_rfl
        exact (show Tryz.prog.wantsStandIn t = false by simpa using List.all_eq_true.1 hall t hm)⟩)
    (by kernel_rfl)
#print axioms proved
end Go.Proofs.YtdilgjakodimbaaGreatDoor.lawParseRat
