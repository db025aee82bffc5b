/- Proved: at every code, poses form a group and are recovered from their text, the call returns true and changes no memory that was there; the listed variables are tied to the text that lays them. Conditions: none. -/
import Derived.Test.YtdilgjakodimbaaDoorRows
import Derived.Test.YtdilgjakodimbaaDoorOpen
import Derived.Test.YtdilgjakodimbaaDoorOpenP
import Derived.Test.YtdilgjakodimbaaDoorPosesAid
import Derived.Test.YtdilgjakodimbaaDoorPoseParse2
import Derived.Test.YtdilgjakodimbaaDoorLaidP
import Derived.Test.YtdilgjakodimbaaDoorCards
import Derived.Test.YtdilgjakodimbaaDoorTie
import Derived.WalkKit
import Derived.ProofKit
import Derived.OpenShut
import Derived.ShutString
import Derived.ChangeOld
import Derived.Below
import Derived.OpenVars
import Derived.LaidMore
import Derived.Stop.Joined
import Derived.SevenTiedAt
namespace Go.Proofs.YtdilgjakodimbaaDoor.lawTopPoses
open Go.ChangeShapes Go.WideShapes Go.ChangeAt Go.RowKit
open Go.ChangeMaps (open_string shut_string)
set_option linter.unusedVariables false

theorem own : ownKnob Tryd.prog.godebug = none := by kernel_rfl
theorem laidOut : laidOutB Tryd.prog = true := by kernel_rfl
open Po Nu

set_option maxRecDepth 100000 in
set_option maxHeartbeats 4000000 in
theorem walk (w : World) (hlaid : LaidP w) (a0 : Option Addr) (len0 cap0 : Nat) (z0 : List Int) (w0 : IsInts .u8 w a0 len0 cap0 z0) :
    Calls Tryd.prog 3 #[.slice a0 len0 cap0] w fun e w' => e = .returned (.bool true) ∧ Below w.heap.size w w' := by
  obtain ⟨hA, hcap, hcm, hzs⟩ := w0
  have HA := Lib.hid hA
  have HZ := Lib.hid (show ∀ z ∈ z0, 0 ≤ z ∧ z ≤ 255 from fun z hz => bounds_u8 (hzs z hz))
  have HL := Lib.hid hlaid
  have hlm : len0 ≤ maxLen := Nat.le_trans hcap hcm
  unfold maxLen at hlm
  clear hA hzs hcm hcap hlaid
  by_cases hs : 1048576 < len0
  · go_enter Tryd.func3, Tryd.ntmps3
    go_wp2
    go_ret
    exact ⟨rfl, Below.refl _ _⟩
  have HB_0 := Lib.hid (Below.refl w.heap.size w)
  go_enter Tryd.func3, Tryd.ntmps3
  go_wp2_with fail
  refine (makePose_any z0 a0 len0 cap0 0 _ (by omega) (by omega) (HA.out.below HB_0.out (Nat.le_refl _)) (by omega) HZ.out).mono ?_
  rintro e w1 ⟨pt, px, py, rfl, hsm, hb⟩
  have SMp := Lib.hid hsm
  clear hsm
  have HB_1 := Lib.hid (HB_0.out.trans (hb.mono HB_0.out.size))
  clear hb
  go_wp2_with fail
  have K_p_2 := Lib.hid (HeldL.new w1 [.int .i64 pt, .int .i64 px, .int .i64 py] 24)
  have HB_2 := Lib.hid (HB_1.out.alloc HB_1.out.size (.cells #[.int .i64 pt, .int .i64 px, .int .i64 py] 24))
  refine (makePose_any z0 a0 len0 cap0 1 _ (by omega) (by omega) (HA.out.below HB_2.out (Nat.le_refl _)) (by omega) HZ.out).mono ?_
  rintro e w2 ⟨qt, qx, qy, rfl, hsm, hb⟩
  have SMq := Lib.hid hsm
  clear hsm
  have K_p_3 := Lib.hid (K_p_2.out.after hb)
  have HB_3 := Lib.hid (HB_2.out.trans (hb.mono HB_2.out.size))
  clear hb
  go_wp2_with fail
  have K_p_4 := Lib.hid (K_p_3.out.alloc (.cells #[.int .i64 qt, .int .i64 qx, .int .i64 qy] 24))
  have hne_p_q : w1.heap.size ≠ w2.heap.size := by have := K_p_3.out.lt; omega
  have hne_q_p : w2.heap.size ≠ w1.heap.size := by have := K_p_3.out.lt; omega
  have K_q_4 := Lib.hid (HeldL.new w2 [.int .i64 qt, .int .i64 qx, .int .i64 qy] 24)
  have HB_4 := Lib.hid (HB_3.out.alloc HB_3.out.size (.cells #[.int .i64 qt, .int .i64 qx, .int .i64 qy] 24))
  refine (makePose_any z0 a0 len0 cap0 2 _ (by omega) (by omega) (HA.out.below HB_4.out (Nat.le_refl _)) (by omega) HZ.out).mono ?_
  rintro e w3 ⟨rt, rx, ry, rfl, hsm, hb⟩
  have SMr := Lib.hid hsm
  clear hsm
  have K_p_5 := Lib.hid (K_p_4.out.after hb)
  have K_q_5 := Lib.hid (K_q_4.out.after hb)
  have HB_5 := Lib.hid (HB_4.out.trans (hb.mono HB_4.out.size))
  clear hb
  have hk_p_0_5 := K_p_5.out.cell 0 _ rfl
  have hk_p_1_5 := K_p_5.out.cell 1 _ rfl
  have hk_p_2_5 := K_p_5.out.cell 2 _ rfl
  have hlp := K_p_5.out.lt
  go_wp2_with fail
  clear hlp
  clear hk_p_0_5
  clear hk_p_1_5
  clear hk_p_2_5
  have K_p_6 := Lib.hid (K_p_5.out.alloc (.cells #[.int .i64 rt, .int .i64 rx, .int .i64 ry] 24))
  have hne_p_r : w1.heap.size ≠ w3.heap.size := by have := K_p_5.out.lt; omega
  have hne_r_p : w3.heap.size ≠ w1.heap.size := by have := K_p_5.out.lt; omega
  have K_q_6 := Lib.hid (K_q_5.out.alloc (.cells #[.int .i64 rt, .int .i64 rx, .int .i64 ry] 24))
  have hne_q_r : w2.heap.size ≠ w3.heap.size := by have := K_q_5.out.lt; omega
  have hne_r_q : w3.heap.size ≠ w2.heap.size := by have := K_q_5.out.lt; omega
  have K_r_6 := Lib.hid (HeldL.new w3 [.int .i64 rt, .int .i64 rx, .int .i64 ry] 24)
  have HB_6 := Lib.hid (HB_5.out.alloc HB_5.out.size (.cells #[.int .i64 rt, .int .i64 rx, .int .i64 ry] 24))
  have OKp := Lib.hid (SMp.out.ok (by omega))
  obtain ⟨T, hT⟩ : ∃ z, fmtP pt px py = z := ⟨_, rfl⟩
  have HT := Lib.hid hT
  have HSZ := Lib.hid (hT ▸ fmtP_size pt px py OKp.out : T.size ≤ 43)
  clear hT
  refine (formatPose_impl pt px py _ (HL.out.1.below HB_6.out).1).mono ?_
  rintro e w4 ⟨rfl, hb⟩
  rw [HT.out]
  have K_p_7 := Lib.hid (K_p_6.out.after hb)
  have K_q_7 := Lib.hid (K_q_6.out.after hb)
  have K_r_7 := Lib.hid (K_r_6.out.after hb)
  have HB_7 := Lib.hid (HB_6.out.trans (hb.mono HB_6.out.size))
  clear hb
  go_wp2_with fail
  refine ((parsePose_impl T _ (by have := HSZ.out; omega) (HL.out.1.below HB_7.out)).mono (fun e w' h => parsedP_yes OKp.out HT.out.symm h)).mono ?_
  rintro e w5 ⟨rfl, hb⟩
  have K_p_8 := Lib.hid (K_p_7.out.after hb)
  have K_q_8 := Lib.hid (K_q_7.out.after hb)
  have K_r_8 := Lib.hid (K_r_7.out.after hb)
  have HB_8 := Lib.hid (HB_7.out.trans (hb.mono HB_7.out.size))
  clear hb
  go_upto_region 7 with fail
  have K_p_9 := Lib.hid (K_p_8.out.alloc (.cells #[.int .i64 pt, .int .i64 px, .int .i64 py] 24))
  have hne_p_x : w1.heap.size ≠ w5.heap.size := by have := K_p_8.out.lt; omega
  have hne_x_p : w5.heap.size ≠ w1.heap.size := by have := K_p_8.out.lt; omega
  have K_q_9 := Lib.hid (K_q_8.out.alloc (.cells #[.int .i64 pt, .int .i64 px, .int .i64 py] 24))
  have hne_q_x : w2.heap.size ≠ w5.heap.size := by have := K_q_8.out.lt; omega
  have hne_x_q : w5.heap.size ≠ w2.heap.size := by have := K_q_8.out.lt; omega
  have K_r_9 := Lib.hid (K_r_8.out.alloc (.cells #[.int .i64 pt, .int .i64 px, .int .i64 py] 24))
  have hne_r_x : w3.heap.size ≠ w5.heap.size := by have := K_r_8.out.lt; omega
  have hne_x_r : w5.heap.size ≠ w3.heap.size := by have := K_r_8.out.lt; omega
  have K_x_9 := Lib.hid (HeldL.new w5 [.int .i64 pt, .int .i64 px, .int .i64 py] 24)
  have HB_9 := Lib.hid (HB_8.out.alloc HB_8.out.size (.cells #[.int .i64 pt, .int .i64 px, .int .i64 py] 24))
  obtain ⟨wr, hwr⟩ : ∃ u, (w5.alloc (.cells #[.int .i64 pt, .int .i64 px, .int .i64 py] 24)) = u := ⟨_, rfl⟩
  rw [hwr] at K_p_9 K_q_9 K_r_9 K_x_9 HB_9 ⊢
  clear hwr
  obtain ⟨at_, hat_⟩ : ∃ z, cT pt px py qt qx qy = z := ⟨_, rfl⟩
  obtain ⟨ax, hax⟩ : ∃ z, cX pt px py qt qx qy = z := ⟨_, rfl⟩
  obtain ⟨ay, hay⟩ : ∃ z, cY pt px py qt qx qy = z := ⟨_, rfl⟩
  obtain ⟨bt, hbt⟩ : ∃ z, cT qt qx qy rt rx ry = z := ⟨_, rfl⟩
  obtain ⟨bx, hbx⟩ : ∃ z, cX qt qx qy rt rx ry = z := ⟨_, rfl⟩
  obtain ⟨by_, hby_⟩ : ∃ z, cY qt qx qy rt rx ry = z := ⟨_, rfl⟩
  obtain ⟨lt, hlt⟩ : ∃ z, cT at_ ax ay rt rx ry = z := ⟨_, rfl⟩
  obtain ⟨lx, hlx⟩ : ∃ z, cX at_ ax ay rt rx ry = z := ⟨_, rfl⟩
  obtain ⟨ly, hly⟩ : ∃ z, cY at_ ax ay rt rx ry = z := ⟨_, rfl⟩
  obtain ⟨it, hit⟩ : ∃ z, iT pt px py = z := ⟨_, rfl⟩
  obtain ⟨ix, hix⟩ : ∃ z, iX pt px py = z := ⟨_, rfl⟩
  obtain ⟨iy, hiy⟩ : ∃ z, iY pt px py = z := ⟨_, rfl⟩
  obtain ⟨nt, hnt⟩ : ∃ z, bT pt px py qt qx qy = z := ⟨_, rfl⟩
  obtain ⟨nx, hnx⟩ : ∃ z, bX pt px py qt qx qy = z := ⟨_, rfl⟩
  obtain ⟨ny, hny⟩ : ∃ z, bY pt px py qt qx qy = z := ⟨_, rfl⟩
  have c1 := c_assoc SMp.out SMq.out SMr.out
  rw [hat_, hax, hay, hbt, hbx, hby_, hlt, hlx, hly] at c1
  have c2 := c_inv SMp.out
  rw [hit, hix, hiy] at c2
  have c3 := c_btw SMp.out SMq.out
  rw [hnt, hnx, hny] at c3
  have c4 := all_three SMp.out SMq.out SMr.out
  rw [hat_, hax, hay, hlt, hlx, hly] at c4
  have Hc1 := Lib.hid c1
  clear c1
  have Hc2 := Lib.hid c2
  clear c2
  have Hc3 := Lib.hid c3
  clear c3
  have Hc4 := Lib.hid c4
  clear c4
  have Hat_ := Lib.hid hat_
  clear hat_
  have Hax := Lib.hid hax
  clear hax
  have Hay := Lib.hid hay
  clear hay
  have Hbt := Lib.hid hbt
  clear hbt
  have Hbx := Lib.hid hbx
  clear hbx
  have Hby_ := Lib.hid hby_
  clear hby_
  have Hlt := Lib.hid hlt
  clear hlt
  have Hlx := Lib.hid hlx
  clear hlx
  have Hly := Lib.hid hly
  clear hly
  have Hit := Lib.hid hit
  clear hit
  have Hix := Lib.hid hix
  clear hix
  have Hiy := Lib.hid hiy
  clear hiy
  have Hnt := Lib.hid hnt
  clear hnt
  have Hnx := Lib.hid hnx
  clear hnx
  have Hny := Lib.hid hny
  clear hny
  have mkS : ∀ u : World, Below wr.heap.size wr u → u.cell? ⟨w1.heap.size, 0, none⟩ = some (.int .i64 pt) ∧ u.cell? ⟨w1.heap.size, 1, none⟩ = some (.int .i64 px) ∧ u.cell? ⟨w1.heap.size, 2, none⟩ = some (.int .i64 py) ∧ u.cell? ⟨w2.heap.size, 0, none⟩ = some (.int .i64 qt) ∧ u.cell? ⟨w2.heap.size, 1, none⟩ = some (.int .i64 qx) ∧ u.cell? ⟨w2.heap.size, 2, none⟩ = some (.int .i64 qy) ∧ u.cell? ⟨w3.heap.size, 0, none⟩ = some (.int .i64 rt) ∧ u.cell? ⟨w3.heap.size, 1, none⟩ = some (.int .i64 rx) ∧ u.cell? ⟨w3.heap.size, 2, none⟩ = some (.int .i64 ry) ∧ u.cell? ⟨w5.heap.size, 0, none⟩ = some (.int .i64 pt) ∧ u.cell? ⟨w5.heap.size, 1, none⟩ = some (.int .i64 px) ∧ u.cell? ⟨w5.heap.size, 2, none⟩ = some (.int .i64 py) ∧ Below wr.heap.size wr u := fun u h => ⟨(K_p_9.out.after h).cell 0 _ rfl, (K_p_9.out.after h).cell 1 _ rfl, (K_p_9.out.after h).cell 2 _ rfl, (K_q_9.out.after h).cell 0 _ rfl, (K_q_9.out.after h).cell 1 _ rfl, (K_q_9.out.after h).cell 2 _ rfl, (K_r_9.out.after h).cell 0 _ rfl, (K_r_9.out.after h).cell 1 _ rfl, (K_r_9.out.after h).cell 2 _ rfl, (K_x_9.out.after h).cell 0 _ rfl, (K_x_9.out.after h).cell 1 _ rfl, (K_x_9.out.after h).cell 2 _ rfl, h⟩
  have bel0 : Below wr.heap.size wr wr.drew := (Below.refl _ _).drew
  have bel1 : ∀ {u u' : World}, Below u.heap.size u u' → (fun w' => w'.cell? ⟨w1.heap.size, 0, none⟩ = some (.int .i64 pt) ∧ w'.cell? ⟨w1.heap.size, 1, none⟩ = some (.int .i64 px) ∧ w'.cell? ⟨w1.heap.size, 2, none⟩ = some (.int .i64 py) ∧ w'.cell? ⟨w2.heap.size, 0, none⟩ = some (.int .i64 qt) ∧ w'.cell? ⟨w2.heap.size, 1, none⟩ = some (.int .i64 qx) ∧ w'.cell? ⟨w2.heap.size, 2, none⟩ = some (.int .i64 qy) ∧ w'.cell? ⟨w3.heap.size, 0, none⟩ = some (.int .i64 rt) ∧ w'.cell? ⟨w3.heap.size, 1, none⟩ = some (.int .i64 rx) ∧ w'.cell? ⟨w3.heap.size, 2, none⟩ = some (.int .i64 ry) ∧ w'.cell? ⟨w5.heap.size, 0, none⟩ = some (.int .i64 pt) ∧ w'.cell? ⟨w5.heap.size, 1, none⟩ = some (.int .i64 px) ∧ w'.cell? ⟨w5.heap.size, 2, none⟩ = some (.int .i64 py) ∧ Below wr.heap.size wr w') u → Below wr.heap.size wr u' := fun hb h => (h.2.2.2.2.2.2.2.2.2.2.2.2).trans (hb.mono (h.2.2.2.2.2.2.2.2.2.2.2.2).size)
  have bel2 : ∀ {u : World} (o : Obj), (fun w' => w'.cell? ⟨w1.heap.size, 0, none⟩ = some (.int .i64 pt) ∧ w'.cell? ⟨w1.heap.size, 1, none⟩ = some (.int .i64 px) ∧ w'.cell? ⟨w1.heap.size, 2, none⟩ = some (.int .i64 py) ∧ w'.cell? ⟨w2.heap.size, 0, none⟩ = some (.int .i64 qt) ∧ w'.cell? ⟨w2.heap.size, 1, none⟩ = some (.int .i64 qx) ∧ w'.cell? ⟨w2.heap.size, 2, none⟩ = some (.int .i64 qy) ∧ w'.cell? ⟨w3.heap.size, 0, none⟩ = some (.int .i64 rt) ∧ w'.cell? ⟨w3.heap.size, 1, none⟩ = some (.int .i64 rx) ∧ w'.cell? ⟨w3.heap.size, 2, none⟩ = some (.int .i64 ry) ∧ w'.cell? ⟨w5.heap.size, 0, none⟩ = some (.int .i64 pt) ∧ w'.cell? ⟨w5.heap.size, 1, none⟩ = some (.int .i64 px) ∧ w'.cell? ⟨w5.heap.size, 2, none⟩ = some (.int .i64 py) ∧ Below wr.heap.size wr w') u → Below wr.heap.size wr (u.alloc o) := fun o h => (h.2.2.2.2.2.2.2.2.2.2.2.2).alloc (h.2.2.2.2.2.2.2.2.2.2.2.2).size o
  have lq : ∀ {u : World}, (fun w' => w'.cell? ⟨w1.heap.size, 0, none⟩ = some (.int .i64 pt) ∧ w'.cell? ⟨w1.heap.size, 1, none⟩ = some (.int .i64 px) ∧ w'.cell? ⟨w1.heap.size, 2, none⟩ = some (.int .i64 py) ∧ w'.cell? ⟨w2.heap.size, 0, none⟩ = some (.int .i64 qt) ∧ w'.cell? ⟨w2.heap.size, 1, none⟩ = some (.int .i64 qx) ∧ w'.cell? ⟨w2.heap.size, 2, none⟩ = some (.int .i64 qy) ∧ w'.cell? ⟨w3.heap.size, 0, none⟩ = some (.int .i64 rt) ∧ w'.cell? ⟨w3.heap.size, 1, none⟩ = some (.int .i64 rx) ∧ w'.cell? ⟨w3.heap.size, 2, none⟩ = some (.int .i64 ry) ∧ w'.cell? ⟨w5.heap.size, 0, none⟩ = some (.int .i64 pt) ∧ w'.cell? ⟨w5.heap.size, 1, none⟩ = some (.int .i64 px) ∧ w'.cell? ⟨w5.heap.size, 2, none⟩ = some (.int .i64 py) ∧ Below wr.heap.size wr w') u → LaidQ u := fun h => (HL.out.2.below HB_9.out).below (h.2.2.2.2.2.2.2.2.2.2.2.2)
  have lqa : ∀ {u : World} (o : Obj), (fun w' => w'.cell? ⟨w1.heap.size, 0, none⟩ = some (.int .i64 pt) ∧ w'.cell? ⟨w1.heap.size, 1, none⟩ = some (.int .i64 px) ∧ w'.cell? ⟨w1.heap.size, 2, none⟩ = some (.int .i64 py) ∧ w'.cell? ⟨w2.heap.size, 0, none⟩ = some (.int .i64 qt) ∧ w'.cell? ⟨w2.heap.size, 1, none⟩ = some (.int .i64 qx) ∧ w'.cell? ⟨w2.heap.size, 2, none⟩ = some (.int .i64 qy) ∧ w'.cell? ⟨w3.heap.size, 0, none⟩ = some (.int .i64 rt) ∧ w'.cell? ⟨w3.heap.size, 1, none⟩ = some (.int .i64 rx) ∧ w'.cell? ⟨w3.heap.size, 2, none⟩ = some (.int .i64 ry) ∧ w'.cell? ⟨w5.heap.size, 0, none⟩ = some (.int .i64 pt) ∧ w'.cell? ⟨w5.heap.size, 1, none⟩ = some (.int .i64 px) ∧ w'.cell? ⟨w5.heap.size, 2, none⟩ = some (.int .i64 py) ∧ Below wr.heap.size wr w') (u.alloc o) → LaidQ (u.alloc o) := fun o h => (HL.out.2.below HB_9.out).below (h.2.2.2.2.2.2.2.2.2.2.2.2)
  have belW : ∀ {u : World}, (fun w' => w'.cell? ⟨w1.heap.size, 0, none⟩ = some (.int .i64 pt) ∧ w'.cell? ⟨w1.heap.size, 1, none⟩ = some (.int .i64 px) ∧ w'.cell? ⟨w1.heap.size, 2, none⟩ = some (.int .i64 py) ∧ w'.cell? ⟨w2.heap.size, 0, none⟩ = some (.int .i64 qt) ∧ w'.cell? ⟨w2.heap.size, 1, none⟩ = some (.int .i64 qx) ∧ w'.cell? ⟨w2.heap.size, 2, none⟩ = some (.int .i64 qy) ∧ w'.cell? ⟨w3.heap.size, 0, none⟩ = some (.int .i64 rt) ∧ w'.cell? ⟨w3.heap.size, 1, none⟩ = some (.int .i64 rx) ∧ w'.cell? ⟨w3.heap.size, 2, none⟩ = some (.int .i64 ry) ∧ w'.cell? ⟨w5.heap.size, 0, none⟩ = some (.int .i64 pt) ∧ w'.cell? ⟨w5.heap.size, 1, none⟩ = some (.int .i64 px) ∧ w'.cell? ⟨w5.heap.size, 2, none⟩ = some (.int .i64 py) ∧ Below wr.heap.size wr w') u → Below w.heap.size w u := fun h => HB_9.out.trans ((h.2.2.2.2.2.2.2.2.2.2.2.2).mono HB_9.out.size)
  have heq := eqP
  have hk_p_0_9 := K_p_9.out.cell 0 _ rfl
  have hk_p_1_9 := K_p_9.out.cell 1 _ rfl
  have hk_p_2_9 := K_p_9.out.cell 2 _ rfl
  have hk_q_0_9 := K_q_9.out.cell 0 _ rfl
  have hk_q_1_9 := K_q_9.out.cell 1 _ rfl
  have hk_q_2_9 := K_q_9.out.cell 2 _ rfl
  have hk_r_0_9 := K_r_9.out.cell 0 _ rfl
  have hk_r_1_9 := K_r_9.out.cell 1 _ rfl
  have hk_r_2_9 := K_r_9.out.cell 2 _ rfl
  have hk_x_0_9 := K_x_9.out.cell 0 _ rfl
  have hk_x_1_9 := K_x_9.out.cell 1 _ rfl
  have hk_x_2_9 := K_x_9.out.cell 2 _ rfl
  go_region_held3 (fun w' => w'.cell? ⟨w1.heap.size, 0, none⟩ = some (.int .i64 pt) ∧ w'.cell? ⟨w1.heap.size, 1, none⟩ = some (.int .i64 px) ∧ w'.cell? ⟨w1.heap.size, 2, none⟩ = some (.int .i64 py) ∧ w'.cell? ⟨w2.heap.size, 0, none⟩ = some (.int .i64 qt) ∧ w'.cell? ⟨w2.heap.size, 1, none⟩ = some (.int .i64 qx) ∧ w'.cell? ⟨w2.heap.size, 2, none⟩ = some (.int .i64 qy) ∧ w'.cell? ⟨w3.heap.size, 0, none⟩ = some (.int .i64 rt) ∧ w'.cell? ⟨w3.heap.size, 1, none⟩ = some (.int .i64 rx) ∧ w'.cell? ⟨w3.heap.size, 2, none⟩ = some (.int .i64 ry) ∧ w'.cell? ⟨w5.heap.size, 0, none⟩ = some (.int .i64 pt) ∧ w'.cell? ⟨w5.heap.size, 1, none⟩ = some (.int .i64 px) ∧ w'.cell? ⟨w5.heap.size, 2, none⟩ = some (.int .i64 py) ∧ Below wr.heap.size wr w') (first | exact mkS _ (bel1 (by assumption) (by assumption)) | exact mkS _ (bel2 _ (by assumption)) | exact mkS _ bel0)
    (first
      | (go_at_call_of 15 (Value.agg #[Value.int .i64 pt, Value.int .i64 px, Value.int .i64 py])
         go_at_call_of 15 (Value.agg #[Value.int .i64 qt, Value.int .i64 qx, Value.int .i64 qy])
         refine (compose_impl pt px py qt qx qy _ (lq (by assumption))).mono ?_
         rintro e u9 ⟨rfl, hb9⟩
         rw [Hat_.out, Hax.out, Hay.out])
      | (go_at_call_of 15 (Value.agg #[Value.int .i64 at_, Value.int .i64 ax, Value.int .i64 ay])
         refine (compose_impl at_ ax ay rt rx ry _ (lq (by assumption))).mono ?_
         rintro e u9 ⟨rfl, hb9⟩
         rw [Hlt.out, Hlx.out, Hly.out])
      | (go_at_call_of 15 (Value.agg #[Value.int .i64 qt, Value.int .i64 qx, Value.int .i64 qy])
         go_at_call_of 15 (Value.agg #[Value.int .i64 rt, Value.int .i64 rx, Value.int .i64 ry])
         refine (compose_impl qt qx qy rt rx ry _ (lq (by assumption))).mono ?_
         rintro e u9 ⟨rfl, hb9⟩
         rw [Hbt.out, Hbx.out, Hby_.out])
      | (go_at_call_of 15 (Value.agg #[Value.int .i64 bt, Value.int .i64 bx, Value.int .i64 by_])
         refine (compose_impl pt px py bt bx by_ _ (lq (by assumption))).mono ?_
         rintro e u9 ⟨rfl, hb9⟩
         rw [Hc1.out.1, Hc1.out.2.1, Hc1.out.2.2])
      | (go_at_call_of 16 (Value.agg #[Value.int .i64 pt, Value.int .i64 px, Value.int .i64 py])
         refine (inverse_impl pt px py _ (lq (by assumption))).mono ?_
         rintro e u9 ⟨rfl, hb9⟩
         rw [Hit.out, Hix.out, Hiy.out])
      | (go_at_call_of 15 (Value.agg #[Value.int .i64 it, Value.int .i64 ix, Value.int .i64 iy])
         refine (compose_impl pt px py it ix iy _ (lq (by assumption))).mono ?_
         rintro e u9 ⟨rfl, hb9⟩
         rw [Hc2.out.1, Hc2.out.2.1, Hc2.out.2.2])
      | (go_at_call_of 17 (Value.agg #[Value.int .i64 pt, Value.int .i64 px, Value.int .i64 py])
         refine (between_impl pt px py qt qx qy _ (lq (by assumption))).mono ?_
         rintro e u9 ⟨rfl, hb9⟩
         rw [Hnt.out, Hnx.out, Hny.out])
      | (go_at_call_of 15 (Value.agg #[Value.int .i64 nt, Value.int .i64 nx, Value.int .i64 ny])
         refine (compose_impl pt px py nt nx ny _ (lq (by assumption))).mono ?_
         rintro e u9 ⟨rfl, hb9⟩
         rw [Hc3.out.1, Hc3.out.2.1, Hc3.out.2.2])
      | (go_at_call 18
         refine (composeAll_impl _ 3 3 [(pt, px, py), (qt, qx, qy), (rt, rx, ry)] _ (prow3 _ _ _ _ _ _ _ _ _ _ _) (by omega) (lq (by assumption))).mono ?_
         rintro e u9 ⟨rfl, hb9⟩
         rw [Hc4.out]))
  all_goals go_wp2
  all_goals go_ret
  all_goals exact ⟨rfl, belW (by assumption)⟩

theorem door_met (os : Os) (args : Array Value) : laidMetH Tryd.prog Rows.fnPosesRow.laid ((World.doorLaid Tryd.prog 400 os).forCall (fun _ _ => 0) ⟨#[], args, []⟩).memory :=
  laidMetH_of_parts3 (fuel := 8) (laidMet_of_run' 8 (by kernel_rfl) (by kernel_rfl)) (by kernel_rfl) (by kernel_rfl)
set_option maxRecDepth 100000 in
theorem lifted (os : Os) (started : os.Started) (H : Type) (enc : TypeId × Value → H) :
    ReturnsInHanded {} Tryd.checked os 3 .any (fun w args => (Rows.fnPosesSpec.pre enc Tryd.prog Tryd.f3 [] false w args ∧ laidMetH Tryd.prog Rows.fnPosesRow.laid w) ∧ sizedMet enc Tryd.prog Tryd.f3 (OpenSpec.ofChange Rows.fnPosesSpec) false w args)
      (Rows.fnPosesSpec.post enc Tryd.prog Tryd.f3 false true false false) := by
  refine returnsInHanded_of_change_and (C := Tryd.checked) (X := fun w _ => laidMetH Tryd.prog Rows.fnPosesRow.laid w) (fun _ _ _ hh h => h.of_heap hh) own started (by kernel_rfl) Tryd.func3
    (ChangeSpec.witness_shaped (enc := enc) (C := Tryd.checked) (os := os) (X := fun w _ => laidMetH Tryd.prog Rows.fnPosesRow.laid w) false (World.doorLaid Tryd.prog 400 os) #[.slice none 0 0] 8 rfl (World.shaped_of_RefB (by kernel_rfl) (by kernel_rfl)) (by kernel_rfl) (by kernel_rfl) (by kernel_rfl) (door_met os _)) ?_
  intro W base args ds gs before hval0 hW _ _ hL _
  have hval : ∀ (j : Nat) t v, Tryd.f3.params[j]? = some t → args[j]? = some v → Value.okWide Tryd.prog W .any base t v := hval0
  have hW' := hW
  obtain ⟨p, q, hA0, hV, rfl, hfz, hnd⟩ := hW
  have hA : DataW.TrodAll enc Tryd.prog W 0 (fun _ => true) true Tryd.f3.params.toList args.toList ds p := hA0
  rw [Tryd.params3] at hA hval
  obtain ⟨v0, vs0, d0, ds0, p0, q0, hargs, rfl, rfl, h0, r0⟩ := trodAll_cons hA
  obtain ⟨rfl, rfl, rfl⟩ := trodAll_nil r0
  obtain rfl : args = #[v0] := by cases args; simp_all
  have hV0 : DataW.TrodVars enc Tryd.prog W (fun _ => true) ["loop.example/g00810/impl.quarterTurns"] gs q := hV
  obtain ⟨g9, t9, cs9, fuel9, d9, p9, rfl, _⟩ := trodVars_one hV0
  obtain ⟨a0, len0, cap0, rfl⟩ := okWide_slice Tryd.underlying22 (hval 0 22 v0 rfl rfl)
  have k0 := h0
  have lt0 : ∀ x ∈ p0, x.block < W.heap.size := by obtain ⟨m, hm⟩ := k0; exact DataW.trod_lt m _ _ _ hm
  obtain ⟨z0, w0⟩ := isInts_of Tryd.underlying22 Tryd.underlying5 (by kernel_rfl) h0
  clear hA0 hval0
  refine (walk W (laid_all hL) a0 len0 cap0 z0 w0).mono fun e W' ⟨he, bel⟩ => ?_
  subst he
  exact ⟨_, rfl, _, _, _, [], _, q, hW', trodAll_mk1 (shut_bool Tryd.underlying4 _), (trodAll_cons_mk (Below.trod laidOut (by kernel_rfl) (of_decide_eq_true (by kernel_rfl)) k0 bel lt0) trodAll_mk0), (Below.trodVars laidOut bel (by kernel_rfl) hV0), bel.frame _, fun h => by cases h⟩

theorem over : Rows.fnPosesRow.holds Tryd.pinned (OpenSpec.ofChange Rows.fnPosesSpec) :=
  OpenClaim.holds_of_wide 3 Tryd.f3 rfl rfl rfl rfl rfl rfl rfl ⟨rfl, rfl, rfl, rfl, rfl⟩ rfl rfl rfl rfl rfl (by kernel_rfl) Tryd.func3 (by kernel_rfl)
    (of_decide_eq_true (by kernel_rfl)) (by unfold Func.isWrapper; first | (rw [if_pos (by decide +kernel)]; kernel_rfl) | (rw [if_neg (by decide +kernel)]; exact ⟨rfl, rfl⟩))
    (fun os started H enc _ => lifted os started H enc)

theorem bare : Rows.FnPosesSaid := over
theorem proved : Rows.FnPosesCardSaid :=
  Claim7.holds_tied_plain_at .later [] [.data, .data, .data, .sentinel, .sentinel, .wider] true (true, "49dc16c195214d18f32f0d0e2af27782907544120f44ec4e732deecaf02b8adb") true
    bare (fun _ h => by cases h) (by kernel_rfl) (fun _ h => by cases h) fnPoses_row_tie rfl ⟨rfl, rfl⟩ (by kernel_rfl) rfl
    (fun f fn hf hfn => by
      obtain rfl : f = 3 := Option.some.inj ((show Tryd.prog.funcNamed "loop.example/g00810/laws.FnPoses" = some 3 by kernel_rfl).symm.trans hf) |>.symm
      obtain rfl : fn = Tryd.f3 := (Option.some.inj (Tryd.func3.symm.trans hfn)).symm
      exact ⟨by kernel_rfl, fun j t ht => by
        rw [Tryd.params3] at ht
        have hm : t ∈ [22] := by simpa using Array.mem_of_getElem? ht
        have hall : ([22].all fun u => !Tryd.prog.wantsStandIn u) = true := by kernel_rfl
        exact (show Tryd.prog.wantsStandIn t = false by simpa using List.all_eq_true.1 hall t hm)⟩)
    (by kernel_rfl)
#print axioms proved
end Go.Proofs.YtdilgjakodimbaaDoor.lawTopPoses
