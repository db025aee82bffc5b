/- Proved: at every slice of links and every slice of points, impl.TotalEnergy answers as its model spec.TotalEnergy in every result, writes into no argument, its answer owns its memory, the call returns true and changes no memory that was there. Conditions: none. -/
import Derived.Test.YtaboodioabopnaaGreatRows
import Derived.Test.YtaboodioabopnaaGreatB1
import Derived.Test.YtaboodioabopnaaGreatOpenL
import Derived.Test.YtaboodioabopnaaGreatLkBase
import Derived.Test.YtaboodioabopnaaGreatMarkL
import Derived.Test.YtaboodioabopnaaGreatHand
import Derived.Test.YtaboodioabopnaaGreatRecPoint
import Derived.Test.YtaboodioabopnaaGreatMarkPoint
import Derived.Test.YtaboodioabopnaaGreatSetAid
import Derived.Test.YtaboodioabopnaaGreatTotal
import Derived.WalkKit
import Derived.ProofKit
import Derived.OpenShut
import Derived.ShutString
import Derived.ChangeOld
import Derived.Below
namespace Go.Proofs.YtaboodioabopnaaGreat.lawTotalEnergy
open Go.ChangeShapes Go.WideShapes Go.ChangeAt Go.RowKit
open Go.ChangeMaps (open_string shut_string)
set_option linter.unusedVariables false

theorem own : ownKnob Tryz.prog.godebug = none := by kernel_rfl
theorem laidOut : laidOutB Tryz.prog = true := by kernel_rfl
open Nt Fr

set_option maxRecDepth 100000 in
set_option maxHeartbeats 80000000 in
theorem walk (W : World) (a0 : Option Addr) (len0 cap0 : Nat) (z0 : List Lr) (w0 : IsLinks W a0 len0 cap0 z0) (a1 : Option Addr) (len1 cap1 : Nat) (z1 : List Rc) (w1 : RRow 6 0 2 W a1 len1 z1 ∧ len1 ≤ cap1 ∧ cap1 ≤ maxLen) :
    Calls Tryz.prog 4 #[.slice a0 len0 cap0, .slice a1 len1 cap1] W fun e w' => e = .returned (.bool true) ∧ Below W.heap.size W w' := by
  obtain ⟨hA, hcap0, hcm⟩ := w0
  have hlm : len0 ≤ 9223372036854775807 := by unfold maxLen at hcm; omega
  have HZ := Lib.hid hA.1
  have HA := Lib.hid hA
  clear hA hcm
  obtain ⟨hA, hcap1, hcm⟩ := w1
  have hlm1 : len1 ≤ 9223372036854775807 := by unfold maxLen at hcm; omega
  have HZ1 := Lib.hid hA.len
  have HA1 := Lib.hid hA
  clear hA hcm
  have S_1 := Lib.hid (show St W W (([])) (([])) from St.start W)
  go_enter Tryz.func4, Tryz.ntmps4
  go_wp2_with fail
  refine (szLinkS_any a0 len0 cap0 z0 1048576 _ (by omega) (by omega) (HA.out.below S_1.out.below) hlm).mono ?_
  rintro e w1_ ⟨rfl, hb⟩
  have S_2 := Lib.hid (S_1.out.call hb)
  clear S_1
  clear hb
  by_cases hs0 : (1048576 : Int) < ((len0 + lensL z0 : Nat) : Int)
  · rw [szOf_neg hs0]
    go_wp2
    go_ret
    exact ⟨rfl, S_2.out.below⟩
  rw [szOf_pos hs0]
  obtain ⟨left0, hq0⟩ : ∃ q : Int, 1048576 - ((len0 + lensL z0 : Nat) : Int) = q := ⟨_, rfl⟩
  have hl0_ : 0 ≤ left0 ∧ left0 ≤ 1048576 ∧ len0 + lensL z0 ≤ 1048576 := by omega
  rw [hq0]
  have HN := Lib.hid hl0_.2.2
  have hl1 : len0 ≤ 1048576 := by omega
  clear hq0 hs0
  go_wp2_with fail
  refine (szPointS_any a1 len1 cap1 z1 left0 _ (by omega) (by omega) (HA1.out.below S_2.out.below) hlm1).mono ?_
  rintro e w2_ ⟨rfl, hb⟩
  have S_3 := Lib.hid (S_2.out.call hb)
  clear S_2
  clear hb
  by_cases hs1 : (left0 : Int) < ((len1 + lensR z1 : Nat) : Int)
  · rw [szOf_neg hs1]
    go_wp2
    go_ret
    exact ⟨rfl, S_3.out.below⟩
  rw [szOf_pos hs1]
  obtain ⟨left1, hq1⟩ : ∃ q : Int, left0 - ((len1 + lensR z1 : Nat) : Int) = q := ⟨_, rfl⟩
  have hl1_ : 0 ≤ left1 ∧ left1 ≤ 1048576 ∧ len1 + lensR z1 ≤ 1048576 := by omega
  rw [hq1]
  have HN1 := Lib.hid hl1_.2.2
  have hl2 : len1 ≤ 1048576 := by omega
  clear hq1 hs1
  obtain ⟨rok, hrok⟩ : ∃ z, teOk z0 (dats z1) = z := ⟨_, rfl⟩
  obtain ⟨RE, hRE⟩ : ∃ z, tk rok (teSum z0 (dats z1)) = z := ⟨_, rfl⟩
  have hlen : RE.len ≤ 1048576 := Nat.le_trans (hRE ▸ tk_good (teSum_good _ _) : RE.Good).len (by decide)
  have HS := Lib.hid (show ∀ (A : Option Addr) (c : Nat) (ys : List Lr) (D : Option Addr) (d : Nat) (ps : List Rc) (u : World), ys.length = len0 → (∀ (i : Nat) (y z : Lr), ys[i]? = some y → z0[i]? = some z → y.like z) → dats ps = dats z1 → LArg u A len0 ys → RArg 6 0 2 u D len1 ps → Calls Tryz.prog 12 #[.slice A len0 c, .slice D len1 d] u (OwnFB RE rok u) from fun A c ys D d ps u e1 e2 e3 h1 h2 => by
    have h := totalEnergy_s A len0 c ys D len1 d ps u h1 h2 hl1 hl2
    unfold OwnTE at h
    rw [e3, teOk_like e1 HZ.out e2, teSum_like e1 HZ.out e2, hrok, hRE] at h
    exact h)
  have HI := Lib.hid (show ∀ (A : Option Addr) (c : Nat) (ys : List Lr) (D : Option Addr) (d : Nat) (ps : List Rc) (u : World), ys.length = len0 → (∀ (i : Nat) (y z : Lr), ys[i]? = some y → z0[i]? = some z → y.like z) → dats ps = dats z1 → LArg u A len0 ys → RArg 6 0 2 u D len1 ps → Calls Tryz.prog 15 #[.slice A len0 c, .slice D len1 d] u (OwnFB RE rok u) from fun A c ys D d ps u e1 e2 e3 h1 h2 => by
    have h := totalEnergy_i A len0 c ys D len1 d ps u h1 h2 hl1 hl2
    unfold OwnTE at h
    rw [e3, teOk_like e1 HZ.out e2, teSum_like e1 HZ.out e2, hrok, hRE] at h
    exact h)
  clear hrok hRE
  go_wp2_with fail
  refine (toLinkS_any a0 len0 cap0 z0 _ (HA.out.below S_3.out.below) HN.out).mono ?_
  rintro e w3_ ⟨bt, yt, rfl, hyl, hlk, hst⟩
  rw [HZ.out] at hyl ⊢
  have HYt := Lib.hid hyl
  have HKt := Lib.hid hlk
  have S_4 := Lib.hid (show St W w3_ ((bt, cellsL yt) :: ([])) (rowsL yt :: ([])) from S_3.out.comp hst)
  clear S_3
  clear hyl hlk hst
  go_wp2_with fail
  refine (toPointS_any a1 len1 cap1 z1 _ (HA1.out.below S_4.out.below) HN1.out).mono ?_
  rintro e w4_ ⟨btp, ytp, rfl, hd, hsh, hst⟩
  rw [HZ1.out]
  have HDtp := Lib.hid hd
  have HStp := Lib.hid hsh
  have HYtp := Lib.hid (show ytp.length = len1 by rw [← dats_len, hd, dats_len]; exact HZ1.out)
  have S_5 := Lib.hid (show St W w4_ ((btp, cellsR ytp) :: (bt, cellsL yt) :: ([])) (rowsR ytp :: rowsL yt :: ([])) from S_4.out.comp hst)
  clear S_4
  clear hd hsh hst
  go_wp2_with fail
  refine (HS.out (some ⟨bt, 0, none⟩) len0 yt (some ⟨btp, 0, none⟩) len1 ytp _ HYt.out HKt.out HDtp.out (HYt.out ▸ S_5.out.larg 1 1 rfl rfl) (HYtp.out ▸ S_5.out.rarg 0 0 HStp.out rfl rfl rfl)).mono ?_
  rintro e w5_ ⟨vw, uw, rfl, ho, hb⟩
  obtain ⟨Aw, nw, cw, rfl⟩ := (ho.at_ 0 rfl).shape3
  obtain ⟨Bw, mw, dw, rfl⟩ := (ho.at_ 1 rfl).shape3
  have S_6 := Lib.hid (show St W w5_ ((btp, cellsR ytp) :: (bt, cellsL yt) :: ([])) ([((.slice Aw nw cw), ints RE.xs), ((.slice Bw mw dw), ints RE.ys)] :: rowsR ytp :: rowsL yt :: ([])) from S_5.out.rows ho hb)
  clear S_5
  clear ho hb
  have S_7 := Lib.hid (S_6.out.alloc [.bool RE.s, (.slice Aw nw cw), (.slice Bw mw dw)] 37)
  clear S_6
  have hne_tp_w := S_7.out.ne 1 0 rfl rfl (by decide)
  have hne_w_tp := S_7.out.ne 0 1 rfl rfl (by decide)
  have hne_t_w := S_7.out.ne 2 0 rfl rfl (by decide)
  have hne_w_t := S_7.out.ne 0 2 rfl rfl (by decide)
  have S_8 := Lib.hid (show St W (w5_.alloc (.cells #[.bool RE.s, (.slice Aw nw cw), (.slice Bw mw dw)] 37)) ((w5_.heap.size, [.bool RE.s, (.slice Aw nw cw), (.slice Bw mw dw)]) :: ([])) ([((.slice Aw nw cw), ints RE.xs), ((.slice Bw mw dw), ints RE.ys)] :: ([])) from ((((S_7.out.dropBox 2).dropBox 1).drop 2).drop 1))
  clear S_7
  go_wp2_with fail
  refine (toLinkS_any a0 len0 cap0 z0 _ (HA.out.below S_8.out.below) HN.out).mono ?_
  rintro e w6_ ⟨bx, yx, rfl, hyl, hlk, hst⟩
  rw [HZ.out] at hyl ⊢
  have HYx := Lib.hid hyl
  have HKx := Lib.hid hlk
  have S_9 := Lib.hid (show St W w6_ ((bx, cellsL yx) :: (w5_.heap.size, [.bool RE.s, (.slice Aw nw cw), (.slice Bw mw dw)]) :: ([])) (rowsL yx :: [((.slice Aw nw cw), ints RE.xs), ((.slice Bw mw dw), ints RE.ys)] :: ([])) from S_8.out.comp hst)
  clear S_8
  clear hyl hlk hst
  go_wp2_with fail
  refine (toPointS_any a1 len1 cap1 z1 _ (HA1.out.below S_9.out.below) HN1.out).mono ?_
  rintro e w7_ ⟨bxp, yxp, rfl, hd, hsh, hst⟩
  rw [HZ1.out]
  have HDxp := Lib.hid hd
  have HSxp := Lib.hid hsh
  have HYxp := Lib.hid (show yxp.length = len1 by rw [← dats_len, hd, dats_len]; exact HZ1.out)
  have S_10 := Lib.hid (show St W w7_ ((bxp, cellsR yxp) :: (bx, cellsL yx) :: (w5_.heap.size, [.bool RE.s, (.slice Aw nw cw), (.slice Bw mw dw)]) :: ([])) (rowsR yxp :: rowsL yx :: [((.slice Aw nw cw), ints RE.xs), ((.slice Bw mw dw), ints RE.ys)] :: ([])) from S_9.out.comp hst)
  clear S_9
  clear hd hsh hst
  go_wp2_with fail
  refine (HI.out (some ⟨bx, 0, none⟩) len0 yx (some ⟨bxp, 0, none⟩) len1 yxp _ HYx.out HKx.out HDxp.out (HYx.out ▸ S_10.out.larg 1 1 rfl rfl) (HYxp.out ▸ S_10.out.rarg 0 0 HSxp.out rfl rfl rfl)).mono ?_
  rintro e w8_ ⟨vg, ug, rfl, ho, hb⟩
  obtain ⟨Ag, ng, cg, rfl⟩ := (ho.at_ 0 rfl).shape3
  obtain ⟨Bg, mg, dg, rfl⟩ := (ho.at_ 1 rfl).shape3
  have S_11 := Lib.hid (show St W w8_ ((bxp, cellsR yxp) :: (bx, cellsL yx) :: (w5_.heap.size, [.bool RE.s, (.slice Aw nw cw), (.slice Bw mw dw)]) :: ([])) ([((.slice Ag ng cg), ints RE.xs), ((.slice Bg mg dg), ints RE.ys)] :: rowsR yxp :: rowsL yx :: [((.slice Aw nw cw), ints RE.xs), ((.slice Bw mw dw), ints RE.ys)] :: ([])) from S_10.out.rows ho hb)
  clear S_10
  clear ho hb
  have S_12 := Lib.hid (S_11.out.alloc [.bool RE.s, (.slice Ag ng cg), (.slice Bg mg dg)] 37)
  clear S_11
  have hne_xp_g := S_12.out.ne 1 0 rfl rfl (by decide)
  have hne_g_xp := S_12.out.ne 0 1 rfl rfl (by decide)
  have hne_x_g := S_12.out.ne 2 0 rfl rfl (by decide)
  have hne_g_x := S_12.out.ne 0 2 rfl rfl (by decide)
  have hne_w_g := S_12.out.ne 3 0 rfl rfl (by decide)
  have hne_g_w := S_12.out.ne 0 3 rfl rfl (by decide)
  have hk_g_0_12 := S_12.out.cell 0 0 rfl rfl
  have hk_g_1_12 := S_12.out.cell 0 1 rfl rfl
  have hk_g_2_12 := S_12.out.cell 0 2 rfl rfl
  have hk_w_0_12 := S_12.out.cell 3 0 rfl rfl
  have hk_w_1_12 := S_12.out.cell 3 1 rfl rfl
  have hk_w_2_12 := S_12.out.cell 3 2 rfl rfl
  go_wp2_with fail
  refine (eqRat_f RE (.slice Ag ng cg) (.slice Bg mg dg) _ (.slice Aw nw cw) (.slice Bw mw dw) (S_12.out.fr 0 0 rfl rfl rfl).i (S_12.out.fr 3 0 rfl rfl rfl).i).mono ?_
  rintro e w9_ ⟨rfl, hb⟩
  have S_13 := Lib.hid (S_12.out.call hb)
  clear S_12
  clear hb
  clear hk_g_0_12 hk_g_1_12 hk_g_2_12 hk_w_0_12 hk_w_1_12 hk_w_2_12
  go_wp2_with fail
  refine (toLinkS_any a0 len0 cap0 z0 _ (HA.out.below S_13.out.below) HN.out).mono ?_
  rintro e w10_ ⟨bu, yu, rfl, hyl, hlk, hst⟩
  rw [HZ.out] at hyl ⊢
  have HYu := Lib.hid hyl
  have HKu := Lib.hid hlk
  have S_14 := Lib.hid (show St W w10_ ((bu, cellsL yu) :: (w8_.heap.size, [.bool RE.s, (.slice Ag ng cg), (.slice Bg mg dg)]) :: (bxp, cellsR yxp) :: (bx, cellsL yx) :: (w5_.heap.size, [.bool RE.s, (.slice Aw nw cw), (.slice Bw mw dw)]) :: ([])) (rowsL yu :: [((.slice Ag ng cg), ints RE.xs), ((.slice Bg mg dg), ints RE.ys)] :: rowsR yxp :: rowsL yx :: [((.slice Aw nw cw), ints RE.xs), ((.slice Bw mw dw), ints RE.ys)] :: ([])) from S_13.out.comp hst)
  clear S_13
  clear hyl hlk hst
  go_wp2_with fail
  refine (eqLinkS_same (some ⟨bx, 0, none⟩) (some ⟨bu, 0, none⟩) len0 len0 len0 yx yu _ (HYx.out ▸ S_14.out.lrow 3 3 rfl rfl) (HYu.out ▸ S_14.out.lrow 0 0 rfl rfl) (like_both HYx.out HYu.out HZ.out HKx.out HKu.out) hl1).mono ?_
  rintro e w11_ ⟨rfl, hb⟩
  have S_15 := Lib.hid (S_14.out.call hb)
  clear S_14
  clear hb
  have S_16 := Lib.hid (show St W w11_ ((w8_.heap.size, [.bool RE.s, (.slice Ag ng cg), (.slice Bg mg dg)]) :: (bxp, cellsR yxp) :: (bx, cellsL yx) :: (w5_.heap.size, [.bool RE.s, (.slice Aw nw cw), (.slice Bw mw dw)]) :: ([])) ([((.slice Ag ng cg), ints RE.xs), ((.slice Bg mg dg), ints RE.ys)] :: rowsR yxp :: rowsL yx :: [((.slice Aw nw cw), ints RE.xs), ((.slice Bw mw dw), ints RE.ys)] :: ([])) from ((S_15.out.dropBox 0).drop 0))
  clear S_15
  go_wp2_with fail
  refine (toPointS_any a1 len1 cap1 z1 _ (HA1.out.below S_16.out.below) HN1.out).mono ?_
  rintro e w12_ ⟨bup, yup, rfl, hd, hsh, hst⟩
  rw [HZ1.out]
  have HDup := Lib.hid hd
  have HSup := Lib.hid hsh
  have HYup := Lib.hid (show yup.length = len1 by rw [← dats_len, hd, dats_len]; exact HZ1.out)
  have S_17 := Lib.hid (show St W w12_ ((bup, cellsR yup) :: (w8_.heap.size, [.bool RE.s, (.slice Ag ng cg), (.slice Bg mg dg)]) :: (bxp, cellsR yxp) :: (bx, cellsL yx) :: (w5_.heap.size, [.bool RE.s, (.slice Aw nw cw), (.slice Bw mw dw)]) :: ([])) (rowsR yup :: [((.slice Ag ng cg), ints RE.xs), ((.slice Bg mg dg), ints RE.ys)] :: rowsR yxp :: rowsL yx :: [((.slice Aw nw cw), ints RE.xs), ((.slice Bw mw dw), ints RE.ys)] :: ([])) from S_16.out.comp hst)
  clear S_16
  clear hd hsh hst
  go_wp2_with fail
  refine (eqPointS_same (some ⟨bxp, 0, none⟩) (some ⟨bup, 0, none⟩) len1 len1 len1 yxp yup _ (HYxp.out ▸ S_17.out.rrow 2 2 HSxp.out rfl rfl rfl) (HYup.out ▸ S_17.out.rrow 0 0 HSup.out rfl rfl rfl) (HDxp.out.trans HDup.out.symm) hl2).mono ?_
  rintro e w13_ ⟨rfl, hb⟩
  have S_18 := Lib.hid (S_17.out.call hb)
  clear S_17
  clear hb
  have S_19 := Lib.hid (show St W w13_ ((w8_.heap.size, [.bool RE.s, (.slice Ag ng cg), (.slice Bg mg dg)]) :: (bxp, cellsR yxp) :: (bx, cellsL yx) :: (w5_.heap.size, [.bool RE.s, (.slice Aw nw cw), (.slice Bw mw dw)]) :: ([])) ([((.slice Ag ng cg), ints RE.xs), ((.slice Bg mg dg), ints RE.ys)] :: rowsR yxp :: rowsL yx :: [((.slice Aw nw cw), ints RE.xs), ((.slice Bw mw dw), ints RE.ys)] :: ([])) from ((S_18.out.dropBox 0).drop 0))
  clear S_18
  go_wp2_with fail
  have S_20 := Lib.hid (show St W w13_ ((bx, cellsL yx) :: (w8_.heap.size, [.bool RE.s, (.slice Ag ng cg), (.slice Bg mg dg)]) :: (bxp, cellsR yxp) :: (w5_.heap.size, [.bool RE.s, (.slice Aw nw cw), (.slice Bw mw dw)]) :: ([])) (rowsL yx :: [((.slice Ag ng cg), ints RE.xs), ((.slice Bg mg dg), ints RE.ys)] :: rowsR yxp :: [((.slice Aw nw cw), ints RE.xs), ((.slice Bw mw dw), ints RE.ys)] :: ([])) from S_19.out.front 2 2 rfl rfl)
  clear S_19
  have hll : lensL yx = lensL z0 := lensL_likeT HYx.out HZ.out HKx.out
  refine (markLinkS_f bx len0 len0 1 1 (by rfl) yx W _ _ _ HYx.out S_20.out (by rw [hll]; have := HN.out; omega)).mono ?_
  rintro e w14_ ⟨rfl, hst⟩
  rw [hll]
  have S_21 := Lib.hid (show St W w14_ ((w8_.heap.size, [.bool RE.s, (.slice Ag ng cg), (.slice Bg mg dg)]) :: (bxp, cellsR yxp) :: (w5_.heap.size, [.bool RE.s, (.slice Aw nw cw), (.slice Bw mw dw)]) :: ([])) ([((.slice Ag ng cg), ints RE.xs), ((.slice Bg mg dg), ints RE.ys)] :: rowsR yxp :: [((.slice Aw nw cw), ints RE.xs), ((.slice Bw mw dw), ints RE.ys)] :: ([])) from (hst.dropBox 0).drop 0)
  clear S_20
  clear hst hll
  obtain ⟨km, hkm⟩ : ∃ q : Nat, 1 + 5 * len0 + lensL z0 = q := ⟨_, rfl⟩
  have hkmb : km ≤ 6291456 := by have := HN.out; omega
  rw [hkm]
  clear hkm
  go_wp2_with fail
  have S_22 := Lib.hid (show St W w14_ ((bxp, cellsR yxp) :: (w8_.heap.size, [.bool RE.s, (.slice Ag ng cg), (.slice Bg mg dg)]) :: (w5_.heap.size, [.bool RE.s, (.slice Aw nw cw), (.slice Bw mw dw)]) :: ([])) (rowsR yxp :: [((.slice Ag ng cg), ints RE.xs), ((.slice Bg mg dg), ints RE.ys)] :: [((.slice Aw nw cw), ints RE.xs), ((.slice Bw mw dw), ints RE.ys)] :: ([])) from S_21.out.front 1 1 rfl rfl)
  clear S_21
  have hll : lensR yxp = lensR z1 := lensR_dats HDxp.out
  refine (markPointS_f bxp len1 len1 km _ (by rfl) yxp W _ _ _ HYxp.out HSxp.out S_22.out (by rw [hll]; have := HN1.out; omega)).mono ?_
  rintro e w15_ ⟨rfl, hst⟩
  rw [hll]
  have S_23 := Lib.hid (show St W w15_ ((w8_.heap.size, [.bool RE.s, (.slice Ag ng cg), (.slice Bg mg dg)]) :: (w5_.heap.size, [.bool RE.s, (.slice Aw nw cw), (.slice Bw mw dw)]) :: ([])) ([((.slice Ag ng cg), ints RE.xs), ((.slice Bg mg dg), ints RE.ys)] :: [((.slice Aw nw cw), ints RE.xs), ((.slice Bw mw dw), ints RE.ys)] :: ([])) from (hst.dropBox 0).drop 0)
  clear S_22
  clear hst hll
  obtain ⟨k2, hk2⟩ : ∃ q : Nat, km + 2 * len1 + lensR z1 = q := ⟨_, rfl⟩
  rw [hk2]
  have hk20 : decide ((k2 : Int) < 0) = false := decide_eq_false (by omega)
  clear hk2
  have hk_g_0_23 := S_23.out.cell 0 0 rfl rfl
  have hk_g_1_23 := S_23.out.cell 0 1 rfl rfl
  have hk_g_2_23 := S_23.out.cell 0 2 rfl rfl
  have hk_w_0_23 := S_23.out.cell 1 0 rfl rfl
  have hk_w_1_23 := S_23.out.cell 1 1 rfl rfl
  have hk_w_2_23 := S_23.out.cell 1 2 rfl rfl
  go_wp2_with fail
  refine (eqRat_f RE (.slice Ag ng cg) (.slice Bg mg dg) _ (.slice Aw nw cw) (.slice Bw mw dw) (S_23.out.fr 0 0 rfl rfl rfl).i (S_23.out.fr 1 0 rfl rfl rfl).i).mono ?_
  rintro e w16_ ⟨rfl, hb⟩
  have S_24 := Lib.hid (S_23.out.call hb)
  clear S_23
  clear hb
  clear hk_g_0_23 hk_g_1_23 hk_g_2_23 hk_w_0_23 hk_w_1_23 hk_w_2_23
  have hk_g_0_24 := S_24.out.cell 0 0 rfl rfl
  have hk_g_1_24 := S_24.out.cell 0 1 rfl rfl
  have hk_g_2_24 := S_24.out.cell 0 2 rfl rfl
  go_wp2_with fail
  obtain ⟨m0, hm0⟩ : ∃ z, lenL [((.slice Ag ng cg), ints RE.xs), ((.slice Bg mg dg), ints RE.ys)] = z := ⟨_, rfl⟩
  have hbm0 : m0 ≤ 2097152 := by rw [← hm0]; simp only [lenL, ints_len]; have h9 := hlen; simp only [Fr.len] at h9; omega
  have Hm0 := Lib.hid hm0
  clear hm0
  refine (markRat_f (.slice Ag ng cg) (.slice Bg mg dg) _ RE.s (ints RE.xs) (ints RE.ys) (1) W.heap.size _ (by first | rfl | omega) (S_24.out.own 0 rfl) (by rw [show lenL _ = m0 from Hm0.out]; omega)).mono ?_
  rintro e w17_ ⟨rfl, ho, ht⟩
  rw [show lenL _ = m0 from Hm0.out]
  have S_25 := Lib.hid (S_24.out.marked 0 rfl ho ht)
  clear S_24
  clear ho ht
  clear hk_g_0_24 hk_g_1_24 hk_g_2_24
  have hk_g_0_25 := S_25.out.cell 0 0 rfl rfl
  have hk_g_1_25 := S_25.out.cell 0 1 rfl rfl
  have hk_g_2_25 := S_25.out.cell 0 2 rfl rfl
  go_wp2_with fail
  refine (heldRat_f (.slice Ag ng cg) (.slice Bg mg dg) _ RE.s (ints RE.xs) (ints RE.ys) (1) W.heap.size _ (by first | rfl | omega) (S_25.out.own 0 rfl) (by rw [show lenL _ = m0 from Hm0.out]; omega)).mono ?_
  rintro e w18_ ⟨rfl, hb⟩
  rw [show lenL _ = m0 from Hm0.out]
  have S_26 := Lib.hid (S_25.out.call hb)
  clear S_25
  clear hb
  clear hk_g_0_25 hk_g_1_25 hk_g_2_25
  go_wp2_with fail
  refine (toLinkS_any a0 len0 cap0 z0 _ (HA.out.below S_26.out.below) HN.out).mono ?_
  rintro e w19_ ⟨bz, yz, rfl, hyl, hlk, hst⟩
  rw [HZ.out] at hyl ⊢
  have HYz := Lib.hid hyl
  have HKz := Lib.hid hlk
  have S_27 := Lib.hid (show St W w19_ ((bz, cellsL yz) :: (w8_.heap.size, [.bool RE.s, (.slice Ag ng cg), (.slice Bg mg dg)]) :: (w5_.heap.size, [.bool RE.s, (.slice Aw nw cw), (.slice Bw mw dw)]) :: ([])) (rowsL yz :: markL (1) [((.slice Ag ng cg), ints RE.xs), ((.slice Bg mg dg), ints RE.ys)] :: [((.slice Aw nw cw), ints RE.xs), ((.slice Bw mw dw), ints RE.ys)] :: ([])) from S_26.out.comp hst)
  clear S_26
  clear hyl hlk hst
  go_wp2_with fail
  refine (toPointS_any a1 len1 cap1 z1 _ (HA1.out.below S_27.out.below) HN1.out).mono ?_
  rintro e w20_ ⟨bzp, yzp, rfl, hd, hsh, hst⟩
  rw [HZ1.out]
  have HDzp := Lib.hid hd
  have HSzp := Lib.hid hsh
  have HYzp := Lib.hid (show yzp.length = len1 by rw [← dats_len, hd, dats_len]; exact HZ1.out)
  have S_28 := Lib.hid (show St W w20_ ((bzp, cellsR yzp) :: (bz, cellsL yz) :: (w8_.heap.size, [.bool RE.s, (.slice Ag ng cg), (.slice Bg mg dg)]) :: (w5_.heap.size, [.bool RE.s, (.slice Aw nw cw), (.slice Bw mw dw)]) :: ([])) (rowsR yzp :: rowsL yz :: markL (1) [((.slice Ag ng cg), ints RE.xs), ((.slice Bg mg dg), ints RE.ys)] :: [((.slice Aw nw cw), ints RE.xs), ((.slice Bw mw dw), ints RE.ys)] :: ([])) from S_27.out.comp hst)
  clear S_27
  clear hd hsh hst
  go_wp2_with fail
  refine (HI.out (some ⟨bz, 0, none⟩) len0 yz (some ⟨bzp, 0, none⟩) len1 yzp _ HYz.out HKz.out HDzp.out (HYz.out ▸ S_28.out.larg 1 1 rfl rfl) (HYzp.out ▸ S_28.out.rarg 0 0 HSzp.out rfl rfl rfl)).mono ?_
  rintro e w21_ ⟨vh, uh, rfl, ho, hb⟩
  obtain ⟨Ah, nh, ch, rfl⟩ := (ho.at_ 0 rfl).shape3
  obtain ⟨Bh, mh, dh, rfl⟩ := (ho.at_ 1 rfl).shape3
  have S_29 := Lib.hid (show St W w21_ ((bzp, cellsR yzp) :: (bz, cellsL yz) :: (w8_.heap.size, [.bool RE.s, (.slice Ag ng cg), (.slice Bg mg dg)]) :: (w5_.heap.size, [.bool RE.s, (.slice Aw nw cw), (.slice Bw mw dw)]) :: ([])) ([((.slice Ah nh ch), ints RE.xs), ((.slice Bh mh dh), ints RE.ys)] :: rowsR yzp :: rowsL yz :: markL (1) [((.slice Ag ng cg), ints RE.xs), ((.slice Bg mg dg), ints RE.ys)] :: [((.slice Aw nw cw), ints RE.xs), ((.slice Bw mw dw), ints RE.ys)] :: ([])) from S_28.out.rows ho hb)
  clear S_28
  clear ho hb
  have S_30 := Lib.hid (S_29.out.alloc [.bool RE.s, (.slice Ah nh ch), (.slice Bh mh dh)] 37)
  clear S_29
  have hne_zp_h := S_30.out.ne 1 0 rfl rfl (by decide)
  have hne_h_zp := S_30.out.ne 0 1 rfl rfl (by decide)
  have hne_z_h := S_30.out.ne 2 0 rfl rfl (by decide)
  have hne_h_z := S_30.out.ne 0 2 rfl rfl (by decide)
  have hne_g_h := S_30.out.ne 3 0 rfl rfl (by decide)
  have hne_h_g := S_30.out.ne 0 3 rfl rfl (by decide)
  have hne_w_h := S_30.out.ne 4 0 rfl rfl (by decide)
  have hne_h_w := S_30.out.ne 0 4 rfl rfl (by decide)
  have S_31 := Lib.hid (show St W (w21_.alloc (.cells #[.bool RE.s, (.slice Ah nh ch), (.slice Bh mh dh)] 37)) ((w21_.heap.size, [.bool RE.s, (.slice Ah nh ch), (.slice Bh mh dh)]) :: (w8_.heap.size, [.bool RE.s, (.slice Ag ng cg), (.slice Bg mg dg)]) :: (w5_.heap.size, [.bool RE.s, (.slice Aw nw cw), (.slice Bw mw dw)]) :: ([])) ([((.slice Ah nh ch), ints RE.xs), ((.slice Bh mh dh), ints RE.ys)] :: markL (1) [((.slice Ag ng cg), ints RE.xs), ((.slice Bg mg dg), ints RE.ys)] :: [((.slice Aw nw cw), ints RE.xs), ((.slice Bw mw dw), ints RE.ys)] :: ([])) from ((((S_30.out.dropBox 2).dropBox 1).drop 2).drop 1))
  clear S_30
  have hk_h_0_31 := S_31.out.cell 0 0 rfl rfl
  have hk_h_1_31 := S_31.out.cell 0 1 rfl rfl
  have hk_h_2_31 := S_31.out.cell 0 2 rfl rfl
  have hk_w_0_31 := S_31.out.cell 2 0 rfl rfl
  have hk_w_1_31 := S_31.out.cell 2 1 rfl rfl
  have hk_w_2_31 := S_31.out.cell 2 2 rfl rfl
  go_wp2_with fail
  refine (eqRat_f RE (.slice Ah nh ch) (.slice Bh mh dh) _ (.slice Aw nw cw) (.slice Bw mw dw) (S_31.out.fr 0 0 rfl rfl rfl).i (S_31.out.fr 2 0 rfl rfl rfl).i).mono ?_
  rintro e w22_ ⟨rfl, hb⟩
  have S_32 := Lib.hid (S_31.out.call hb)
  clear S_31
  clear hb
  clear hk_h_0_31 hk_h_1_31 hk_h_2_31 hk_w_0_31 hk_w_1_31 hk_w_2_31
  have hk_g_0_32 := S_32.out.cell 1 0 rfl rfl
  have hk_g_1_32 := S_32.out.cell 1 1 rfl rfl
  have hk_g_2_32 := S_32.out.cell 1 2 rfl rfl
  go_wp2_with fail
  refine (heldRat_f (.slice Ag ng cg) (.slice Bg mg dg) _ RE.s (ints RE.xs) (ints RE.ys) (1) W.heap.size _ (by first | rfl | omega) (S_32.out.own 1 rfl) (by rw [show lenL _ = m0 from Hm0.out]; omega)).mono ?_
  rintro e w23_ ⟨rfl, hb⟩
  rw [show lenL _ = m0 from Hm0.out]
  have S_33 := Lib.hid (S_32.out.call hb)
  clear S_32
  clear hb
  clear hk_g_0_32 hk_g_1_32 hk_g_2_32
  go_wp2
  go_ret
  exact ⟨rfl, S_33.out.below⟩

set_option maxRecDepth 100000 in
theorem lifted (os : Os) (started : os.Started) (H : Type) (enc : TypeId × Value → H) :
    ReturnsInHanded {} Tryz.checked os 4 .any (Rows.fnExactTotalEnergySpec.pre6 enc Tryz.prog Tryz.f4 Rows.fnExactTotalEnergyRow.domain false) (Rows.fnExactTotalEnergySpec.post enc Tryz.prog Tryz.f4 false true false false) := by
  refine returnsInHanded_of_change (C := Tryz.checked) own started (by kernel_rfl) Tryz.func4
    (ChangeSpec.witness6 (enc := enc) (C := Tryz.checked) false ⟨#[], #[.slice none 0 0, .slice none 0 0], []⟩ 8 (by kernel_rfl) (by kernel_rfl) (by kernel_rfl) (by kernel_rfl)) ?_
  intro W base args ds gs before hval0 hW hcnd _
  have hval : ∀ (j : Nat) t v, Tryz.f4.params[j]? = some t → args[j]? = some v → Value.okWide Tryz.prog W .any base t v := hval0
  have hW' := hW
  obtain ⟨p, q, hA0, hV, rfl, hfz, hnd⟩ := hW
  have hA : DataW.TrodAll enc Tryz.prog W 0 (fun _ => true) true Tryz.f4.params.toList args.toList ds p := hA0
  rw [Tryz.params4] at hA hval
  obtain ⟨v0, vs0, d0, ds0, p0, q0, hargs, rfl, rfl, h0, r0⟩ := trodAll_cons hA
  obtain ⟨v1, vs1, d1, ds1, p1, q1, rfl, rfl, rfl, h1, r1⟩ := trodAll_cons r0
  obtain ⟨rfl, rfl, rfl⟩ := trodAll_nil r1
  obtain rfl : args = #[v0, v1] := by cases args; simp_all
  obtain ⟨rfl, rfl⟩ := trodVars_none hV
  obtain ⟨a0, len0, cap0, rfl⟩ := okWide_slice Tryz.underlying29 (hval 0 29 v0 rfl rfl)
  have k0 := h0
  have lt0 : ∀ x ∈ p0, x.block < W.heap.size := by obtain ⟨m, hm⟩ := k0; exact DataW.trod_lt m _ _ _ hm
  obtain ⟨z0, w0⟩ := isLinks_of linkT Tryz.underlying29 h0
  obtain ⟨a1, len1, cap1, rfl⟩ := okWide_slice Tryz.underlying30 (hval 1 30 v1 rfl rfl)
  have k1 := h1
  have lt1 : ∀ x ∈ p1, x.block < W.heap.size := by obtain ⟨m, hm⟩ := k1; exact DataW.trod_lt m _ _ _ hm
  obtain ⟨z1, w1⟩ := isPointS_of pointRcT_p Tryz.underlying30 h1
  clear hA0 hval0
  refine (walk W a0 len0 cap0 z0 w0 a1 len1 cap1 z1 w1).mono fun e W' ⟨he, bel⟩ => ?_
  subst he
  exact ⟨_, rfl, _, _, _, [], _, [], hW', trodAll_mk1 (shut_bool Tryz.underlying4 _), (trodAll_cons_mk (Below.trod laidOut (by kernel_rfl) (of_decide_eq_true (by kernel_rfl)) k0 bel lt0) (trodAll_cons_mk (Below.trod laidOut (by kernel_rfl) (of_decide_eq_true (by kernel_rfl)) k1 bel lt1) trodAll_mk0)), rfl, bel.frame _, fun h => by cases h⟩

theorem over : Rows.fnExactTotalEnergyRow.holds Tryz.pinned (OpenSpec.ofChange Rows.fnExactTotalEnergySpec) :=
  OpenClaim.holds_of_wide 4 Tryz.f4 rfl rfl rfl rfl rfl rfl rfl ⟨rfl, rfl, rfl, rfl, rfl⟩ rfl rfl rfl rfl rfl (by kernel_rfl) Tryz.func4 (by kernel_rfl)
    (of_decide_eq_true (by kernel_rfl)) (by unfold Func.isWrapper; first | (rw [if_pos (by decide +kernel)]; kernel_rfl) | (rw [if_neg (by decide +kernel)]; exact ⟨rfl, rfl⟩))
    (fun os started H enc _ => lifted os started H enc)

theorem proved : Rows.FnExactTotalEnergySaid := over
#print axioms proved
end Go.Proofs.YtaboodioabopnaaGreat.lawTotalEnergy
