/- Proved: at all poses, impl.Between answers as its model spec.Between in every result, the call returns true and changes no memory that was there; the listed variable is tied to the text that lays it. Conditions: none. -/
import Derived.Test.YtdilgjakodimbaaDoorRows
import Derived.Test.YtdilgjakodimbaaDoorOpenP
import Derived.Test.YtdilgjakodimbaaDoorPose5
import Derived.Test.YtdilgjakodimbaaDoorPose6
import Derived.Test.YtdilgjakodimbaaDoorPose7
import Derived.Test.YtdilgjakodimbaaDoorCards
import Derived.Test.YtdilgjakodimbaaDoorTie
import Derived.WalkKit
import Derived.ProofKit
import Derived.OpenShut
import Derived.ShutString
import Derived.ChangeOld
import Derived.Below
import Derived.OpenVars
import Derived.LaidMore
import Derived.Stop.Joined
import Derived.SevenTiedAt
namespace Go.Proofs.YtdilgjakodimbaaDoor.lawBetween
open Go.ChangeShapes Go.WideShapes Go.ChangeAt Go.RowKit
open Go.ChangeMaps (open_string shut_string)
set_option linter.unusedVariables false

theorem own : ownKnob Tryd.prog.godebug = none := by kernel_rfl
theorem laidOut : laidOutB Tryd.prog = true := by kernel_rfl
open Po

set_option maxRecDepth 100000 in
set_option maxHeartbeats 4000000 in
theorem walk (w : World) (hlaid : LaidQ w) (t0 x0 y0 : Int) (t1 x1 y1 : Int) :
    Calls Tryd.prog 8 #[.agg #[.int .i64 t0, .int .i64 x0, .int .i64 y0], .agg #[.int .i64 t1, .int .i64 x1, .int .i64 y1]] w fun e w' => e = .returned (.bool true) ∧ Below w.heap.size w w' := by
  have HL := Lib.hid hlaid
  clear hlaid
  obtain ⟨rt, hrt⟩ : ∃ z, bT t0 x0 y0 t1 x1 y1 = z := ⟨_, rfl⟩
  have Hrt := Lib.hid hrt
  clear hrt
  obtain ⟨rx, hrx⟩ : ∃ z, bX t0 x0 y0 t1 x1 y1 = z := ⟨_, rfl⟩
  have Hrx := Lib.hid hrx
  clear hrx
  obtain ⟨ry, hry⟩ : ∃ z, bY t0 x0 y0 t1 x1 y1 = z := ⟨_, rfl⟩
  have Hry := Lib.hid hry
  clear hry
  go_enter Tryd.func8, Tryd.ntmps8
  have HB_0 := Lib.hid (((Below.refl w.heap.size w).alloc (Nat.le_refl _) (.cells #[.int .i64 t0, .int .i64 x0, .int .i64 y0] 50)).alloc (by simp) (.cells #[.int .i64 t1, .int .i64 x1, .int .i64 y1] 50))
  have K_a_0 := Lib.hid ((HeldL.new_at w (w.heap.size) [.int .i64 t0, .int .i64 x0, .int .i64 y0] 50 (by first | rfl | simp)).alloc (.cells #[.int .i64 t1, .int .i64 x1, .int .i64 y1] 50))
  have K_b_0 := Lib.hid (HeldL.new_at (w.alloc (.cells #[.int .i64 t0, .int .i64 x0, .int .i64 y0] 50)) (w.heap.size + 1) [.int .i64 t1, .int .i64 x1, .int .i64 y1] 50 (by first | rfl | simp))
  have hne_a_b : w.heap.size ≠ w.heap.size + 1 := by omega
  have hne_b_a : w.heap.size + 1 ≠ w.heap.size := by omega
  go_upto_region 1 with fail
  obtain ⟨wa, hwa⟩ : ∃ u, ((w.alloc (.cells #[.int .i64 t0, .int .i64 x0, .int .i64 y0] 50)).alloc (.cells #[.int .i64 t1, .int .i64 x1, .int .i64 y1] 50)) = u := ⟨_, rfl⟩
  rw [hwa] at K_a_0 K_b_0 HB_0 ⊢
  clear hwa
  have hk_a_0_0 := K_a_0.out.cell 0 _ rfl
  have hk_a_1_0 := K_a_0.out.cell 1 _ rfl
  have hk_a_2_0 := K_a_0.out.cell 2 _ rfl
  have hk_b_0_0 := K_b_0.out.cell 0 _ rfl
  have hk_b_1_0 := K_b_0.out.cell 1 _ rfl
  have hk_b_2_0 := K_b_0.out.cell 2 _ rfl
  go_upto_region 1 with fail
  go_cut [5] (fun ptr wx => ∃ blk : Nat, ptr = .pointer (some ⟨blk, 0, none⟩) ∧ w.heap.size ≤ blk ∧ HeldL wx blk [.int .i64 rt, .int .i64 rx, .int .i64 ry] ∧ HeldL wx (w.heap.size) [.int .i64 t0, .int .i64 x0, .int .i64 y0] ∧ HeldL wx (w.heap.size + 1) [.int .i64 t1, .int .i64 x1, .int .i64 y1] ∧ Below w.heap.size w wx)
  case first =>
    go_region_held3 (fun w' => w'.cell? ⟨w.heap.size, 0, none⟩ = some (.int .i64 t0) ∧ w'.cell? ⟨w.heap.size, 1, none⟩ = some (.int .i64 x0) ∧ w'.cell? ⟨w.heap.size, 2, none⟩ = some (.int .i64 y0) ∧ w'.cell? ⟨w.heap.size + 1, 0, none⟩ = some (.int .i64 t1) ∧ w'.cell? ⟨w.heap.size + 1, 1, none⟩ = some (.int .i64 x1) ∧ w'.cell? ⟨w.heap.size + 1, 2, none⟩ = some (.int .i64 y1)) (go_keep)
      (first
        | (go_at_call_of 27 (Value.agg #[Value.int .i64 t0, Value.int .i64 x0, Value.int .i64 y0])
           refine (toPose_any t0 x0 y0 _).mono ?_
           rintro e u1 ⟨rfl, hb⟩
           first | (have KN1 := Lib.hid ((HeldL.new wa [.int .i64 0, .int .i64 0, .int .i64 0] 24).drew.after hb); have HLN1 := Lib.hid (HeldL.new wa [.int .i64 0, .int .i64 0, .int .i64 0] 24).lt; have HGN := Lib.hid HB_0.out.size; have NE_a := Lib.hid (Nat.ne_of_lt K_a_0.out.lt); have NE_b := Lib.hid (Nat.ne_of_lt K_b_0.out.lt)) | skip
           have T9 : HeldL u1 (w.heap.size) [.int .i64 t0, .int .i64 x0, .int .i64 y0] := by first | exact K_a_0.out.drew.after hb | exact (K_a_0.out.alloc (.cells #[.int .i64 0, .int .i64 0, .int .i64 0] 24)).drew.after hb
           have KK_a_1 := Lib.hid T9
           clear T9
           have T9 : HeldL u1 (w.heap.size + 1) [.int .i64 t1, .int .i64 x1, .int .i64 y1] := by first | exact K_b_0.out.drew.after hb | exact (K_b_0.out.alloc (.cells #[.int .i64 0, .int .i64 0, .int .i64 0] 24)).drew.after hb
           have KK_b_1 := Lib.hid T9
           clear T9
           have T9 : Below w.heap.size w u1 := by first | exact (HB_0.out.drew).trans (hb.mono (HB_0.out.drew).size) | exact ((HB_0.out.alloc HB_0.out.size (.cells #[.int .i64 0, .int .i64 0, .int .i64 0] 24)).drew).trans (hb.mono ((HB_0.out.alloc HB_0.out.size (.cells #[.int .i64 0, .int .i64 0, .int .i64 0] 24)).drew).size)
           have HHB_1 := Lib.hid T9
           clear T9 hb
           have hk_a_0_1 := KK_a_1.out.cell 0 _ rfl
           have hk_a_1_1 := KK_a_1.out.cell 1 _ rfl
           have hk_a_2_1 := KK_a_1.out.cell 2 _ rfl
           have hk_b_0_1 := KK_b_1.out.cell 0 _ rfl
           have hk_b_1_1 := KK_b_1.out.cell 1 _ rfl
           have hk_b_2_1 := KK_b_1.out.cell 2 _ rfl)
        | (go_at_call_of 27 (Value.agg #[Value.int .i64 t1, Value.int .i64 x1, Value.int .i64 y1])
           refine (toPose_any t1 x1 y1 _).mono ?_
           rintro e u2 ⟨rfl, hb⟩
           first | (have KN2 := Lib.hid (KN1.out.after hb); have HLN2 := Lib.hid KN1.out.lt) | (have KN2 := Lib.hid ((HeldL.new u1 [.int .i64 0, .int .i64 0, .int .i64 0] 24).after hb); have HLN2 := Lib.hid (HeldL.new u1 [.int .i64 0, .int .i64 0, .int .i64 0] 24).lt; have HGN := Lib.hid HHB_1.out.size; have NE_a := Lib.hid (Nat.ne_of_lt KK_a_1.out.lt); have NE_b := Lib.hid (Nat.ne_of_lt KK_b_1.out.lt)) | skip
           have T9 : HeldL u2 (w.heap.size) [.int .i64 t0, .int .i64 x0, .int .i64 y0] := by first | exact KK_a_1.out.after hb | exact (KK_a_1.out.alloc (.cells #[.int .i64 0, .int .i64 0, .int .i64 0] 24)).after hb
           have KK_a_2 := Lib.hid T9
           clear T9
           have T9 : HeldL u2 (w.heap.size + 1) [.int .i64 t1, .int .i64 x1, .int .i64 y1] := by first | exact KK_b_1.out.after hb | exact (KK_b_1.out.alloc (.cells #[.int .i64 0, .int .i64 0, .int .i64 0] 24)).after hb
           have KK_b_2 := Lib.hid T9
           clear T9
           have T9 : Below w.heap.size w u2 := by first | exact (HHB_1.out).trans (hb.mono (HHB_1.out).size) | exact ((HHB_1.out.alloc HHB_1.out.size (.cells #[.int .i64 0, .int .i64 0, .int .i64 0] 24))).trans (hb.mono ((HHB_1.out.alloc HHB_1.out.size (.cells #[.int .i64 0, .int .i64 0, .int .i64 0] 24))).size)
           have HHB_2 := Lib.hid T9
           clear T9 hb
           have hk_a_0_2 := KK_a_2.out.cell 0 _ rfl
           have hk_a_1_2 := KK_a_2.out.cell 1 _ rfl
           have hk_a_2_2 := KK_a_2.out.cell 2 _ rfl
           have hk_b_0_2 := KK_b_2.out.cell 0 _ rfl
           have hk_b_1_2 := KK_b_2.out.cell 1 _ rfl
           have hk_b_2_2 := KK_b_2.out.cell 2 _ rfl)
        | (go_at_call 30
           refine (between_spec t0 x0 y0 t1 x1 y1 _).mono ?_
           rintro e u3 ⟨rfl, hb⟩
           rw [Hrt.out, Hrx.out, Hry.out]
           first | (have KN3 := Lib.hid (KN2.out.after hb); have HLN3 := Lib.hid KN2.out.lt) | (have KN3 := Lib.hid ((HeldL.new u2 [.int .i64 0, .int .i64 0, .int .i64 0] 24).after hb); have HLN3 := Lib.hid (HeldL.new u2 [.int .i64 0, .int .i64 0, .int .i64 0] 24).lt; have HGN := Lib.hid HHB_2.out.size; have NE_a := Lib.hid (Nat.ne_of_lt KK_a_2.out.lt); have NE_b := Lib.hid (Nat.ne_of_lt KK_b_2.out.lt)) | skip
           have T9 : HeldL u3 (w.heap.size) [.int .i64 t0, .int .i64 x0, .int .i64 y0] := by first | exact KK_a_2.out.after hb | exact (KK_a_2.out.alloc (.cells #[.int .i64 0, .int .i64 0, .int .i64 0] 24)).after hb
           have KK_a_3 := Lib.hid T9
           clear T9
           have T9 : HeldL u3 (w.heap.size + 1) [.int .i64 t1, .int .i64 x1, .int .i64 y1] := by first | exact KK_b_2.out.after hb | exact (KK_b_2.out.alloc (.cells #[.int .i64 0, .int .i64 0, .int .i64 0] 24)).after hb
           have KK_b_3 := Lib.hid T9
           clear T9
           have T9 : Below w.heap.size w u3 := by first | exact (HHB_2.out).trans (hb.mono (HHB_2.out).size) | exact ((HHB_2.out.alloc HHB_2.out.size (.cells #[.int .i64 0, .int .i64 0, .int .i64 0] 24))).trans (hb.mono ((HHB_2.out.alloc HHB_2.out.size (.cells #[.int .i64 0, .int .i64 0, .int .i64 0] 24))).size)
           have HHB_3 := Lib.hid T9
           clear T9 hb
           have hk_a_0_3 := KK_a_3.out.cell 0 _ rfl
           have hk_a_1_3 := KK_a_3.out.cell 1 _ rfl
           have hk_a_2_3 := KK_a_3.out.cell 2 _ rfl
           have hk_b_0_3 := KK_b_3.out.cell 0 _ rfl
           have hk_b_1_3 := KK_b_3.out.cell 1 _ rfl
           have hk_b_2_3 := KK_b_3.out.cell 2 _ rfl
           try have hkn0 := KN3.out.cell 0 _ rfl
           try have hkf0 := KN3.out.froz 0 _ rfl
           try have hkn1 := KN3.out.cell 1 _ rfl
           try have hkf1 := KN3.out.froz 1 _ rfl
           try have hkn2 := KN3.out.cell 2 _ rfl
           try have hkf2 := KN3.out.froz 2 _ rfl
           try have hne_a := NE_a.out
           try have hnf_a := NE_a.out.symm
           try have hne_b := NE_b.out
           try have hnf_b := NE_b.out.symm))
    all_goals go_wp2_with fail
    all_goals go_meet
    all_goals refine ⟨_, rfl, ?_, ?_, ?_, ?_, ?_⟩
    all_goals first
      | exact HeldL.new u3 _ _
      | exact (((KN3.out.set 0 _ _ rfl).set 1 _ _ rfl).set 2 _ _ rfl)
      | exact HHB_3.out.size
      | exact HGN.out
      | exact KK_a_3.out.alloc _
      | exact (((KK_a_3.out.setOther NE_a.out _).setOther NE_a.out _).setOther NE_a.out _)
      | exact KK_b_3.out.alloc _
      | exact (((KK_b_3.out.setOther NE_b.out _).setOther NE_b.out _).setOther NE_b.out _)
      | exact HHB_3.out.alloc HHB_3.out.size _
      | exact (((HHB_3.out.setCell HGN.out _).setCell HGN.out _).setCell HGN.out _)
  clear hk_a_0_0
  clear hk_a_1_0
  clear hk_a_2_0
  clear hk_b_0_0
  clear hk_b_1_0
  clear hk_b_2_0
  clear K_a_0
  clear K_b_0
  clear HB_0
  obtain ⟨b_u, rfl, hge_u, hkn, hq_a, hq_b, hbw⟩ := hcut
  have K_a_1 := Lib.hid hq_a
  clear hq_a
  have K_b_1 := Lib.hid hq_b
  clear hq_b
  have K_u_1 := Lib.hid hkn
  clear hkn
  have HB_1 := Lib.hid hbw
  clear hbw
  obtain ⟨wnu, hwnu⟩ : ∃ u, wc = u := ⟨_, rfl⟩
  rw [hwnu] at K_a_1 K_b_1 K_u_1 HB_1 ⊢
  clear hwnu
  have hk_a_0_1 := K_a_1.out.cell 0 _ rfl
  have hk_a_1_1 := K_a_1.out.cell 1 _ rfl
  have hk_a_2_1 := K_a_1.out.cell 2 _ rfl
  have hk_b_0_1 := K_b_1.out.cell 0 _ rfl
  have hk_b_1_1 := K_b_1.out.cell 1 _ rfl
  have hk_b_2_1 := K_b_1.out.cell 2 _ rfl
  go_upto_region 2 with fail
  go_cut [6] (fun ptr wx => ∃ blk : Nat, ptr = .pointer (some ⟨blk, 0, none⟩) ∧ w.heap.size ≤ blk ∧ HeldL wx blk [.int .i64 rt, .int .i64 rx, .int .i64 ry] ∧ HeldL wx (w.heap.size) [.int .i64 t0, .int .i64 x0, .int .i64 y0] ∧ HeldL wx (w.heap.size + 1) [.int .i64 t1, .int .i64 x1, .int .i64 y1] ∧ HeldL wx (b_u) [.int .i64 rt, .int .i64 rx, .int .i64 ry] ∧ Below w.heap.size w wx)
  case first =>
    go_region_held3 (fun w' => w'.cell? ⟨w.heap.size, 0, none⟩ = some (.int .i64 t0) ∧ w'.cell? ⟨w.heap.size, 1, none⟩ = some (.int .i64 x0) ∧ w'.cell? ⟨w.heap.size, 2, none⟩ = some (.int .i64 y0) ∧ w'.cell? ⟨w.heap.size + 1, 0, none⟩ = some (.int .i64 t1) ∧ w'.cell? ⟨w.heap.size + 1, 1, none⟩ = some (.int .i64 x1) ∧ w'.cell? ⟨w.heap.size + 1, 2, none⟩ = some (.int .i64 y1)) (go_keep)
      (first
        | (go_at_call_of 27 (Value.agg #[Value.int .i64 t0, Value.int .i64 x0, Value.int .i64 y0])
           refine (toPose_any t0 x0 y0 _).mono ?_
           rintro e u1 ⟨rfl, hb⟩
           first | (have KN1 := Lib.hid ((HeldL.new wnu [.int .i64 0, .int .i64 0, .int .i64 0] 24).drew.after hb); have HLN1 := Lib.hid (HeldL.new wnu [.int .i64 0, .int .i64 0, .int .i64 0] 24).lt; have HGN := Lib.hid HB_1.out.size; have NE_a := Lib.hid (Nat.ne_of_lt K_a_1.out.lt); have NE_b := Lib.hid (Nat.ne_of_lt K_b_1.out.lt); have NE_u := Lib.hid (Nat.ne_of_lt K_u_1.out.lt)) | skip
           have T9 : HeldL u1 (w.heap.size) [.int .i64 t0, .int .i64 x0, .int .i64 y0] := by first | exact K_a_1.out.drew.after hb | exact (K_a_1.out.alloc (.cells #[.int .i64 0, .int .i64 0, .int .i64 0] 24)).drew.after hb
           have KK_a_1 := Lib.hid T9
           clear T9
           have T9 : HeldL u1 (w.heap.size + 1) [.int .i64 t1, .int .i64 x1, .int .i64 y1] := by first | exact K_b_1.out.drew.after hb | exact (K_b_1.out.alloc (.cells #[.int .i64 0, .int .i64 0, .int .i64 0] 24)).drew.after hb
           have KK_b_1 := Lib.hid T9
           clear T9
           have T9 : HeldL u1 (b_u) [.int .i64 rt, .int .i64 rx, .int .i64 ry] := by first | exact K_u_1.out.drew.after hb | exact (K_u_1.out.alloc (.cells #[.int .i64 0, .int .i64 0, .int .i64 0] 24)).drew.after hb
           have KK_u_1 := Lib.hid T9
           clear T9
           have T9 : Below w.heap.size w u1 := by first | exact (HB_1.out.drew).trans (hb.mono (HB_1.out.drew).size) | exact ((HB_1.out.alloc HB_1.out.size (.cells #[.int .i64 0, .int .i64 0, .int .i64 0] 24)).drew).trans (hb.mono ((HB_1.out.alloc HB_1.out.size (.cells #[.int .i64 0, .int .i64 0, .int .i64 0] 24)).drew).size)
           have HHB_1 := Lib.hid T9
           clear T9 hb
           have hk_a_0_1 := KK_a_1.out.cell 0 _ rfl
           have hk_a_1_1 := KK_a_1.out.cell 1 _ rfl
           have hk_a_2_1 := KK_a_1.out.cell 2 _ rfl
           have hk_b_0_1 := KK_b_1.out.cell 0 _ rfl
           have hk_b_1_1 := KK_b_1.out.cell 1 _ rfl
           have hk_b_2_1 := KK_b_1.out.cell 2 _ rfl)
        | (go_at_call_of 27 (Value.agg #[Value.int .i64 t1, Value.int .i64 x1, Value.int .i64 y1])
           refine (toPose_any t1 x1 y1 _).mono ?_
           rintro e u2 ⟨rfl, hb⟩
           first | (have KN2 := Lib.hid (KN1.out.after hb); have HLN2 := Lib.hid KN1.out.lt) | (have KN2 := Lib.hid ((HeldL.new u1 [.int .i64 0, .int .i64 0, .int .i64 0] 24).after hb); have HLN2 := Lib.hid (HeldL.new u1 [.int .i64 0, .int .i64 0, .int .i64 0] 24).lt; have HGN := Lib.hid HHB_1.out.size; have NE_a := Lib.hid (Nat.ne_of_lt KK_a_1.out.lt); have NE_b := Lib.hid (Nat.ne_of_lt KK_b_1.out.lt); have NE_u := Lib.hid (Nat.ne_of_lt KK_u_1.out.lt)) | skip
           have T9 : HeldL u2 (w.heap.size) [.int .i64 t0, .int .i64 x0, .int .i64 y0] := by first | exact KK_a_1.out.after hb | exact (KK_a_1.out.alloc (.cells #[.int .i64 0, .int .i64 0, .int .i64 0] 24)).after hb
           have KK_a_2 := Lib.hid T9
           clear T9
           have T9 : HeldL u2 (w.heap.size + 1) [.int .i64 t1, .int .i64 x1, .int .i64 y1] := by first | exact KK_b_1.out.after hb | exact (KK_b_1.out.alloc (.cells #[.int .i64 0, .int .i64 0, .int .i64 0] 24)).after hb
           have KK_b_2 := Lib.hid T9
           clear T9
           have T9 : HeldL u2 (b_u) [.int .i64 rt, .int .i64 rx, .int .i64 ry] := by first | exact KK_u_1.out.after hb | exact (KK_u_1.out.alloc (.cells #[.int .i64 0, .int .i64 0, .int .i64 0] 24)).after hb
           have KK_u_2 := Lib.hid T9
           clear T9
           have T9 : Below w.heap.size w u2 := by first | exact (HHB_1.out).trans (hb.mono (HHB_1.out).size) | exact ((HHB_1.out.alloc HHB_1.out.size (.cells #[.int .i64 0, .int .i64 0, .int .i64 0] 24))).trans (hb.mono ((HHB_1.out.alloc HHB_1.out.size (.cells #[.int .i64 0, .int .i64 0, .int .i64 0] 24))).size)
           have HHB_2 := Lib.hid T9
           clear T9 hb
           have hk_a_0_2 := KK_a_2.out.cell 0 _ rfl
           have hk_a_1_2 := KK_a_2.out.cell 1 _ rfl
           have hk_a_2_2 := KK_a_2.out.cell 2 _ rfl
           have hk_b_0_2 := KK_b_2.out.cell 0 _ rfl
           have hk_b_1_2 := KK_b_2.out.cell 1 _ rfl
           have hk_b_2_2 := KK_b_2.out.cell 2 _ rfl)
        | (go_at_call 17
           refine (between_impl t0 x0 y0 t1 x1 y1 _ ?_).mono ?_
           first | exact HL.out.below HHB_2.out | exact HL.out.below (HHB_2.out.alloc HHB_2.out.size (.cells #[.int .i64 0, .int .i64 0, .int .i64 0] 24))
           rintro e u3 ⟨rfl, hb⟩
           rw [Hrt.out, Hrx.out, Hry.out]
           first | (have KN3 := Lib.hid (KN2.out.after hb); have HLN3 := Lib.hid KN2.out.lt) | (have KN3 := Lib.hid ((HeldL.new u2 [.int .i64 0, .int .i64 0, .int .i64 0] 24).after hb); have HLN3 := Lib.hid (HeldL.new u2 [.int .i64 0, .int .i64 0, .int .i64 0] 24).lt; have HGN := Lib.hid HHB_2.out.size; have NE_a := Lib.hid (Nat.ne_of_lt KK_a_2.out.lt); have NE_b := Lib.hid (Nat.ne_of_lt KK_b_2.out.lt); have NE_u := Lib.hid (Nat.ne_of_lt KK_u_2.out.lt)) | skip
           have T9 : HeldL u3 (w.heap.size) [.int .i64 t0, .int .i64 x0, .int .i64 y0] := by first | exact KK_a_2.out.after hb | exact (KK_a_2.out.alloc (.cells #[.int .i64 0, .int .i64 0, .int .i64 0] 24)).after hb
           have KK_a_3 := Lib.hid T9
           clear T9
           have T9 : HeldL u3 (w.heap.size + 1) [.int .i64 t1, .int .i64 x1, .int .i64 y1] := by first | exact KK_b_2.out.after hb | exact (KK_b_2.out.alloc (.cells #[.int .i64 0, .int .i64 0, .int .i64 0] 24)).after hb
           have KK_b_3 := Lib.hid T9
           clear T9
           have T9 : HeldL u3 (b_u) [.int .i64 rt, .int .i64 rx, .int .i64 ry] := by first | exact KK_u_2.out.after hb | exact (KK_u_2.out.alloc (.cells #[.int .i64 0, .int .i64 0, .int .i64 0] 24)).after hb
           have KK_u_3 := Lib.hid T9
           clear T9
           have T9 : Below w.heap.size w u3 := by first | exact (HHB_2.out).trans (hb.mono (HHB_2.out).size) | exact ((HHB_2.out.alloc HHB_2.out.size (.cells #[.int .i64 0, .int .i64 0, .int .i64 0] 24))).trans (hb.mono ((HHB_2.out.alloc HHB_2.out.size (.cells #[.int .i64 0, .int .i64 0, .int .i64 0] 24))).size)
           have HHB_3 := Lib.hid T9
           clear T9 hb
           have hk_a_0_3 := KK_a_3.out.cell 0 _ rfl
           have hk_a_1_3 := KK_a_3.out.cell 1 _ rfl
           have hk_a_2_3 := KK_a_3.out.cell 2 _ rfl
           have hk_b_0_3 := KK_b_3.out.cell 0 _ rfl
           have hk_b_1_3 := KK_b_3.out.cell 1 _ rfl
           have hk_b_2_3 := KK_b_3.out.cell 2 _ rfl
           try have hkn0 := KN3.out.cell 0 _ rfl
           try have hkf0 := KN3.out.froz 0 _ rfl
           try have hkn1 := KN3.out.cell 1 _ rfl
           try have hkf1 := KN3.out.froz 1 _ rfl
           try have hkn2 := KN3.out.cell 2 _ rfl
           try have hkf2 := KN3.out.froz 2 _ rfl
           try have hne_a := NE_a.out
           try have hnf_a := NE_a.out.symm
           try have hne_b := NE_b.out
           try have hnf_b := NE_b.out.symm))
    all_goals go_wp2_with fail
    all_goals go_meet
    all_goals refine ⟨_, rfl, ?_, ?_, ?_, ?_, ?_, ?_⟩
    all_goals first
      | exact HeldL.new u3 _ _
      | exact (((KN3.out.set 0 _ _ rfl).set 1 _ _ rfl).set 2 _ _ rfl)
      | exact HHB_3.out.size
      | exact HGN.out
      | exact KK_a_3.out.alloc _
      | exact (((KK_a_3.out.setOther NE_a.out _).setOther NE_a.out _).setOther NE_a.out _)
      | exact KK_b_3.out.alloc _
      | exact (((KK_b_3.out.setOther NE_b.out _).setOther NE_b.out _).setOther NE_b.out _)
      | exact KK_u_3.out.alloc _
      | exact (((KK_u_3.out.setOther NE_u.out _).setOther NE_u.out _).setOther NE_u.out _)
      | exact HHB_3.out.alloc HHB_3.out.size _
      | exact (((HHB_3.out.setCell HGN.out _).setCell HGN.out _).setCell HGN.out _)
  clear hk_a_0_1
  clear hk_a_1_1
  clear hk_a_2_1
  clear hk_b_0_1
  clear hk_b_1_1
  clear hk_b_2_1
  clear K_a_1
  clear K_b_1
  clear K_u_1
  clear HB_1
  obtain ⟨b_g, rfl, hge_g, hkn, hq_a, hq_b, hq_u, hbw⟩ := hcut
  have K_a_2 := Lib.hid hq_a
  clear hq_a
  have K_b_2 := Lib.hid hq_b
  clear hq_b
  have K_u_2 := Lib.hid hq_u
  clear hq_u
  have K_g_2 := Lib.hid hkn
  clear hkn
  have HB_2 := Lib.hid hbw
  clear hbw
  obtain ⟨wng, hwng⟩ : ∃ u, wc = u := ⟨_, rfl⟩
  rw [hwng] at K_a_2 K_b_2 K_u_2 K_g_2 HB_2 ⊢
  clear hwng
  have hk_u_0_2 := K_u_2.out.cell 0 _ rfl
  have hk_u_1_2 := K_u_2.out.cell 1 _ rfl
  have hk_u_2_2 := K_u_2.out.cell 2 _ rfl
  have hk_g_0_2 := K_g_2.out.cell 0 _ rfl
  have hk_g_1_2 := K_g_2.out.cell 1 _ rfl
  have hk_g_2_2 := K_g_2.out.cell 2 _ rfl
  go_wp2_with fail
  refine (eqPose_same rt rx ry _).mono ?_
  rintro e w9 ⟨rfl, hb⟩
  have K_a_3 := Lib.hid (K_a_2.out.after hb)
  have K_b_3 := Lib.hid (K_b_2.out.after hb)
  have K_u_3 := Lib.hid (K_u_2.out.after hb)
  have K_g_3 := Lib.hid (K_g_2.out.after hb)
  have HB_3 := Lib.hid (HB_2.out.trans (hb.mono HB_2.out.size))
  clear hb
  clear hk_u_0_2
  clear hk_u_1_2
  clear hk_u_2_2
  clear hk_g_0_2
  clear hk_g_1_2
  clear hk_g_2_2
  go_wp2
  go_ret
  exact ⟨rfl, HB_3.out⟩

theorem door_met (os : Os) (args : Array Value) : laidMetH Tryd.prog Rows.fnExactBetweenRow.laid ((World.doorLaid Tryd.prog 400 os).forCall (fun _ _ => 0) ⟨#[], args, []⟩).memory :=
  laidMetH_of_parts3 (fuel := 8) (laidMet_of_run' 8 (by kernel_rfl) (by kernel_rfl)) (by kernel_rfl) (by kernel_rfl)
set_option maxRecDepth 100000 in
theorem lifted (os : Os) (started : os.Started) (H : Type) (enc : TypeId × Value → H) :
    ReturnsInHanded {} Tryd.checked os 8 .any (fun w args => (Rows.fnExactBetweenSpec.pre enc Tryd.prog Tryd.f8 [] false w args ∧ laidMetH Tryd.prog Rows.fnExactBetweenRow.laid w) ∧ sizedMet enc Tryd.prog Tryd.f8 (OpenSpec.ofChange Rows.fnExactBetweenSpec) false w args)
      (Rows.fnExactBetweenSpec.post enc Tryd.prog Tryd.f8 false true false false) := by
  refine returnsInHanded_of_change_and (C := Tryd.checked) (X := fun w _ => laidMetH Tryd.prog Rows.fnExactBetweenRow.laid w) (fun _ _ _ hh h => h.of_heap hh) own started (by kernel_rfl) Tryd.func8
    (ChangeSpec.witness_shaped (enc := enc) (C := Tryd.checked) (os := os) (X := fun w _ => laidMetH Tryd.prog Rows.fnExactBetweenRow.laid w) false (World.doorLaid Tryd.prog 400 os) #[.agg #[.int .i64 0, .int .i64 0, .int .i64 0], .agg #[.int .i64 0, .int .i64 0, .int .i64 0]] 8 rfl (World.shaped_of_RefB (by kernel_rfl) (by kernel_rfl)) (by kernel_rfl) (by kernel_rfl) (by kernel_rfl) (door_met os _)) ?_
  intro W base args ds gs before hval0 hW _ _ hL _
  have hval : ∀ (j : Nat) t v, Tryd.f8.params[j]? = some t → args[j]? = some v → Value.okWide Tryd.prog W .any base t v := hval0
  have hW' := hW
  obtain ⟨p, q, hA0, hV, rfl, hfz, hnd⟩ := hW
  have hA : DataW.TrodAll enc Tryd.prog W 0 (fun _ => true) true Tryd.f8.params.toList args.toList ds p := hA0
  rw [Tryd.params8] at hA hval
  obtain ⟨v0, vs0, d0, ds0, p0, q0, hargs, rfl, rfl, h0, r0⟩ := trodAll_cons hA
  obtain ⟨v1, vs1, d1, ds1, p1, q1, rfl, rfl, rfl, h1, r1⟩ := trodAll_cons r0
  obtain ⟨rfl, rfl, rfl⟩ := trodAll_nil r1
  obtain rfl : args = #[v0, v1] := by cases args; simp_all
  have hV0 : DataW.TrodVars enc Tryd.prog W (fun _ => true) ["loop.example/g00810/impl.quarterTurns"] gs q := hV
  obtain ⟨g9, t9, cs9, fuel9, d9, p9, rfl, _⟩ := trodVars_one hV0
  have k0 := h0
  have lt0 : ∀ x ∈ p0, x.block < W.heap.size := by obtain ⟨m, hm⟩ := k0; exact DataW.trod_lt m _ _ _ hm
  obtain ⟨t0, x0, y0, rfl, _, _, _⟩ := isPose_of Tryd.underlying50 (by kernel_rfl) (by kernel_rfl) Tryd.underlying3 Tryd.underlying3 Tryd.underlying3 (hval 0 50 v0 rfl rfl) h0
  have k1 := h1
  have lt1 : ∀ x ∈ p1, x.block < W.heap.size := by obtain ⟨m, hm⟩ := k1; exact DataW.trod_lt m _ _ _ hm
  obtain ⟨t1, x1, y1, rfl, _, _, _⟩ := isPose_of Tryd.underlying50 (by kernel_rfl) (by kernel_rfl) Tryd.underlying3 Tryd.underlying3 Tryd.underlying3 (hval 1 50 v1 rfl rfl) h1
  clear hA0 hval0
  refine (walk W (laidQ_only hL) t0 x0 y0 t1 x1 y1).mono fun e W' ⟨he, bel⟩ => ?_
  subst he
  exact ⟨_, rfl, _, _, _, [], _, q, hW', trodAll_mk1 (shut_bool Tryd.underlying4 _), (trodAll_cons_mk (Below.trod laidOut (by kernel_rfl) (of_decide_eq_true (by kernel_rfl)) k0 bel lt0) (trodAll_cons_mk (Below.trod laidOut (by kernel_rfl) (of_decide_eq_true (by kernel_rfl)) k1 bel lt1) trodAll_mk0)), (Below.trodVars laidOut bel (by kernel_rfl) hV0), bel.frame _, fun h => by cases h⟩

theorem over : Rows.fnExactBetweenRow.holds Tryd.pinned (OpenSpec.ofChange Rows.fnExactBetweenSpec) :=
  OpenClaim.holds_of_wide 8 Tryd.f8 rfl rfl rfl rfl rfl rfl rfl ⟨rfl, rfl, rfl, rfl, rfl⟩ rfl rfl rfl rfl rfl (by kernel_rfl) Tryd.func8 (by kernel_rfl)
    (of_decide_eq_true (by kernel_rfl)) (by unfold Func.isWrapper; first | (rw [if_pos (by decide +kernel)]; kernel_rfl) | (rw [if_neg (by decide +kernel)]; exact ⟨rfl, rfl⟩))
    (fun os started H enc _ => lifted os started H enc)

theorem bare : Rows.FnExactBetweenSaid := over
theorem proved : Rows.FnExactBetweenCardSaid :=
  Claim7.holds_tied_plain_at .later [] [.wider] true (true, "49dc16c195214d18f32f0d0e2af27782907544120f44ec4e732deecaf02b8adb") true
    bare (fun _ h => by cases h) (by kernel_rfl) (fun _ h => by cases h) fnExactBetween_row_tie rfl ⟨rfl, rfl⟩ (by kernel_rfl) rfl
    (fun f fn hf hfn => by
      obtain rfl : f = 8 := Option.some.inj ((show Tryd.prog.funcNamed "loop.example/g00810/laws.FnExactBetween" = some 8 by kernel_rfl).symm.trans hf) |>.symm
      obtain rfl : fn = Tryd.f8 := (Option.some.inj (Tryd.func8.symm.trans hfn)).symm
      exact ⟨by kernel_rfl, fun j t ht => by
        rw [Tryd.params8] at ht
        have hm : t ∈ [50, 50] := by simpa using Array.mem_of_getElem? ht
        have hall : ([50, 50].all fun u => !Tryd.prog.wantsStandIn u) = true := by kernel_rfl
        exact (show Tryd.prog.wantsStandIn t = false by simpa using List.all_eq_true.1 hall t hm)⟩)
    (by kernel_rfl)
#print axioms proved
end Go.Proofs.YtdilgjakodimbaaDoor.lawBetween
