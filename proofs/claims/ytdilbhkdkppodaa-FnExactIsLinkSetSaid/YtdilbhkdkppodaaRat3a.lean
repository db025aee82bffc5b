/- Fractions: the functions of the model. Conditions: none. -/
import Derived.Test.YtdilbhkdkppodaaProg
import Derived.Test.YtdilbhkdkppodaaRat2
import Derived.Test.YtdilbhkdkppodaaBigOf
import Derived.Deep.DeepCutAuto
namespace Go.Proofs.Ytdilbhkdkppodaa
open Go.RowKit Nt
set_option linter.unusedVariables false

set_option maxRecDepth 100000 in
set_option maxHeartbeats 4000000 in
theorem ratFromInt_spec (x : Int) (w : World) (hx : -9223372036854775808 ≤ x ∧ x ≤ 9223372036854775807) :
    Calls Try.prog 33 #[.int .i64 x] w (OwnRR 3 (sgZ x) (nats (magZ x)) (nats ([1])) w) := by
  have Hx := Lib.hid hx
  clear hx
  obtain ⟨gx, hgx⟩ : ∃ y9, sgZ x = y9 := ⟨_, rfl⟩
  obtain ⟨mx, hmx⟩ : ∃ y9, magZ x = y9 := ⟨_, rfl⟩
  rw [hgx, hmx]
  have Hgx := Lib.hid hgx
  have Hmx := Lib.hid hmx
  clear hgx hmx
  go_enter Try.func33, Try.ntmps33
  have HB_0 := Lib.hid ((Below.refl w.heap.size w).alloc (Nat.le_refl _) (.cells #[.bool false, .slice none 0 0, .slice none 0 0] 33))
  have K_res_0 := Lib.hid (HeldL.new_at w (w.heap.size) [.bool false, .slice none 0 0, .slice none 0 0] 33 (by first | rfl | simp))
  go_wp2_with fail
  have HCx := Lib.hid (bigIntOf_spec x (w.alloc (.cells #[.bool false, .slice none 0 0, .slice none 0 0] 33)) Hx.out)
  rw [Hgx.out, Hmx.out] at HCx
  refine (HCx.out).mono ?_
  rintro e wx ⟨vx, rfl, ho, hb⟩
  obtain ⟨Ax, cx, rfl⟩ := ho.shape
  have HOx := Lib.hid ho
  clear ho
  have K_res_1 := Lib.hid (K_res_0.out.after hb)
  have HB_1 := Lib.hid (HB_0.out.trans (hb.mono HB_0.out.size))
  clear hb
  have hoa : OwnV (wx.alloc (.cells #[.int .i64 1] 3)) wx.heap.size 3 (.slice (some ⟨wx.heap.size, 0, none⟩) 1 1) (nats [1]) := OwnV.of_whole (ys := nats [1]) (whole_of (Nat.le_refl _) (by show (wx.alloc (.cells #[.int .i64 1] 3)).heap[wx.heap.size]? = some (.cells #[.int .i64 1] 3); unfold World.alloc; simp) (by unfold maxLen; decide))
  have HOa := Lib.hid hoa
  have AP_Ox_Oa := Lib.hid (OwnV.apart HOx.out hoa (Nat.le_refl _))
  have AP_Oa_Ox := Lib.hid (OwnV.apart' hoa HOx.out (Nat.le_refl _))
  clear hoa
  have K_res_2 := Lib.hid (K_res_1.out.alloc (.cells #[.int .i64 1] 3))
  have hne_res_one : w.heap.size ≠ wx.heap.size := by have := K_res_1.out.lt; omega
  have hne_one_res : wx.heap.size ≠ w.heap.size := by have := K_res_1.out.lt; omega
  have K_one_2 := Lib.hid (HeldL.new wx [.int .i64 1] 3)
  have H_Ox_2 := Lib.hid (OwnV.below HOx.out ((Below.refl _ wx).alloc (Nat.le_refl _) (.cells #[.int .i64 1] 3)))
  have HB_2 := Lib.hid (HB_1.out.alloc HB_1.out.size (.cells #[.int .i64 1] 3))
  have hk_res_0_2 := K_res_2.out.cell 0 _ rfl
  have hk_res_0_2f := K_res_2.out.froz 0 _ rfl
  have hk_res_1_2 := K_res_2.out.cell 1 _ rfl
  have hk_res_1_2f := K_res_2.out.froz 1 _ rfl
  have hk_res_2_2 := K_res_2.out.cell 2 _ rfl
  have hk_res_2_2f := K_res_2.out.froz 2 _ rfl
  go_wp2
  have hr0 := K_res_2.out.cell 0 _ rfl
  have hr1 := K_res_2.out.cell 1 _ rfl
  have hr2 := K_res_2.out.cell 2 _ rfl
  exact bodyPost_ret (v := .agg #[.bool gx, .slice Ax (nats mx).length cx, .slice (some ⟨wx.heap.size, 0, none⟩) 1 1]) (by simp [results, Try.results33, go_sem, hr0, hr1, hr2]) rfl (ownRR_close HB_2.out H_Ox_2.out HOa.out K_res_0.out.lt K_res_1.out.lt (by omega) AP_Ox_Oa.out AP_Oa_Ox.out)
end Go.Proofs.Ytdilbhkdkppodaa
