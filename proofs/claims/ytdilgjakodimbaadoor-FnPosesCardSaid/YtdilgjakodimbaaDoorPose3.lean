/- Poses: products of quarter turns. Conditions: none. -/
import Derived.Test.YtdilgjakodimbaaDoorPose2
namespace Go.Proofs.YtdilgjakodimbaaDoor
open Go.RowKit Po
set_option linter.unusedVariables false

set_option maxRecDepth 100000 in
set_option maxHeartbeats 4000000 in
theorem times_any (t a b c d : Int) (w : World) (h0 : 0 ≤ t) (h1 : t ≤ 3) (ha : -1000000 ≤ a ∧ a ≤ 1000000) (hbb : -1000000 ≤ b ∧ b ≤ 1000000) (hc : -1000000 ≤ c ∧ c ≤ 1000000) (hd : -1000000 ≤ d ∧ d ≤ 1000000) :
    Calls Tryd.prog 76 #[.agg #[.int .i64 (rX t 1 0), .int .i64 (rY t 1 0), .int .i64 (rX t 0 1), .int .i64 (rY t 0 1)], .agg #[.int .i64 a, .int .i64 b, .int .i64 c, .int .i64 d]] w fun e w' => e = .returned (.agg #[.int .i64 (rX t a b), .int .i64 (rY t a b), .int .i64 (rX t c d), .int .i64 (rY t c d)]) ∧ Below w.heap.size w w' := by
  obtain ⟨p, hp⟩ : ∃ z : Int, rX t 1 0 = z := ⟨_, rfl⟩
  rw [hp]
  have Hp := Lib.hid hp
  clear hp
  obtain ⟨q, hq⟩ : ∃ z : Int, rY t 1 0 = z := ⟨_, rfl⟩
  rw [hq]
  have Hq := Lib.hid hq
  clear hq
  obtain ⟨r, hr⟩ : ∃ z : Int, rX t 0 1 = z := ⟨_, rfl⟩
  rw [hr]
  have Hr := Lib.hid hr
  clear hr
  obtain ⟨s, hs⟩ : ∃ z : Int, rY t 0 1 = z := ⟨_, rfl⟩
  rw [hs]
  have Hs := Lib.hid hs
  clear hs
  have RO := Lib.hid (fun x y w hx hy => rotate_any t x y w h0 h1 hx hy)
  rw [Hp.out, Hq.out, Hr.out, Hs.out] at RO
  clear h0 h1
  obtain ⟨e, he⟩ : ∃ z : Int, rX t a b = z := ⟨_, rfl⟩
  rw [he]
  have He := Lib.hid he
  clear he
  obtain ⟨f, hf⟩ : ∃ z : Int, rY t a b = z := ⟨_, rfl⟩
  rw [hf]
  have Hf := Lib.hid hf
  clear hf
  obtain ⟨g, hg⟩ : ∃ z : Int, rX t c d = z := ⟨_, rfl⟩
  rw [hg]
  have Hg := Lib.hid hg
  clear hg
  obtain ⟨h, hh⟩ : ∃ z : Int, rY t c d = z := ⟨_, rfl⟩
  rw [hh]
  have Hh := Lib.hid hh
  clear hh
  go_enter Tryd.func76, Tryd.ntmps76
  have HB_0 := Lib.hid ((((Below.refl w.heap.size w).alloc (Nat.le_refl _) (.cells #[.int .i64 p, .int .i64 q, .int .i64 r, .int .i64 s] 76)).alloc (by simp) (.cells #[.int .i64 a, .int .i64 b, .int .i64 c, .int .i64 d] 76)).alloc (by simp; omega) (.cells #[.int .i64 0, .int .i64 0, .int .i64 0, .int .i64 0] 76))
  have K_m_0 := Lib.hid (((HeldL.new_at w (w.heap.size) [.int .i64 p, .int .i64 q, .int .i64 r, .int .i64 s] 76 (by first | rfl | simp)).alloc (.cells #[.int .i64 a, .int .i64 b, .int .i64 c, .int .i64 d] 76)).alloc (.cells #[.int .i64 0, .int .i64 0, .int .i64 0, .int .i64 0] 76))
  have K_o_0 := Lib.hid ((HeldL.new_at (w.alloc (.cells #[.int .i64 p, .int .i64 q, .int .i64 r, .int .i64 s] 76)) (w.heap.size + 1) [.int .i64 a, .int .i64 b, .int .i64 c, .int .i64 d] 76 (by first | rfl | simp)).alloc (.cells #[.int .i64 0, .int .i64 0, .int .i64 0, .int .i64 0] 76))
  have K_r_0 := Lib.hid (HeldL.new_at ((w.alloc (.cells #[.int .i64 p, .int .i64 q, .int .i64 r, .int .i64 s] 76)).alloc (.cells #[.int .i64 a, .int .i64 b, .int .i64 c, .int .i64 d] 76)) (w.heap.size + 1 + 1) [.int .i64 0, .int .i64 0, .int .i64 0, .int .i64 0] 76 (by first | rfl | simp))
  have hne_m_o : w.heap.size ≠ w.heap.size + 1 := by omega
  have hne_m_r : w.heap.size ≠ w.heap.size + 1 + 1 := by omega
  have hne_o_m : w.heap.size + 1 ≠ w.heap.size := by omega
  have hne_o_r : w.heap.size + 1 ≠ w.heap.size + 1 + 1 := by omega
  have hne_r_m : w.heap.size + 1 + 1 ≠ w.heap.size := by omega
  have hne_r_o : w.heap.size + 1 + 1 ≠ w.heap.size + 1 := by omega
  have hk_m_0_0 := K_m_0.out.cell 0 _ rfl
  have hk_m_1_0 := K_m_0.out.cell 1 _ rfl
  have hk_m_2_0 := K_m_0.out.cell 2 _ rfl
  have hk_m_3_0 := K_m_0.out.cell 3 _ rfl
  have hk_o_0_0 := K_o_0.out.cell 0 _ rfl
  have hk_o_1_0 := K_o_0.out.cell 1 _ rfl
  have hk_o_2_0 := K_o_0.out.cell 2 _ rfl
  have hk_o_3_0 := K_o_0.out.cell 3 _ rfl
  have hk_r_0_0 := K_r_0.out.cell 0 _ rfl
  have hk_r_0_0f := K_r_0.out.froz 0 _ rfl
  have hk_r_1_0 := K_r_0.out.cell 1 _ rfl
  have hk_r_1_0f := K_r_0.out.froz 1 _ rfl
  have hk_r_2_0 := K_r_0.out.cell 2 _ rfl
  have hk_r_2_0f := K_r_0.out.froz 2 _ rfl
  have hk_r_3_0 := K_r_0.out.cell 3 _ rfl
  have hk_r_3_0f := K_r_0.out.froz 3 _ rfl
  go_wp2
  go_region_held3 (fun w' => w'.cell? ⟨w.heap.size, 0, none⟩ = some (.int .i64 p) ∧ w'.cell? ⟨w.heap.size, 1, none⟩ = some (.int .i64 q) ∧ w'.cell? ⟨w.heap.size, 2, none⟩ = some (.int .i64 r) ∧ w'.cell? ⟨w.heap.size, 3, none⟩ = some (.int .i64 s) ∧ w'.cell? ⟨w.heap.size + 1, 0, none⟩ = some (.int .i64 a) ∧ w'.cell? ⟨w.heap.size + 1, 1, none⟩ = some (.int .i64 b) ∧ w'.cell? ⟨w.heap.size + 1, 2, none⟩ = some (.int .i64 c) ∧ w'.cell? ⟨w.heap.size + 1, 3, none⟩ = some (.int .i64 d)) (go_keep)
    (first
      | (go_at_call_of 47 ((Value.agg #[Value.int .i64 a, Value.int .i64 b]))
         refine (RO.out a b _ ha hbb).mono ?_
         rintro e w1 ⟨rfl, hb⟩
         rw [He.out, Hf.out]
         have K_m_1 := Lib.hid (K_m_0.out.drew.after hb)
         have K_o_1 := Lib.hid (K_o_0.out.drew.after hb)
         have K_r_1 := Lib.hid (K_r_0.out.drew.after hb)
         have HB_1 := Lib.hid (HB_0.out.drew.trans (hb.mono HB_0.out.drew.size))
         clear hb
         have hk_m_0_1 := K_m_1.out.cell 0 _ rfl
         have hk_m_1_1 := K_m_1.out.cell 1 _ rfl
         have hk_m_2_1 := K_m_1.out.cell 2 _ rfl
         have hk_m_3_1 := K_m_1.out.cell 3 _ rfl
         have hk_o_0_1 := K_o_1.out.cell 0 _ rfl
         have hk_o_1_1 := K_o_1.out.cell 1 _ rfl
         have hk_o_2_1 := K_o_1.out.cell 2 _ rfl
         have hk_o_3_1 := K_o_1.out.cell 3 _ rfl
         have hk_r_0_1 := K_r_1.out.cell 0 _ rfl
         have hk_r_0_1f := K_r_1.out.froz 0 _ rfl
         have hk_r_1_1 := K_r_1.out.cell 1 _ rfl
         have hk_r_1_1f := K_r_1.out.froz 1 _ rfl
         have hk_r_2_1 := K_r_1.out.cell 2 _ rfl
         have hk_r_2_1f := K_r_1.out.froz 2 _ rfl
         have hk_r_3_1 := K_r_1.out.cell 3 _ rfl
         have hk_r_3_1f := K_r_1.out.froz 3 _ rfl)
      | (go_at_call_of 47 ((Value.agg #[Value.int .i64 c, Value.int .i64 d]))
         refine (RO.out c d _ hc hd).mono ?_
         rintro e w2 ⟨rfl, hb⟩
         rw [Hg.out, Hh.out]
         have K_m_2 := Lib.hid (K_m_1.out.after hb)
         have K_o_2 := Lib.hid (K_o_1.out.after hb)
         have K_r_2 := Lib.hid (K_r_1.out.after hb)
         have HB_2 := Lib.hid (HB_1.out.trans (hb.mono HB_1.out.size))
         clear hb
         have hk_m_0_2 := K_m_2.out.cell 0 _ rfl
         have hk_m_1_2 := K_m_2.out.cell 1 _ rfl
         have hk_m_2_2 := K_m_2.out.cell 2 _ rfl
         have hk_m_3_2 := K_m_2.out.cell 3 _ rfl
         have hk_o_0_2 := K_o_2.out.cell 0 _ rfl
         have hk_o_1_2 := K_o_2.out.cell 1 _ rfl
         have hk_o_2_2 := K_o_2.out.cell 2 _ rfl
         have hk_o_3_2 := K_o_2.out.cell 3 _ rfl
         have hk_r_0_2 := K_r_2.out.cell 0 _ rfl
         have hk_r_0_2f := K_r_2.out.froz 0 _ rfl
         have hk_r_1_2 := K_r_2.out.cell 1 _ rfl
         have hk_r_1_2f := K_r_2.out.froz 1 _ rfl
         have hk_r_2_2 := K_r_2.out.cell 2 _ rfl
         have hk_r_2_2f := K_r_2.out.froz 2 _ rfl
         have hk_r_3_2 := K_r_2.out.cell 3 _ rfl
         have hk_r_3_2f := K_r_2.out.froz 3 _ rfl))
  go_wp2
  have hr0 := K_r_2.out.cell 0 _ rfl
  have hr1 := K_r_2.out.cell 1 _ rfl
  have hr2 := K_r_2.out.cell 2 _ rfl
  have hr3 := K_r_2.out.cell 3 _ rfl
  refine bodyPost_ret (v := .agg #[.int .i64 e, .int .i64 f, .int .i64 g, .int .i64 h]) (by simp [results, Tryd.results76, go_sem, hr0, hr1, hr2, hr3]) rfl ⟨rfl, ?_⟩
  exact ((((HB_2.out.setCell (p := ⟨w.heap.size + 1 + 1, 0, none⟩) (by simp; try omega) _).setCell (p := ⟨w.heap.size + 1 + 1, 1, none⟩) (by simp; try omega) _).setCell (p := ⟨w.heap.size + 1 + 1, 2, none⟩) (by simp; try omega) _).setCell (p := ⟨w.heap.size + 1 + 1, 3, none⟩) (by simp; try omega) _)
end Go.Proofs.YtdilgjakodimbaaDoor
