/- Fractions: how the program makes them, and raises a numerator. Conditions: none. -/
import Derived.Test.YtbblfledkmcfmabProg
import Derived.Test.YtbblfledkmcfmabRat2
import Derived.Test.YtbblfledkmcfmabBigOf
import Derived.Test.YtbblfledkmcfmabBigMul
import Derived.Test.YtbblfledkmcfmabBigSum
import Derived.Test.YtbblfledkmcfmabBigSub
import Derived.Test.YtbblfledkmcfmabBigCmp
namespace Go.Proofs.Ytbblfledkmcfmab
open Go.RowKit Nt
set_option linter.unusedVariables false

/-- The result g, M of the big integers is the number z. -/
def IsZ (g : Bool) (M : List Nat) (z : Int) : Prop := sgZ z = g ∧ magZ z = M ∧ z.natAbs < 1000000000 ^ 60
theorem IsZ.back {g : Bool} {M : List Nat} {z : Int} (h : IsZ g M z) : signed g (val M) = z := by obtain ⟨rfl, rfl, h3⟩ := h; exact back_z h3
theorem IsZ.can {g : Bool} {M : List Nat} {z : Int} (h : IsZ g M z) : Canon M := by obtain ⟨rfl, rfl, h3⟩ := h; exact magZ_can z
theorem IsZ.len {g : Bool} {M : List Nat} {z : Int} (h : IsZ g M z) : M.length ≤ 60 := by obtain ⟨rfl, rfl, h3⟩ := h; exact capd_len _
theorem IsZ.ok {g : Bool} {M : List Nat} {z : Int} (h : IsZ g M z) : okB g (M.map fun x : Nat => (x : Int)) = true := by
  unfold okB
  rw [okI_of_nats h.can h.len]
  obtain ⟨rfl, rfl, h3⟩ := h
  rw [sgZ_small h3, magZ_small h3]
  by_cases hz : z < 0
  · have : 0 < (dig z.natAbs).length := dig_pos_len (by omega)
    simp [hz, this]
  · simp [hz]
theorem IsZ.z {g : Bool} {M : List Nat} {z : Int} (h : IsZ g M z) : zOf g (M.map fun x : Nat => (x : Int)) = z := by rw [zOf, toN_nats]; exact h.back
theorem IsZ.of {z : Int} (h : z.natAbs < 1000000000 ^ 60) : IsZ (sgZ z) (magZ z) z := ⟨rfl, rfl, h⟩
theorem zOf_false (vs : List Int) : zOf false vs = (val (toN vs) : Int) := by simp [zOf, signed]
theorem okB_false (vs : List Int) : okB false vs = okI vs := by simp [okB]
theorem res_yes {ok : Bool} {z : Int} (h : ok = true) : resS ok z = sgZ z ∧ resM ok z = magZ z := by subst h; simp [resS, resM]
set_option maxRecDepth 100000 in
set_option maxHeartbeats 4000000 in
theorem raisedBy_at (s : Bool) (A : Option Addr) (n c : Nat) (xs : List Int) (B : Option Addr) (m d : Nat) (ys : List Int) (E : Option Addr) (k l : Nat) (vs : List Int) (z : Int) (g : Bool) (M : List Nat) (hz : zOf s xs * (val (toN vs) : Int) = z) (hI : IsZ g M z) (h1 : okB s xs = true) (h2 : okI vs = true) (w : World) (hA : Arg w A n c (ints xs)) (hE : Arg w E k l (ints vs)) :
    Calls Try.prog 39 #[.agg #[.bool s, .slice A n c, .slice B m d], .slice E k l] w (OwnRB 3 g (nats M) w) := by
  have hA_max := hA.max
  have hE_max := hE.max
  have HC := Lib.hid (fun u hA hE => bigIntMul_impl s false A E n c k l xs vs u hA hE hA_max hE_max)
  have hr := res_yes (ok := okB s xs && okB false vs) (z := zOf s xs * zOf false vs) (by rw [h1, okB_false, h2]; rfl)
  rw [hr.1, hr.2, zOf_false, hz, hI.1, hI.2.1] at HC
  clear hr h1 h2 hz hI hA_max hE_max
  have HA := Lib.hid hA
  have HE := Lib.hid hE
  clear hA hE
  go_enter Try.func39, Try.ntmps39
  have HB_0 := Lib.hid (((Below.refl w.heap.size w).alloc (Nat.le_refl _) (.cells #[.bool s, .slice A n c, .slice B m d] 30)).alloc (by simp) (.cells #[.bool false, .slice none 0 0] 28))
  have K_a_0 := Lib.hid ((HeldL.new_at w (w.heap.size) [.bool s, .slice A n c, .slice B m d] 30 (by first | rfl | simp)).alloc (.cells #[.bool false, .slice none 0 0] 28))
  have K_res_0 := Lib.hid (HeldL.new_at (w.alloc (.cells #[.bool s, .slice A n c, .slice B m d] 30)) (w.heap.size + 1) [.bool false, .slice none 0 0] 28 (by first | rfl | simp))
  have hne_a_res : w.heap.size ≠ w.heap.size + 1 := by omega
  have hne_res_a : w.heap.size + 1 ≠ w.heap.size := by omega
  go_wp2_with fail
  refine (HC.out _ (HA.out.below HB_0.out (Nat.le_refl _)).1 (HE.out.below HB_0.out (Nat.le_refl _)).1).mono ?_
  rintro e w9 ⟨v9, rfl, ho, hb⟩
  obtain ⟨A9, c9, rfl⟩ := ho.shape
  have HO9 := Lib.hid ho
  clear ho
  have K_a_1 := Lib.hid (K_a_0.out.after hb)
  have K_res_1 := Lib.hid (K_res_0.out.after hb)
  have HB_1 := Lib.hid (HB_0.out.trans (hb.mono HB_0.out.size))
  clear hb
  have hk_res_0_1 := K_res_1.out.cell 0 _ rfl
  have hk_res_0_1f := K_res_1.out.froz 0 _ rfl
  have hk_res_1_1 := K_res_1.out.cell 1 _ rfl
  have hk_res_1_1f := K_res_1.out.froz 1 _ rfl
  go_wp2
  have hr0 := K_res_1.out.cell 0 _ rfl
  have hr1 := K_res_1.out.cell 1 _ rfl
  exact bodyPost_ret (v := .agg #[.bool g, .slice A9 (nats M).length c9]) (by simp [results, Try.results39, go_sem, hr0, hr1]) rfl (ownRB_close HB_1.out HO9.out K_res_0.out.lt (by omega))
end Go.Proofs.Ytbblfledkmcfmab
