/- The model's l07Put and l07Near. Conditions: none. -/
import Derived.Test.YtgjaennedihckaaGreatGraphSet
import Derived.Test.YtgjaennedihckaaGreatB3
import Derived.Test.YtgjaennedihckaaGreatB2
import Derived.Maps.AppendAt
namespace Go.Proofs.YtgjaennedihckaaGreat
open Go.RowKit
set_option linter.unusedVariables false

theorem ints_app (a b : List Int) : ints (a ++ b) = ints a ++ ints b := by simp [ints]
theorem ints_take (ds : List Int) (k : Nat) : (ints ds).take k = ints (ds.take k) := by simp [ints]
theorem ints_drop (ds : List Int) (k : Nat) : (ints ds).drop k = ints (ds.drop k) := by simp [ints]
theorem ints_one (l : List Int) : ∀ u ∈ ints l, u.oneCell' = true := by
  intro u hu
  obtain ⟨x, _, rfl⟩ := List.mem_map.mp hu
  rfl
theorem VRow.takeI {w : World} {A : Option Addr} {n m : Nat} {xs : List Value} (h : VRow w A n xs) (hm : m ≤ n) : VRow w A m (xs.take m) := by
  refine ⟨by rw [List.length_take, h.1]; omega, fun hp => ?_⟩
  obtain ⟨g, o, e, hg, hc⟩ := h.2 (by omega)
  refine ⟨g, o, e, hg, fun j hj => ?_⟩
  rw [List.getElem?_take_of_lt hj]
  exact hc j (by omega)
theorem VRow.dropI {w : World} {g n m : Nat} {xs : List Value} (h : VRow w (some ⟨g, 0, none⟩) n xs) (hm : m ≤ n) : VRow w (some ⟨g, m, none⟩) (n - m) (xs.drop m) := by
  refine ⟨by rw [List.length_drop, h.1], fun hp => ?_⟩
  obtain ⟨g', o, e, hg, hc⟩ := h.2 (by omega)
  obtain ⟨rfl, rfl⟩ : g = g' ∧ 0 = o := by simpa using e
  refine ⟨g, m, rfl, hg, fun j hj => ?_⟩
  have := hc (m + j) (by omega)
  rw [Nat.zero_add] at this
  rw [List.getElem?_drop]; exact this
theorem OwnV.cases3 {w : World} {base : Nat} {e : TypeId} {A : Option Addr} {n c : Nat} {xs : List Value} (h : OwnV w base e (.slice A n c) xs) : (A = none ∧ n = 0 ∧ c = 0) ∨ ∃ g, A = some ⟨g, 0, none⟩ := by
  rcases h with ⟨h, _⟩ | ⟨g, c', ys, h, _⟩
  · cases h; exact .inl ⟨rfl, rfl, rfl⟩
  · cases h; exact .inr ⟨g, rfl⟩
set_option maxRecDepth 100000 in
set_option maxHeartbeats 4000000 in
theorem l07Put_f (v : Value) (l : List Int) (x : Int) (base : Nat) (w : World) (hv : OwnV w base 3 v (ints l)) (hl : l.length ≤ 4194304) (hb : base ≤ w.heap.size) :
    Calls Tryz.prog 52 #[v, .int .i64 x] w fun e w' => ∃ v', e = .returned v' ∧ OwnV w' base 3 v' (ints (Gr.putI l x)) ∧ Below w.heap.size w w' := by
  obtain ⟨i0, hi, hz0, hz1, hz2⟩ := info_parts info_int
  obtain ⟨A, c, hs⟩ := hv.shape
  obtain ⟨n, hn0⟩ : ∃ n, (ints l).length = n := ⟨_, rfl⟩
  rw [hn0] at hs
  subst hs
  have hn : n = l.length := by have := hv.len; rw [ints_len] at this; omega
  have HV := Lib.hid hv
  have HR := Lib.hid hv.row
  have HN := Lib.hid hn
  have hn1 : n ≤ 4194304 := by omega
  have HB := Lib.hid hb
  clear hv hn hb hl hn0
  go_enter Tryz.func52, Tryz.ntmps52
  go_wp2
  go_loopw [5] (fun i wr => ∃ m : Nat, m ≤ n ∧ i = .int .i64 m ∧ wr = w ∧ ∀ j (hj : j < l.length), j < m → l[j] < x) (fun i _ => n - (intOf i).toNat)
  case atStart => exact ⟨0, Nat.zero_le _, rfl, rfl, fun j hj h => by omega⟩
  case round =>
    obtain ⟨m, hm, rfl, hw, hlt⟩ := hrel
    subst hw
    have HL := Lib.hid hlt
    clear hlt
    by_cases hmn : m < n
    · obtain ⟨g, o, hA, hg, hc⟩ := HR.out.at_ hmn
      rw [ints_get] at hc
      have hml : m < l.length := by have := HN.out; omega
      obtain ⟨y, hy⟩ : ∃ y, l[m] = y := ⟨_, rfl⟩
      rw [hy] at hc
      have HY := Lib.hid hy
      have hmi : (m : Int) < (n : Int) := by omega
      have hm0 : (0 : Int) ≤ (m : Int) := by omega
      clear hy
      by_cases hyx : y < x
      · subst hA
        have HL2 := Lib.hid (show ∀ j (hj : j < l.length), j < m + 1 → l[j] < x from fun j hj hjm => by
          by_cases e : j = m
          · subst e; have := HY.out; omega
          · exact HL.out j hj (by omega))
        go_wp2
        exact ⟨⟨m + 1, by omega, by go_num, by first | rfl | trivial, HL2.out⟩, by simp [intOf]; omega⟩
      · by_cases hye : y = x
        · subst hA
          subst hye
          have HE := Lib.hid (Gr.putI_same hml HL.out HY.out)
          go_wp2
          go_ret
          exact ⟨_, rfl, by rw [HE.out]; exact HV.out, Below.refl _ _⟩
        · have HP := Lib.hid (Gr.putI_new (by have := HN.out; omega) HL.out (fun hi => by have := HY.out; omega))
          have hd1 : decide (y < x) = false := decide_eq_false hyx
          have hd2 : (y == x) = false := by simpa using hye
          rcases HV.out.cases3 with ⟨_, h2, _⟩ | ⟨g', hA'⟩
          · omega
          · obtain ⟨rfl, rfl⟩ : g = g' ∧ o = 0 := by rw [hA] at hA'; simpa using hA'
            subst hA
            clear hA'
            rw [Nat.zero_add] at hc
            have HT1 := Lib.hid (((HR.out.takeI hm).below ((Below.refl _ _).alloc (Nat.le_refl _) (.cells #[] 3)) (Nat.le_refl _)))
            rw [ints_take] at HT1
            have HNL := Lib.hid HV.out.nil_cap
            have HM1 := Lib.hid (World.ownsRow_made (base := wr.heap.size) (e := 3) (size := 1) wr #[] 0 (Nat.le_refl _) (Nat.zero_le _) rfl)
            have HOC1 := Lib.hid (ints_one (l.take m))
            have HOC2 := Lib.hid (ints_one (l.drop m))
            have hcap := HV.out.cap.1
            have hmc : m ≤ c := by omega
            go_wp2_with (at_builtin; refine wpList_append_row rfl (.tmp 34) (.tmp 37) 22 rfl wr.heap.size 3 i0 _ 8 Tryz.underlying22 hi hz0 hz1 hz2 rfl _ 0 [] rfl HM1.out (some ⟨g, 0, none⟩) m c (ints (l.take m)) rfl HT1.out HNL.out HOC1.out (by unfold maxLen; omega) (by omega) (by simp) ?_)
            intro v1 w1 hown1 hgrow1
            have hown1 : w1.ownsRow wr.heap.size 3 1 v1 m (ints (l.take m)) := by simpa using hown1
            have HB1 := Lib.hid (((Below.refl wr.heap.size wr).alloc (Nat.le_refl _) _).grown hgrow1 (by simp) (fun k hk => by have e9 : wr.heap.size = k := Option.some.inj hk; omega))
            have HO1 := Lib.hid hown1
            have HC1 := Lib.hid (cell_one_new w1 (.int .i64 x) 3)
            have HOC3 := Lib.hid (ints_oneCell .i64 [x])
            clear hown1 hgrow1 HT1 HM1 HOC1
            go_wp2_with (at_builtin; refine wpList_append_own _ rfl (.tmp 39) (.tmp 41) 22 rfl wr.heap.size 3 i0 _ 1 8 Tryz.underlying22 hi hz0 hz1 hz2 rfl (by decide) _ m _ rfl (HO1.out.alloc _) ⟨w1.heap.size, 0, none⟩ 1 1 [.int .i64 x] rfl rfl HC1.out HOC3.out (by unfold maxLen; omega) (by omega) (by have := HB1.out.size; simp; omega) ?_)
            intro v2 w2 hown2 hgrow2 _
            have HB2 := Lib.hid ((HB1.out.alloc HB1.out.size _).grown hgrow2 (by have := HB1.out.size; simp; omega) (fun k hk => (HO1.out.lt k hk).1))
            have HO2 := Lib.hid hown2
            have HR2 := Lib.hid (HR.out.below HB2.out (Nat.le_refl _))
            clear hown2 hgrow2 HC1 HOC3 HO1
            have HD2 := Lib.hid (HR2.out.dropI hm)
            rw [ints_drop] at HD2
            go_wp2_with (at_builtin; refine wpList_append_row rfl (.tmp 43) (.tmp 46) 22 rfl wr.heap.size 3 i0 _ 8 Tryz.underlying22 hi hz0 hz1 hz2 rfl _ (m + 1) _ rfl HO2.out _ _ _ (ints (l.drop m)) rfl HD2.out (fun h => by first | rfl | simp at h) HOC2.out (by unfold maxLen; omega) (by omega) (by have := HB2.out.size; omega) ?_)
            intro v3 w3 hown3 hgrow3
            have HB3 := Lib.hid (HB2.out.grown hgrow3 HB2.out.size (fun k hk => (HO2.out.lt k hk).1))
            have HO3 := Lib.hid (OwnV.of_own hown3)
            clear hown3 hgrow3
            go_wp2
            go_ret
            refine ⟨_, rfl, ?_, HB3.out⟩
            have h3 := HO3.out.based HB.out
            rw [HP.out]
            simpa [ints] using h3
    · obtain rfl : m = n := by omega
      have HP := Lib.hid (Gr.putI_new (by have := HN.out; omega) HL.out (fun hi => by have := HN.out; omega))
      have hd1 : decide ((m : Int) < (m : Int)) = false := by simp
      rcases HV.out.cases3 with ⟨rfl, rfl, rfl⟩ | ⟨g, rfl⟩
      · have HT1 := Lib.hid (((HR.out.take (Nat.le_refl _)).below ((Below.refl _ _).alloc (Nat.le_refl _) (.cells #[] 3)) (Nat.le_refl _)))
        rw [ints_take] at HT1
        have HNL := Lib.hid HV.out.nil_cap
        have HM1 := Lib.hid (World.ownsRow_made (base := wr.heap.size) (e := 3) (size := 1) wr #[] 0 (Nat.le_refl _) (Nat.zero_le _) rfl)
        have HOC1 := Lib.hid (ints_one (l.take 0))
        have HOC2 := Lib.hid (ints_one (l.drop 0))
        have hcap := HV.out.cap.1
        go_wp2_with (at_builtin; refine wpList_append_row rfl (.tmp 34) (.tmp 37) 22 rfl wr.heap.size 3 i0 _ 8 Tryz.underlying22 hi hz0 hz1 hz2 rfl _ 0 [] rfl HM1.out none 0 0 (ints (l.take 0)) rfl HT1.out HNL.out HOC1.out (by unfold maxLen; omega) (by omega) (by simp) ?_)
        intro v1 w1 hown1 hgrow1
        have hown1 : w1.ownsRow wr.heap.size 3 1 v1 0 (ints (l.take 0)) := by simpa using hown1
        have HB1 := Lib.hid (((Below.refl wr.heap.size wr).alloc (Nat.le_refl _) _).grown hgrow1 (by simp) (fun k hk => by have e9 : wr.heap.size = k := Option.some.inj hk; omega))
        have HO1 := Lib.hid hown1
        have HC1 := Lib.hid (cell_one_new w1 (.int .i64 x) 3)
        have HOC3 := Lib.hid (ints_oneCell .i64 [x])
        clear hown1 hgrow1 HT1 HM1 HOC1
        go_wp2_with (at_builtin; refine wpList_append_own _ rfl (.tmp 39) (.tmp 41) 22 rfl wr.heap.size 3 i0 _ 1 8 Tryz.underlying22 hi hz0 hz1 hz2 rfl (by decide) _ 0 _ rfl (HO1.out.alloc _) ⟨w1.heap.size, 0, none⟩ 1 1 [.int .i64 x] rfl rfl HC1.out HOC3.out (by unfold maxLen; omega) (by omega) (by have := HB1.out.size; simp; omega) ?_)
        intro v2 w2 hown2 hgrow2 _
        have HB2 := Lib.hid ((HB1.out.alloc HB1.out.size _).grown hgrow2 (by have := HB1.out.size; simp; omega) (fun k hk => (HO1.out.lt k hk).1))
        have HO2 := Lib.hid hown2
        have HR2 := Lib.hid (HR.out.below HB2.out (Nat.le_refl _))
        clear hown2 hgrow2 HC1 HOC3 HO1
        have HD2 := Lib.hid (show VRow w2 none 0 (ints (l.drop 0)) from HR2.out)
        go_wp2_with (at_builtin; refine wpList_append_row rfl (.tmp 43) (.tmp 46) 22 rfl wr.heap.size 3 i0 _ 8 Tryz.underlying22 hi hz0 hz1 hz2 rfl _ (0 + 1) _ rfl HO2.out _ _ _ (ints (l.drop 0)) rfl HD2.out (fun h => by first | rfl | simp at h) HOC2.out (by unfold maxLen; omega) (by omega) (by have := HB2.out.size; omega) ?_)
        intro v3 w3 hown3 hgrow3
        have HB3 := Lib.hid (HB2.out.grown hgrow3 HB2.out.size (fun k hk => (HO2.out.lt k hk).1))
        have HO3 := Lib.hid (OwnV.of_own hown3)
        clear hown3 hgrow3
        go_wp2
        go_ret
        refine ⟨_, rfl, ?_, HB3.out⟩
        have h3 := HO3.out.based HB.out
        rw [HP.out]
        simpa [ints] using h3
      · have HT1 := Lib.hid (((HR.out.takeI (Nat.le_refl _)).below ((Below.refl _ _).alloc (Nat.le_refl _) (.cells #[] 3)) (Nat.le_refl _)))
        rw [ints_take] at HT1
        have HNL := Lib.hid HV.out.nil_cap
        have HM1 := Lib.hid (World.ownsRow_made (base := wr.heap.size) (e := 3) (size := 1) wr #[] 0 (Nat.le_refl _) (Nat.zero_le _) rfl)
        have HOC1 := Lib.hid (ints_one (l.take m))
        have HOC2 := Lib.hid (ints_one (l.drop m))
        have hcap := HV.out.cap.1
        have hmc : m ≤ c := by omega
        go_wp2_with (at_builtin; refine wpList_append_row rfl (.tmp 34) (.tmp 37) 22 rfl wr.heap.size 3 i0 _ 8 Tryz.underlying22 hi hz0 hz1 hz2 rfl _ 0 [] rfl HM1.out (some ⟨g, 0, none⟩) m c (ints (l.take m)) rfl HT1.out HNL.out HOC1.out (by unfold maxLen; omega) (by omega) (by simp) ?_)
        intro v1 w1 hown1 hgrow1
        have hown1 : w1.ownsRow wr.heap.size 3 1 v1 m (ints (l.take m)) := by simpa using hown1
        have HB1 := Lib.hid (((Below.refl wr.heap.size wr).alloc (Nat.le_refl _) _).grown hgrow1 (by simp) (fun k hk => by have e9 : wr.heap.size = k := Option.some.inj hk; omega))
        have HO1 := Lib.hid hown1
        have HC1 := Lib.hid (cell_one_new w1 (.int .i64 x) 3)
        have HOC3 := Lib.hid (ints_oneCell .i64 [x])
        clear hown1 hgrow1 HT1 HM1 HOC1
        go_wp2_with (at_builtin; refine wpList_append_own _ rfl (.tmp 39) (.tmp 41) 22 rfl wr.heap.size 3 i0 _ 1 8 Tryz.underlying22 hi hz0 hz1 hz2 rfl (by decide) _ m _ rfl (HO1.out.alloc _) ⟨w1.heap.size, 0, none⟩ 1 1 [.int .i64 x] rfl rfl HC1.out HOC3.out (by unfold maxLen; omega) (by omega) (by have := HB1.out.size; simp; omega) ?_)
        intro v2 w2 hown2 hgrow2 _
        have HB2 := Lib.hid ((HB1.out.alloc HB1.out.size _).grown hgrow2 (by have := HB1.out.size; simp; omega) (fun k hk => (HO1.out.lt k hk).1))
        have HO2 := Lib.hid hown2
        have HR2 := Lib.hid (HR.out.below HB2.out (Nat.le_refl _))
        clear hown2 hgrow2 HC1 HOC3 HO1
        have hdr : l.drop m = [] := List.drop_eq_nil_of_le (by have := HN.out; omega)
        rw [hdr] at HOC2 HP
        clear hdr
        by_cases hcm : c = m
        · subst hcm
          go_wp2_with (at_builtin; refine wpList_append_row rfl (.tmp 43) (.tmp 46) 22 rfl wr.heap.size 3 i0 _ 8 Tryz.underlying22 hi hz0 hz1 hz2 rfl _ (c + 1) _ rfl HO2.out _ 0 _ [] rfl (VRow.empty _ _) (fun h => by first | rfl | simp at h) (by simp) (by unfold maxLen; omega) (by omega) (by have := HB2.out.size; omega) ?_)
          intro v3 w3 hown3 hgrow3
          have HB3 := Lib.hid (HB2.out.grown hgrow3 HB2.out.size (fun k hk => (HO2.out.lt k hk).1))
          have HO3 := Lib.hid (OwnV.of_own hown3)
          clear hown3 hgrow3
          go_wp2
          go_ret
          refine ⟨_, rfl, ?_, HB3.out⟩
          have h3 := HO3.out.based HB.out
          rw [HP.out]
          simpa [ints] using h3
        · have hcm2 : ¬ c - m = 0 := by omega
          go_wp2_with (at_builtin; refine wpList_append_row rfl (.tmp 43) (.tmp 46) 22 rfl wr.heap.size 3 i0 _ 8 Tryz.underlying22 hi hz0 hz1 hz2 rfl _ (m + 1) _ rfl HO2.out _ 0 _ [] rfl (VRow.empty _ _) (fun h => by first | rfl | simp at h) (by simp) (by unfold maxLen; omega) (by omega) (by have := HB2.out.size; omega) ?_)
          intro v3 w3 hown3 hgrow3
          have HB3 := Lib.hid (HB2.out.grown hgrow3 HB2.out.size (fun k hk => (HO2.out.lt k hk).1))
          have HO3 := Lib.hid (OwnV.of_own hown3)
          clear hown3 hgrow3
          go_wp2
          go_ret
          refine ⟨_, rfl, ?_, HB3.out⟩
          have h3 := HO3.out.based HB.out
          rw [HP.out]
          simpa [ints] using h3
theorem Gr.nearOne_len (v : Int) (out : List Int) (e : Int × Int) : (Gr.nearOne v out e).length ≤ out.length + 2 := by
  unfold Gr.nearOne
  simp only
  split <;> split
  · have := Gr.len_putI (Gr.putI out e.2) e.1; have := Gr.len_putI out e.2; omega
  · have := Gr.len_putI out e.1; omega
  · have := Gr.len_putI out e.2; omega
  · omega
theorem Gr.near_len (v : Int) (es : Gr.Eds) (out : List Int) : (es.foldl (Gr.nearOne v) out).length ≤ out.length + 2 * es.length := by
  induction es generalizing out with
  | nil => simp
  | cons e r ih => rw [List.foldl_cons]; have := ih (Gr.nearOne v out e); have := Gr.nearOne_len v out e; simp; omega
/-- The neighbors that the first k links give. -/
def nearK (zs : List Lr) (v : Int) (k : Nat) : List Int := (eds (zs.take k)).foldl (Gr.nearOne v) []
theorem nearK_zero (zs : List Lr) (v : Int) : nearK zs v 0 = [] := by simp [nearK, eds]
theorem nearK_all {zs : List Lr} {n : Nat} (h : zs.length = n) (v : Int) : nearK zs v n = Gr.nearP (eds zs) v := by unfold nearK Gr.nearP; rw [List.take_of_length_le (by omega)]
theorem nearK_succ {zs : List Lr} {v : Int} {k : Nat} {z : Lr} (h : zs[k]? = some z) : nearK zs v (k + 1) = Gr.nearOne v (nearK zs v k) (z.A, z.B) := by
  unfold nearK; rw [eds_succ h, List.foldl_append]; rfl
theorem nearK_len {zs : List Lr} (v : Int) (k : Nat) : (nearK zs v k).length ≤ 2 * k := by
  have h := Gr.near_len v (eds (zs.take k)) []
  have h2 : (eds (zs.take k)).length ≤ k := by rw [eds_len, List.length_take]; omega
  have h3 : ([] : List Int).length = 0 := rfl
  unfold nearK; omega
theorem OwnV.empty_new (w : World) (e : TypeId) : OwnV (w.alloc (.cells #[] e)) w.heap.size e (.slice (some ⟨w.heap.size, 0, none⟩) 0 0) [] := OwnV.of_own (n := 0) (whole_empty w e)
set_option maxRecDepth 100000 in
set_option maxHeartbeats 4000000 in
theorem l07Near_f (A : Option Addr) (n c : Nat) (zs : List Lr) (v : Int) (w : World) (hA : LArg w A n zs) (hn : n ≤ 1048576) :
    Calls Tryz.prog 56 #[.slice A n c, .int .i64 v] w (OwnR 3 (ints (Gr.nearP (eds zs) v)) w) := by
  have HA := Lib.hid hA
  have HL := Lib.hid hA.row.1
  have S_0 := Lib.hid ((Below.refl w.heap.size w).alloc (Nat.le_refl _) (.cells #[] 3))
  have O_0 := Lib.hid (OwnV.empty_new w 3)
  clear hA
  go_enter Tryz.func56, Tryz.ntmps56
  go_wp2
  go_loopw [5, 11] (fun ov i wr => ∃ k : Nat, k ≤ n ∧ i = .int .i64 k ∧ OwnV wr w.heap.size 3 ov (ints (nearK zs v k)) ∧ Below w.heap.size w wr) (fun _ i _ => n - (intOf i).toNat)
  case atStart => exact ⟨0, Nat.zero_le _, rfl, by rw [nearK_zero]; exact O_0.out, S_0.out⟩
  case round =>
    obtain ⟨k, hk, rfl, ho, hb⟩ := hrel
    have O_1 := Lib.hid ho
    have B_1 := Lib.hid hb
    have hkl := nearK_len (zs := zs) v k
    obtain ⟨X, hX⟩ : ∃ X, nearK zs v k = X := ⟨_, rfl⟩
    rw [hX] at O_1 hkl
    have HX := Lib.hid hX
    clear ho hb hX O_0 S_0
    by_cases hlt : k < n
    · obtain ⟨g, o, z, rfl, hg, hz, hr, hc⟩ := (HA.out.below B_1.out).at_ hlt
      obtain ⟨ZA, ZB, ZP, ZQ, ZR, a0, n0, d0, a1, n1, d1, a2, n2, d2, a3, n3, d3, a4, n4, d4, a5, n5, d5, rfl⟩ := LArg.shapes hr
      have HS := Lib.hid (show nearK zs v (k + 1) = Gr.nearOne v X (ZA, ZB) by rw [nearK_succ hz, HX.out])
      have c0 : wr.cell? ⟨g, o + k * 11, none⟩ = some (.int .i64 ZA) := hc 0 _ rfl
      have c1 : wr.cell? ⟨g, o + k * 11 + 1, none⟩ = some (.int .i64 ZB) := hc 1 _ rfl
      have c2 : wr.cell? ⟨g, o + k * 11 + 2, none⟩ = some (.bool ZP.s) := hc 2 _ rfl
      have c3 : wr.cell? ⟨g, o + k * 11 + 3, none⟩ = some ((.slice a0 n0 d0)) := hc 3 _ rfl
      have c4 : wr.cell? ⟨g, o + k * 11 + 4, none⟩ = some ((.slice a1 n1 d1)) := hc 4 _ rfl
      have c5 : wr.cell? ⟨g, o + k * 11 + 5, none⟩ = some (.bool ZQ.s) := hc 5 _ rfl
      have c6 : wr.cell? ⟨g, o + k * 11 + 6, none⟩ = some ((.slice a2 n2 d2)) := hc 6 _ rfl
      have c7 : wr.cell? ⟨g, o + k * 11 + 7, none⟩ = some ((.slice a3 n3 d3)) := hc 7 _ rfl
      have c8 : wr.cell? ⟨g, o + k * 11 + 8, none⟩ = some (.bool ZR.s) := hc 8 _ rfl
      have c9 : wr.cell? ⟨g, o + k * 11 + 9, none⟩ = some ((.slice a4 n4 d4)) := hc 9 _ rfl
      have c10 : wr.cell? ⟨g, o + k * 11 + 10, none⟩ = some ((.slice a5 n5 d5)) := hc 10 _ rfl
      clear hz hr hc
      have B_2 := Lib.hid (B_1.out.alloc B_1.out.size (.cells #[.int .i64 ZA, .int .i64 ZB, .bool ZP.s, (.slice a0 n0 d0), (.slice a1 n1 d1), .bool ZQ.s, (.slice a2 n2 d2), (.slice a3 n3 d3), .bool ZR.s, (.slice a4 n4 d4), (.slice a5 n5 d5)] 38))
      have O_2 := Lib.hid (O_1.out.below ((Below.refl _ _).alloc (Nat.le_refl _) (.cells #[.int .i64 ZA, .int .i64 ZB, .bool ZP.s, (.slice a0 n0 d0), (.slice a1 n1 d1), .bool ZQ.s, (.slice a2 n2 d2), (.slice a3 n3 d3), .bool ZR.s, (.slice a4 n4 d4), (.slice a5 n5 d5)] 38)))
      clear B_1 O_1
      have hXl : X.length ≤ 4194304 - 4 := by omega
      by_cases h1 : ZA = v
      · subst h1
        go_wp2_with fail
        refine (l07Put_f _ X ZB w.heap.size _ O_2.out (by omega) B_2.out.size).mono ?_
        rintro e w1 ⟨o1, rfl, ho, hb⟩
        have hl1 := Gr.len_putI X ZB
        have O_3 := Lib.hid ho
        have B_3 := Lib.hid (B_2.out.trans (hb.mono B_2.out.size))
        have K_3 := Lib.hid ((HeldL.new wr [.int .i64 ZA, .int .i64 ZB, .bool ZP.s, (.slice a0 n0 d0), (.slice a1 n1 d1), .bool ZQ.s, (.slice a2 n2 d2), (.slice a3 n3 d3), .bool ZR.s, (.slice a4 n4 d4), (.slice a5 n5 d5)] 38).after hb)
        have k0 := K_3.out.cell 0 _ rfl
        have k1 := K_3.out.cell 1 _ rfl
        clear ho hb O_2 B_2 c0 c1 c2 c3 c4 c5 c6 c7 c8 c9 c10
        by_cases h2 : ZB = ZA
        · subst h2
          go_wp2_with fail
          refine (l07Put_f _ (Gr.putI X ZB) ZB w.heap.size _ O_3.out (by omega) B_3.out.size).mono ?_
          rintro e w2 ⟨o2, rfl, ho, hb⟩
          have O_4 := Lib.hid (show OwnV w2 w.heap.size 3 o2 (ints (nearK zs ZB (k + 1))) by rw [HS.out]; simp only [Gr.nearOne, if_true]; exact ho)
          have B_4 := Lib.hid (B_3.out.trans (hb.mono B_3.out.size))
          clear ho hb O_3 B_3 k0 k1
          go_wp2
          exact ⟨⟨k + 1, by omega, by go_num, O_4.out, B_4.out⟩, by simp [intOf]; omega⟩
        · have O_4 := Lib.hid (show OwnV w1 w.heap.size 3 o1 (ints (nearK zs ZA (k + 1))) by rw [HS.out]; simp only [Gr.nearOne, if_true, if_neg h2]; exact O_3.out)
          clear O_3
          go_wp2
          exact ⟨⟨k + 1, by omega, by go_num, O_4.out, B_3.out⟩, by simp [intOf]; omega⟩
      · by_cases h2 : ZB = v
        · subst h2
          go_wp2_with fail
          refine (l07Put_f _ X ZA w.heap.size _ O_2.out (by omega) B_2.out.size).mono ?_
          rintro e w1 ⟨o1, rfl, ho, hb⟩
          have O_3 := Lib.hid (show OwnV w1 w.heap.size 3 o1 (ints (nearK zs ZB (k + 1))) by rw [HS.out]; simp only [Gr.nearOne, if_neg h1, if_true]; exact ho)
          have B_3 := Lib.hid (B_2.out.trans (hb.mono B_2.out.size))
          clear ho hb O_2 B_2 c0 c1 c2 c3 c4 c5 c6 c7 c8 c9 c10
          go_wp2
          exact ⟨⟨k + 1, by omega, by go_num, O_3.out, B_3.out⟩, by simp [intOf]; omega⟩
        · have hE : X = nearK zs v (k + 1) := by rw [HS.out]; simp only [Gr.nearOne, if_neg h1, if_neg h2]
          rw [hE] at O_2
          clear hE
          go_wp2
          exact ⟨⟨k + 1, by omega, by go_num, O_2.out, B_2.out⟩, by simp [intOf]; omega⟩
    · obtain rfl : k = n := by omega
      go_wp2
      go_ret
      refine ⟨_, rfl, ?_, B_1.out⟩
      rw [← nearK_all HL.out, HX.out]; exact O_1.out
end Go.Proofs.YtgjaennedihckaaGreat
