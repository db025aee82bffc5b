/- NodesOf, ComponentOf, IsGrounded of both sides. Conditions: none. -/
import Derived.Test.YtkhkkaobooednabGreatComp
import Derived.Test.YtkhkkaobooednabGreatIsSetS
namespace Go.Proofs.YtkhkkaobooednabGreat
open Go.RowKit Nt Fr
set_option linter.unusedVariables false

/-- The nodes of a link set. -/
def nodesA (zs : List Lr) : List Int := if okSet zs = true then Gr.nodesP (eds zs) else []
/-- What can be reached from v. -/
def compA (zs : List Lr) (v : Int) : List Int := if okSet zs = true then Gr.compN (eds zs) v 10 else []
/-- Is a link set grounded? -/
def groundA (zs : List Lr) : Bool := okSet zs && (nodesA zs).all fun x => (compA zs 0).contains x
section
variable {ys zs : List Lr} {n : Nat}
theorem nodesA_like (hy : ys.length = n) (hz : zs.length = n) (h : ∀ (i : Nat) (y z : Lr), ys[i]? = some y → zs[i]? = some z → y.like z) : nodesA ys = nodesA zs := by unfold nodesA; rw [okSet_like hy hz h, eds_like hy hz h]
theorem compA_like {v : Int} (hy : ys.length = n) (hz : zs.length = n) (h : ∀ (i : Nat) (y z : Lr), ys[i]? = some y → zs[i]? = some z → y.like z) : compA ys v = compA zs v := by unfold compA; rw [okSet_like hy hz h, eds_like hy hz h]
theorem groundA_like (hy : ys.length = n) (hz : zs.length = n) (h : ∀ (i : Nat) (y z : Lr), ys[i]? = some y → zs[i]? = some z → y.like z) : groundA ys = groundA zs := by unfold groundA; rw [nodesA_like hy hz h, compA_like hy hz h, okSet_like hy hz h]
end
theorem nodesA_len (zs : List Lr) : (nodesA zs).length ≤ 4194304 := by
  unfold nodesA
  split
  · rename_i h
    have hok := okSet_eds h
    have := Gr.nodup_le (m := Gr.ten) (Gr.nodesP_asc hok).nodup (fun x hx => by
      obtain ⟨_, e, he, hx'⟩ := (Gr.mem_nodesP hok).mp hx
      have := hok.1 e he
      exact Gr.mem_ten (by omega))
    simp [Gr.ten] at this; omega
  · simp
theorem compA_len (zs : List Lr) (v : Int) : (compA zs v).length ≤ 4194304 := by
  unfold compA
  split
  · rename_i h
    have := Gr.reach_len (okSet_eds h) (Gr.compN_asc (eds zs) v 10).nodup (fun x hx => Gr.compN_reach hx)
    omega
  · simp
/-- The nodes that the first k links give. -/
def nodesK (zs : List Lr) (k : Nat) : List Int := (eds (zs.take k)).foldl Gr.nodesOne []
theorem nodesK_succ {zs : List Lr} {k : Nat} {z : Lr} (h : zs[k]? = some z) : nodesK zs (k + 1) = Gr.nodesOne (nodesK zs k) (z.A, z.B) := by unfold nodesK; rw [eds_succ h, List.foldl_append]; rfl
theorem Gr.nodesOne_len (out : List Int) (e : Int × Int) : (Gr.nodesOne out e).length ≤ out.length + 2 := by
  unfold Gr.nodesOne
  split
  · have := Gr.len_putI (Gr.putI out e.1) e.2; have := Gr.len_putI out e.1; omega
  · have := Gr.len_putI out e.2; omega
theorem Gr.nodes_len (es : Gr.Eds) (out : List Int) : (es.foldl Gr.nodesOne out).length ≤ out.length + 2 * es.length := by
  induction es generalizing out with
  | nil => simp
  | cons e r ih => rw [List.foldl_cons]; have := ih (Gr.nodesOne out e); have := Gr.nodesOne_len out e; simp; omega
theorem nodesK_len {zs : List Lr} (k : Nat) : (nodesK zs k).length ≤ 2 * k := by
  have h := Gr.nodes_len (eds (zs.take k)) []
  have h2 : (eds (zs.take k)).length ≤ k := by rw [eds_len, List.length_take]; omega
  have h3 : ([] : List Int).length = 0 := rfl
  unfold nodesK; omega
theorem Gr.pass_take (es : Gr.Eds) (out xs : List Int) (k : Nat) (x : Int) (h : xs[k]? = some x) : Gr.passP es out (xs.take (k + 1)) = (Gr.nearP es x).foldl Gr.putI (Gr.passP es out (xs.take k)) := by
  obtain ⟨hk, e⟩ := List.getElem?_eq_some_iff.mp h
  rw [List.take_succ_eq_append_getElem hk, e]
  simp [Gr.passP]
theorem Gr.fold_take (ys out : List Int) (k : Nat) (y : Int) (h : ys[k]? = some y) : (ys.take (k + 1)).foldl Gr.putI out = Gr.putI ((ys.take k).foldl Gr.putI out) y := by
  obtain ⟨hk, e⟩ := List.getElem?_eq_some_iff.mp h
  rw [List.take_succ_eq_append_getElem hk, e]
  simp
theorem Gr.pass_reach {es : Gr.Eds} {v : Int} {out xs : List Int} (h : Gr.Asc out) (h1 : ∀ x ∈ out, Gr.Reach es v x) (h2 : ∀ x ∈ xs, Gr.Reach es v x) : ∀ y ∈ Gr.passP es out xs, Gr.Reach es v y := fun y hy => by
  rcases ((Gr.pass_fold es xs out h).2 y).mp hy with a | ⟨x, hx, ha⟩
  · exact h1 y a
  · exact .step (h2 x hx) ha
set_option maxRecDepth 100000 in
set_option maxHeartbeats 4000000 in
theorem componentOf_s (A : Option Addr) (n c : Nat) (zs : List Lr) (v : Int) (w : World) (hA : LArg w A n zs) (hn : n ≤ 1048576) :
    Calls Tryz.prog 14 #[.slice A n c, .int .i64 v] w (OwnR 3 (ints (compA zs v)) w) := by
  have HA := Lib.hid hA
  have HL := Lib.hid hA.row.1
  clear hA
  obtain ⟨ok, hok⟩ : ∃ q, okSet zs = q := ⟨_, rfl⟩
  have HOK := Lib.hid hok
  clear hok
  obtain ⟨r, hr⟩ : ∃ q, compA zs v = q := ⟨_, rfl⟩
  have HRr := Lib.hid hr
  rw [hr]
  clear hr
  have B_0 := Lib.hid (Below.refl w.heap.size w)
  go_enter Tryz.func14, Tryz.ntmps14
  go_wp2_with fail
  refine (isLinkSet_s A n c zs _ (HA.out.below B_0.out) hn).mono ?_
  rintro e w1 ⟨rfl, hb⟩
  rw [HOK.out]
  have B_1 := Lib.hid (B_0.out.trans (hb.mono B_0.out.size))
  clear hb B_0
  cases ok with
  | false =>
    have HE := Lib.hid (show [] = r by rw [← HRr.out]; simp [compA, HOK.out])
    go_wp2
    go_ret
    exact ⟨_, rfl, by rw [← HE.out]; exact OwnV.nil _ _ _, B_1.out⟩
  | true =>
    have HE := Lib.hid (show Gr.compN (eds zs) v 10 = r by rw [← HRr.out]; simp [compA, HOK.out])
    have HO := Lib.hid (okSet_eds HOK.out)
    have R_1 := Lib.hid (show OwnV (w1.alloc (.cells #[.int .i64 v] 3)) w.heap.size 3 (.slice (some ⟨w1.heap.size, 0, none⟩) 1 1) (ints [v]) from OwnV.of_own (n := 1) (World.ownsRow_lit w1 #[.int .i64 v] 1 B_1.out.size (by unfold maxLen; omega) rfl))
    have B_2 := Lib.hid (B_1.out.alloc B_1.out.size (.cells #[.int .i64 v] 3))
    clear B_1
    go_wp2
    go_loopw [5, 6] (fun ov iv wr => ∃ q : Nat, q ≤ 10 ∧ iv = .int .i64 q ∧ OwnV wr w.heap.size 3 ov (ints (Gr.compN (eds zs) v q)) ∧ Below w.heap.size w wr) (fun _ iv _ => 10 - (intOf iv).toNat)
    case atStart => exact ⟨0, Nat.zero_le _, rfl, R_1.out, B_2.out⟩
    case round =>
      obtain ⟨q, hq, rfl, ho, hb⟩ := hrel
      obtain ⟨X, hX⟩ : ∃ X, Gr.compN (eds zs) v q = X := ⟨_, rfl⟩
      rw [hX] at ho
      have hXl : X.length ≤ 11 := by rw [← hX]; exact Gr.reach_len HO.out (Gr.compN_asc _ _ _).nodup (fun x hx => Gr.compN_reach hx)
      have HXR := Lib.hid (show ∀ x ∈ X, Gr.Reach (eds zs) v x by rw [← hX]; exact fun x hx => Gr.compN_reach hx)
      have HXA := Lib.hid (show Gr.Asc X by rw [← hX]; exact Gr.compN_asc _ _ _)
      have HX := Lib.hid hX
      obtain ⟨Ax, cx, rfl⟩ := ho.shape
      obtain ⟨nx, hnx⟩ : ∃ n, (ints X).length = n := ⟨_, rfl⟩
      rw [hnx] at ho ⊢
      have HNX := Lib.hid (show X.length = nx by rw [ints_len] at hnx; exact hnx)
      have hnx2 : nx ≤ 11 := by rw [ints_len] at hnx; omega
      have O_3 := Lib.hid ho
      have B_3 := Lib.hid hb
      clear ho hb hX hnx B_2 R_1
      by_cases hq10 : q < 10
      · have hq1 : (q : Int) < 10 := by omega
        go_wp2
        go_loopw [5, 22] (fun ov iv ws => ∃ k : Nat, k ≤ nx ∧ iv = .int .i64 k ∧ OwnV ws w.heap.size 3 ov (ints (Gr.passP (eds zs) X (X.take k))) ∧ OwnV ws w.heap.size 3 (.slice Ax nx cx) (ints X) ∧ Below w.heap.size w ws) (fun _ iv _ => nx - (intOf iv).toNat)
        case atStart => exact ⟨0, Nat.zero_le _, rfl, O_3.out, O_3.out, B_3.out⟩
        case round =>
          obtain ⟨k, hk, rfl, ho, hox, hb⟩ := hrel
          obtain ⟨Y, hY⟩ : ∃ Y, Gr.passP (eds zs) X (X.take k) = Y := ⟨_, rfl⟩
          rw [hY] at ho
          have HYR := Lib.hid (show ∀ x ∈ Y, Gr.Reach (eds zs) v x by rw [← hY]; exact Gr.pass_reach HXA.out HXR.out (fun x hx => HXR.out x (List.mem_of_mem_take hx)))
          have HYA := Lib.hid (show Gr.Asc Y by rw [← hY]; exact (Gr.pass_fold _ _ _ HXA.out).1)
          have HY := Lib.hid hY
          have O_4 := Lib.hid ho
          have X_4 := Lib.hid hox
          have B_4 := Lib.hid hb
          clear ho hox hb hY O_3 B_3
          by_cases hkn : k < nx
          · obtain ⟨g, o, rfl, hg, hc⟩ := X_4.out.row.at_ hkn
            rw [ints_get] at hc
            have hkl : k < X.length := by have := HNX.out; omega
            obtain ⟨x, hx⟩ : ∃ x, X[k] = x := ⟨_, rfl⟩
            rw [hx] at hc
            have HXK := Lib.hid (show X[k]? = some x by rw [List.getElem?_eq_getElem hkl, hx])
            have HXX := Lib.hid (HXR.out x (by rw [← hx]; exact List.getElem_mem hkl))
            have hk0 : (0 : Int) ≤ (k : Int) := by omega
            have hk1 : (k : Int) < (nx : Int) := by omega
            clear hx
            go_wp2_with fail
            refine (l07Near_f A n c zs x _ (HA.out.below B_4.out) hn).mono ?_
            rintro e w5 ⟨u, rfl, ho, hb⟩
            obtain ⟨N, hN⟩ : ∃ N, Gr.nearP (eds zs) x = N := ⟨_, rfl⟩
            rw [hN] at ho
            obtain ⟨An, cn, rfl⟩ := ho.shape
            obtain ⟨nn, hnn⟩ : ∃ n, (ints N).length = n := ⟨_, rfl⟩
            rw [hnn] at ho ⊢
            have HNN := Lib.hid (show N.length = nn by rw [ints_len] at hnn; exact hnn)
            have hnn2 : nn ≤ 4194304 := by
              have h := nearK_len (zs := zs) x n
              rw [nearK_all HL.out, hN] at h
              rw [ints_len] at hnn; omega
            have HNR := Lib.hid (show ∀ y ∈ N, Gr.Reach (eds zs) v y from fun y hy => .step HXX.out (Gr.mem_near.mp (by rw [hN]; exact hy)))
            have HN := Lib.hid hN
            have N_5 := Lib.hid ho
            have O_5 := Lib.hid (O_4.out.below hb)
            have X_5 := Lib.hid (X_4.out.below hb)
            have B_5 := Lib.hid (B_4.out.trans (hb.mono B_4.out.size))
            clear ho hb hN hnn O_4 X_4 B_4 hc
            go_wp2
            go_loopw [5, 30] (fun ov iv ws => ∃ j : Nat, j ≤ nn ∧ iv = .int .i64 j ∧ OwnV ws w.heap.size 3 ov (ints ((N.take j).foldl Gr.putI Y)) ∧ Below w5.heap.size w5 ws) (fun _ iv _ => nn - (intOf iv).toNat)
            case atStart => exact ⟨0, Nat.zero_le _, rfl, O_5.out, Below.refl _ _⟩
            case round =>
              obtain ⟨j, hj, rfl, ho, hb⟩ := hrel
              obtain ⟨T, hT⟩ : ∃ T, (N.take j).foldl Gr.putI Y = T := ⟨_, rfl⟩
              rw [hT] at ho
              have hTl : T.length ≤ 11 := by
                rw [← hT]
                refine Gr.reach_len (v := v) HO.out (Gr.fold_put (N.take j) Y HYA.out).1.nodup (fun y hy => ?_)
                rcases ((Gr.fold_put (N.take j) Y HYA.out).2 y).mp hy with a | a
                · exact HYR.out y a
                · exact HNR.out y (List.mem_of_mem_take a)
              have HT := Lib.hid hT
              have O_6 := Lib.hid ho
              have D_6 := Lib.hid hb
              have B_6 := Lib.hid (B_5.out.trans (hb.mono B_5.out.size))
              clear ho hb hT O_5
              by_cases hjn : j < nn
              · obtain ⟨g2, o2, rfl, hg2, hc2⟩ := (N_5.out.row.below D_6.out (Nat.le_refl _)).at_ hjn
                rw [ints_get] at hc2
                have hjl : j < N.length := by have := HNN.out; omega
                obtain ⟨y, hy⟩ : ∃ y, N[j] = y := ⟨_, rfl⟩
                rw [hy] at hc2
                have HYJ := Lib.hid (show N[j]? = some y by rw [List.getElem?_eq_getElem hjl, hy])
                have hj0 : (0 : Int) ≤ (j : Int) := by omega
                have hj1 : (j : Int) < (nn : Int) := by omega
                clear hy
                go_wp2_with fail
                refine (l07Put_f _ T y w.heap.size _ O_6.out (by omega) B_6.out.size).mono ?_
                rintro e w7 ⟨o3, rfl, ho, hb⟩
                have O_7 := Lib.hid (show OwnV w7 w.heap.size 3 o3 (ints ((N.take (j + 1)).foldl Gr.putI Y)) by rw [Gr.fold_take N Y j y HYJ.out, HT.out]; exact ho)
                have D_7 := Lib.hid (D_6.out.trans (hb.mono D_6.out.size))
                clear ho hb O_6 D_6 B_6
                go_wp2
                exact ⟨⟨j + 1, by omega, by go_num, O_7.out, D_7.out⟩, by simp [intOf]; omega⟩
              · obtain rfl : j = nn := by omega
                have O_7 := Lib.hid (show OwnV wr w.heap.size 3 _ (ints (Gr.passP (eds zs) X (X.take (k + 1)))) by
                  rw [Gr.pass_take (eds zs) X X k x HXK.out, HY.out, HN.out]
                  have h := O_6.out
                  rw [← HT.out, List.take_of_length_le (by rw [HNN.out]; exact Nat.le_refl _)] at h
                  exact h)
                have X_7 := Lib.hid (X_5.out.below D_6.out)
                clear O_6
                go_wp2
                exact ⟨⟨k + 1, by omega, by go_num, O_7.out, X_7.out, B_6.out⟩, by simp [intOf]; omega⟩
          · obtain rfl : k = nx := by omega
            have O_7 := Lib.hid (show OwnV wr w.heap.size 3 _ (ints (Gr.compN (eds zs) v (q + 1))) by
              have h := O_4.out
              rw [← HY.out, List.take_of_length_le (by rw [HNX.out]; exact Nat.le_refl _), ← HX.out] at h
              exact h)
            clear O_4
            go_wp2
            exact ⟨⟨q + 1, by omega, by go_num, O_7.out, B_4.out⟩, by simp [intOf]; omega⟩
      · obtain rfl : q = 10 := by omega
        have HE2 := Lib.hid (show X = r by rw [← HX.out, ← HE.out])
        go_wp2
        go_ret
        exact ⟨_, rfl, by rw [← HE2.out]; exact O_3.out, B_3.out⟩
set_option maxRecDepth 100000 in
set_option maxHeartbeats 4000000 in
theorem l07Has_f (A : Option Addr) (n c : Nat) (zs : List Int) (x : Int) (w : World) (hA : VRow w A n (ints zs)) (hn : n ≤ 4194304) :
    Calls Tryz.prog 13 #[.slice A n c, .int .i64 x] w fun e w' => e = .returned (.bool (zs.contains x)) ∧ w' = w := by
  have HA := Lib.hid hA
  have HL := Lib.hid (show zs.length = n by have := hA.1; rw [ints_len] at this; exact this)
  obtain ⟨r, hr⟩ : ∃ q, zs.contains x = q := ⟨_, rfl⟩
  rw [hr]
  have HR := Lib.hid hr
  clear hA hr
  go_enter Tryz.func13, Tryz.ntmps13
  go_wp2
  go_loopw [9] (fun i wr => ∃ k : Nat, k ≤ n ∧ i = .int .i64 k ∧ (∀ (j : Nat) (y : Int), j < k → zs[j]? = some y → y ≠ x) ∧ wr = w) (fun i _ => n - (intOf i).toNat)
  case atStart => exact ⟨0, Nat.zero_le _, rfl, fun j y hj => by omega, rfl⟩
  case round =>
    obtain ⟨k, hk, rfl, hall, hw⟩ := hrel
    subst hw
    have HALL := Lib.hid hall
    clear hall
    by_cases hkn : k < n
    · obtain ⟨g, o, rfl, hg, hc⟩ := HA.out.at_ hkn
      rw [ints_get] at hc
      have hkl : k < zs.length := by have := HL.out; omega
      obtain ⟨y, hy⟩ : ∃ y, zs[k] = y := ⟨_, rfl⟩
      rw [hy] at hc
      have HY := Lib.hid hy
      have hk0 : (0 : Int) ≤ (k : Int) := by omega
      have hk1 : (k : Int) < (n : Int) := by omega
      clear hy
      by_cases hyx : y = x
      · subst hyx
        have HE := Lib.hid (show true = r by rw [← HR.out]; symm; simp only [List.contains_iff_mem]; rw [← HY.out]; exact List.getElem_mem hkl)
        go_wp2
        go_ret
        exact ⟨ret_bool HE.out, rfl⟩
      · have hd : (y == x) = false := by simpa using hyx
        have HA2 := Lib.hid (show ∀ (j : Nat) (t : Int), j < k + 1 → zs[j]? = some t → t ≠ x from fun j t hj ht => by
          by_cases e : j = k
          · subst e
            rw [List.getElem?_eq_getElem hkl, HY.out] at ht
            obtain rfl := Option.some.inj ht
            exact hyx
          · exact HALL.out j t (by omega) ht)
        go_wp2
        exact ⟨⟨k + 1, by omega, by go_num, HA2.out, by first | rfl | trivial⟩, by simp [intOf]; omega⟩
    · obtain rfl : k = n := by omega
      have HE := Lib.hid (show false = r by
        rw [← HR.out]; symm
        rw [← Bool.not_eq_true, List.contains_iff_mem]
        intro hm
        obtain ⟨j, hj⟩ := List.mem_iff_getElem?.mp hm
        exact HALL.out j x (by have := (List.getElem?_eq_some_iff.mp hj).1; have := HL.out; omega) hj rfl)
      go_wp2
      go_ret
      exact ⟨ret_bool HE.out, rfl⟩
end Go.Proofs.YtkhkkaobooednabGreat
