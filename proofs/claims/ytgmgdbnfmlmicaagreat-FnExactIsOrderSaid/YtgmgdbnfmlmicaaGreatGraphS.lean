/- NodesOf, ComponentOf, IsGrounded of both sides. Conditions: none. -/
import Derived.Test.YtgmgdbnfmlmicaaGreatComp
import Derived.Test.YtgmgdbnfmlmicaaGreatIsSetS
namespace Go.Proofs.YtgmgdbnfmlmicaaGreat
open Go.RowKit Nt Fr
set_option linter.unusedVariables false

/-- The nodes of a link set. -/
def nodesA (zs : List Lr) : List Int := if okSet zs = true then Gr.nodesP (eds zs) else []
/-- What can be reached from v. -/
def compA (zs : List Lr) (v : Int) : List Int := if okSet zs = true then Gr.compN (eds zs) v 10 else []
/-- Is a link set grounded? -/
def groundA (zs : List Lr) : Bool := okSet zs && (nodesA zs).all fun x => (compA zs 0).contains x
section
variable {ys zs : List Lr} {n : Nat}
theorem nodesA_like (hy : ys.length = n) (hz : zs.length = n) (h : ∀ (i : Nat) (y z : Lr), ys[i]? = some y → zs[i]? = some z → y.like z) : nodesA ys = nodesA zs := by unfold nodesA; rw [okSet_like hy hz h, eds_like hy hz h]
theorem compA_like {v : Int} (hy : ys.length = n) (hz : zs.length = n) (h : ∀ (i : Nat) (y z : Lr), ys[i]? = some y → zs[i]? = some z → y.like z) : compA ys v = compA zs v := by unfold compA; rw [okSet_like hy hz h, eds_like hy hz h]
theorem groundA_like (hy : ys.length = n) (hz : zs.length = n) (h : ∀ (i : Nat) (y z : Lr), ys[i]? = some y → zs[i]? = some z → y.like z) : groundA ys = groundA zs := by unfold groundA; rw [nodesA_like hy hz h, compA_like hy hz h, okSet_like hy hz h]
end
theorem nodesA_len (zs : List Lr) : (nodesA zs).length ≤ 4194304 := by
  unfold nodesA
  split
  · rename_i h
    have hok := okSet_eds h
    have := Gr.nodup_le (m := Gr.ten) (Gr.nodesP_asc hok).nodup (fun x hx => by
      obtain ⟨_, e, he, hx'⟩ := (Gr.mem_nodesP hok).mp hx
      have := hok.1 e he
      exact Gr.mem_ten (by omega))
    simp [Gr.ten] at this; omega
  · simp
theorem compA_len (zs : List Lr) (v : Int) : (compA zs v).length ≤ 4194304 := by
  unfold compA
  split
  · rename_i h
    have := Gr.reach_len (okSet_eds h) (Gr.compN_asc (eds zs) v 10).nodup (fun x hx => Gr.compN_reach hx)
    omega
  · simp
/-- The nodes that the first k links give. -/
def nodesK (zs : List Lr) (k : Nat) : List Int := (eds (zs.take k)).foldl Gr.nodesOne []
theorem nodesK_succ {zs : List Lr} {k : Nat} {z : Lr} (h : zs[k]? = some z) : nodesK zs (k + 1) = Gr.nodesOne (nodesK zs k) (z.A, z.B) := by unfold nodesK; rw [eds_succ h, List.foldl_append]; rfl
theorem Gr.nodesOne_len (out : List Int) (e : Int × Int) : (Gr.nodesOne out e).length ≤ out.length + 2 := by
  unfold Gr.nodesOne
  split
  · have := Gr.len_putI (Gr.putI out e.1) e.2; have := Gr.len_putI out e.1; omega
  · have := Gr.len_putI out e.2; omega
theorem Gr.nodes_len (es : Gr.Eds) (out : List Int) : (es.foldl Gr.nodesOne out).length ≤ out.length + 2 * es.length := by
  induction es generalizing out with
  | nil => simp
  | cons e r ih => rw [List.foldl_cons]; have := ih (Gr.nodesOne out e); have := Gr.nodesOne_len out e; simp; omega
theorem nodesK_len {zs : List Lr} (k : Nat) : (nodesK zs k).length ≤ 2 * k := by
  have h := Gr.nodes_len (eds (zs.take k)) []
  have h2 : (eds (zs.take k)).length ≤ k := by rw [eds_len, List.length_take]; omega
  have h3 : ([] : List Int).length = 0 := rfl
  unfold nodesK; omega
set_option maxRecDepth 100000 in
set_option maxHeartbeats 4000000 in
theorem nodesOf_s (A : Option Addr) (n c : Nat) (zs : List Lr) (w : World) (hA : LArg w A n zs) (hn : n ≤ 1048576) :
    Calls Tryz.prog 43 #[.slice A n c] w (OwnR 3 (ints (nodesA zs)) w) := by
  have HA := Lib.hid hA
  have HL := Lib.hid hA.row.1
  clear hA
  obtain ⟨ok, hok⟩ : ∃ q, okSet zs = q := ⟨_, rfl⟩
  have HOK := Lib.hid hok
  clear hok
  obtain ⟨r, hr⟩ : ∃ q, nodesA zs = q := ⟨_, rfl⟩
  have HRr := Lib.hid hr
  rw [hr]
  clear hr
  have B_0 := Lib.hid ((Below.refl w.heap.size w).alloc (Nat.le_refl _) (.cells #[] 3))
  have O_0 := Lib.hid (OwnV.empty_new w 3)
  go_enter Tryz.func43, Tryz.ntmps43
  go_wp2_with fail
  refine (isLinkSet_s A n c zs _ (HA.out.below B_0.out) hn).mono ?_
  rintro e w1 ⟨rfl, hb⟩
  rw [HOK.out]
  have B_1 := Lib.hid (B_0.out.trans (hb.mono B_0.out.size))
  have O_1 := Lib.hid (O_0.out.below hb)
  clear O_0
  clear hb B_0
  cases ok with
  | false =>
    have HE := Lib.hid (show [] = r by rw [← HRr.out]; simp [nodesA, HOK.out])
    go_wp2
    go_ret
    exact ⟨_, rfl, by rw [← HE.out]; exact OwnV.nil _ _ _, B_1.out⟩
  | true =>
    have HE := Lib.hid (show Gr.nodesP (eds zs) = r by rw [← HRr.out]; simp [nodesA, HOK.out])
    go_wp2
    go_loopw [3, 12] (fun ov i wr => ∃ k : Nat, k ≤ n ∧ i = .int .i64 k ∧ OwnV wr w.heap.size 3 ov (ints (nodesK zs k)) ∧ Below w.heap.size w wr) (fun _ i _ => n - (intOf i).toNat)
    case atStart => exact ⟨0, Nat.zero_le _, rfl, by rw [show nodesK zs 0 = [] by simp [nodesK, eds]]; exact O_1.out, B_1.out⟩
    case round =>
      obtain ⟨k, hk, rfl, ho, hb⟩ := hrel
      have O_2 := Lib.hid ho
      have B_2 := Lib.hid hb
      have hkl := nodesK_len (zs := zs) k
      obtain ⟨X, hX⟩ : ∃ X, nodesK zs k = X := ⟨_, rfl⟩
      rw [hX] at O_2 hkl
      have HX := Lib.hid hX
      clear ho hb hX O_1 B_1
      by_cases hlt : k < n
      · obtain ⟨g, o, z, rfl, hg, hz, hr, hc⟩ := (HA.out.below B_2.out).at_ hlt
        obtain ⟨ZA, ZB, ZP, ZQ, ZR, a0, n0, d0, a1, n1, d1, a2, n2, d2, a3, n3, d3, a4, n4, d4, a5, n5, d5, rfl⟩ := LArg.shapes hr
        have HS := Lib.hid (show nodesK zs (k + 1) = Gr.nodesOne X (ZA, ZB) by rw [nodesK_succ hz, HX.out])
        have c0 : wr.cell? ⟨g, o + k * 11, none⟩ = some (.int .i64 ZA) := hc 0 _ rfl
        have c1 : wr.cell? ⟨g, o + k * 11 + 1, none⟩ = some (.int .i64 ZB) := hc 1 _ rfl
        have c2 : wr.cell? ⟨g, o + k * 11 + 2, none⟩ = some (.bool ZP.s) := hc 2 _ rfl
        have c3 : wr.cell? ⟨g, o + k * 11 + 3, none⟩ = some ((.slice a0 n0 d0)) := hc 3 _ rfl
        have c4 : wr.cell? ⟨g, o + k * 11 + 4, none⟩ = some ((.slice a1 n1 d1)) := hc 4 _ rfl
        have c5 : wr.cell? ⟨g, o + k * 11 + 5, none⟩ = some (.bool ZQ.s) := hc 5 _ rfl
        have c6 : wr.cell? ⟨g, o + k * 11 + 6, none⟩ = some ((.slice a2 n2 d2)) := hc 6 _ rfl
        have c7 : wr.cell? ⟨g, o + k * 11 + 7, none⟩ = some ((.slice a3 n3 d3)) := hc 7 _ rfl
        have c8 : wr.cell? ⟨g, o + k * 11 + 8, none⟩ = some (.bool ZR.s) := hc 8 _ rfl
        have c9 : wr.cell? ⟨g, o + k * 11 + 9, none⟩ = some ((.slice a4 n4 d4)) := hc 9 _ rfl
        have c10 : wr.cell? ⟨g, o + k * 11 + 10, none⟩ = some ((.slice a5 n5 d5)) := hc 10 _ rfl
        clear hz hr hc
        have B_3 := Lib.hid (B_2.out.alloc B_2.out.size (.cells #[.int .i64 ZA, .int .i64 ZB, .bool ZP.s, (.slice a0 n0 d0), (.slice a1 n1 d1), .bool ZQ.s, (.slice a2 n2 d2), (.slice a3 n3 d3), .bool ZR.s, (.slice a4 n4 d4), (.slice a5 n5 d5)] 76))
        have O_3 := Lib.hid (O_2.out.below ((Below.refl _ _).alloc (Nat.le_refl _) (.cells #[.int .i64 ZA, .int .i64 ZB, .bool ZP.s, (.slice a0 n0 d0), (.slice a1 n1 d1), .bool ZQ.s, (.slice a2 n2 d2), (.slice a3 n3 d3), .bool ZR.s, (.slice a4 n4 d4), (.slice a5 n5 d5)] 76)))
        clear B_2 O_2
        by_cases h1 : 0 < ZA
        · go_wp2_with fail
          refine (l07Put_f _ X ZA w.heap.size _ O_3.out (by omega) B_3.out.size).mono ?_
          rintro e w4 ⟨o1, rfl, ho, hb⟩
          have hl1 := Gr.len_putI X ZA
          have O_4 := Lib.hid ho
          have B_4 := Lib.hid (B_3.out.trans (hb.mono B_3.out.size))
          have K_4 := Lib.hid ((HeldL.new wr [.int .i64 ZA, .int .i64 ZB, .bool ZP.s, (.slice a0 n0 d0), (.slice a1 n1 d1), .bool ZQ.s, (.slice a2 n2 d2), (.slice a3 n3 d3), .bool ZR.s, (.slice a4 n4 d4), (.slice a5 n5 d5)] 76).after hb)
          have k0 := K_4.out.cell 0 _ rfl
          have k1 := K_4.out.cell 1 _ rfl
          clear ho hb O_3 B_3 c0 c1 c2 c3 c4 c5 c6 c7 c8 c9 c10
          go_wp2_with fail
          refine (l07Put_f _ (Gr.putI X ZA) ZB w.heap.size _ O_4.out (by omega) B_4.out.size).mono ?_
          rintro e w5 ⟨o2, rfl, ho, hb⟩
          have O_5 := Lib.hid (show OwnV w5 w.heap.size 3 o2 (ints (nodesK zs (k + 1))) by rw [HS.out]; simp only [Gr.nodesOne, if_pos h1]; exact ho)
          have B_5 := Lib.hid (B_4.out.trans (hb.mono B_4.out.size))
          clear ho hb O_4 B_4 k0 k1
          go_wp2
          exact ⟨⟨k + 1, by omega, by go_num, O_5.out, B_5.out⟩, by simp [intOf]; omega⟩
        · go_wp2_with fail
          refine (l07Put_f _ X ZB w.heap.size _ O_3.out (by omega) B_3.out.size).mono ?_
          rintro e w5 ⟨o2, rfl, ho, hb⟩
          have O_5 := Lib.hid (show OwnV w5 w.heap.size 3 o2 (ints (nodesK zs (k + 1))) by rw [HS.out]; simp only [Gr.nodesOne, if_neg (show ¬ 0 < ZA by omega)]; exact ho)
          have B_5 := Lib.hid (B_3.out.trans (hb.mono B_3.out.size))
          clear ho hb O_3 B_3 c0 c1 c2 c3 c4 c5 c6 c7 c8 c9 c10
          go_wp2
          exact ⟨⟨k + 1, by omega, by go_num, O_5.out, B_5.out⟩, by simp [intOf]; omega⟩
      · obtain rfl : k = n := by omega
        have HE2 := Lib.hid (show X = r by rw [← HX.out, ← HE.out]; unfold nodesK Gr.nodesP; rw [List.take_of_length_le (by rw [HL.out]; exact Nat.le_refl _)])
        go_wp2
        go_ret
        exact ⟨_, rfl, by rw [← HE2.out]; exact O_2.out, B_2.out⟩
theorem Gr.pass_take (es : Gr.Eds) (out xs : List Int) (k : Nat) (x : Int) (h : xs[k]? = some x) : Gr.passP es out (xs.take (k + 1)) = (Gr.nearP es x).foldl Gr.putI (Gr.passP es out (xs.take k)) := by
  obtain ⟨hk, e⟩ := List.getElem?_eq_some_iff.mp h
  rw [List.take_succ_eq_append_getElem hk, e]
  simp [Gr.passP]
theorem Gr.fold_take (ys out : List Int) (k : Nat) (y : Int) (h : ys[k]? = some y) : (ys.take (k + 1)).foldl Gr.putI out = Gr.putI ((ys.take k).foldl Gr.putI out) y := by
  obtain ⟨hk, e⟩ := List.getElem?_eq_some_iff.mp h
  rw [List.take_succ_eq_append_getElem hk, e]
  simp
theorem Gr.pass_reach {es : Gr.Eds} {v : Int} {out xs : List Int} (h : Gr.Asc out) (h1 : ∀ x ∈ out, Gr.Reach es v x) (h2 : ∀ x ∈ xs, Gr.Reach es v x) : ∀ y ∈ Gr.passP es out xs, Gr.Reach es v y := fun y hy => by
  rcases ((Gr.pass_fold es xs out h).2 y).mp hy with a | ⟨x, hx, ha⟩
  · exact h1 y a
  · exact .step (h2 x hx) ha
set_option maxRecDepth 100000 in
set_option maxHeartbeats 4000000 in
theorem l07Has_f (A : Option Addr) (n c : Nat) (zs : List Int) (x : Int) (w : World) (hA : VRow w A n (ints zs)) (hn : n ≤ 4194304) :
    Calls Tryz.prog 50 #[.slice A n c, .int .i64 x] w fun e w' => e = .returned (.bool (zs.contains x)) ∧ w' = w := by
  have HA := Lib.hid hA
  have HL := Lib.hid (show zs.length = n by have := hA.1; rw [ints_len] at this; exact this)
  obtain ⟨r, hr⟩ : ∃ q, zs.contains x = q := ⟨_, rfl⟩
  rw [hr]
  have HR := Lib.hid hr
  clear hA hr
  go_enter Tryz.func50, Tryz.ntmps50
  go_wp2
  go_loopw [9] (fun i wr => ∃ k : Nat, k ≤ n ∧ i = .int .i64 k ∧ (∀ (j : Nat) (y : Int), j < k → zs[j]? = some y → y ≠ x) ∧ wr = w) (fun i _ => n - (intOf i).toNat)
  case atStart => exact ⟨0, Nat.zero_le _, rfl, fun j y hj => by omega, rfl⟩
  case round =>
    obtain ⟨k, hk, rfl, hall, hw⟩ := hrel
    subst hw
    have HALL := Lib.hid hall
    clear hall
    by_cases hkn : k < n
    · obtain ⟨g, o, rfl, hg, hc⟩ := HA.out.at_ hkn
      rw [ints_get] at hc
      have hkl : k < zs.length := by have := HL.out; omega
      obtain ⟨y, hy⟩ : ∃ y, zs[k] = y := ⟨_, rfl⟩
      rw [hy] at hc
      have HY := Lib.hid hy
      have hk0 : (0 : Int) ≤ (k : Int) := by omega
      have hk1 : (k : Int) < (n : Int) := by omega
      clear hy
      by_cases hyx : y = x
      · subst hyx
        have HE := Lib.hid (show true = r by rw [← HR.out]; symm; simp only [List.contains_iff_mem]; rw [← HY.out]; exact List.getElem_mem hkl)
        go_wp2
        go_ret
        exact ⟨ret_bool HE.out, rfl⟩
      · have hd : (y == x) = false := by simpa using hyx
        have HA2 := Lib.hid (show ∀ (j : Nat) (t : Int), j < k + 1 → zs[j]? = some t → t ≠ x from fun j t hj ht => by
          by_cases e : j = k
          · subst e
            rw [List.getElem?_eq_getElem hkl, HY.out] at ht
            obtain rfl := Option.some.inj ht
            exact hyx
          · exact HALL.out j t (by omega) ht)
        go_wp2
        exact ⟨⟨k + 1, by omega, by go_num, HA2.out, by first | rfl | trivial⟩, by simp [intOf]; omega⟩
    · obtain rfl : k = n := by omega
      have HE := Lib.hid (show false = r by
        rw [← HR.out]; symm
        rw [← Bool.not_eq_true, List.contains_iff_mem]
        intro hm
        obtain ⟨j, hj⟩ := List.mem_iff_getElem?.mp hm
        exact HALL.out j x (by have := (List.getElem?_eq_some_iff.mp hj).1; have := HL.out; omega) hj rfl)
      go_wp2
      go_ret
      exact ⟨ret_bool HE.out, rfl⟩
end Go.Proofs.YtgmgdbnfmlmicaaGreat
