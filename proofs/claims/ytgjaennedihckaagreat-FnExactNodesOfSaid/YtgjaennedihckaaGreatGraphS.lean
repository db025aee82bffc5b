/- NodesOf, ComponentOf, IsGrounded of both sides. Conditions: none. -/
import Derived.Test.YtgjaennedihckaaGreatComp
import Derived.Test.YtgjaennedihckaaGreatIsSetS
namespace Go.Proofs.YtgjaennedihckaaGreat
open Go.RowKit Nt Fr
set_option linter.unusedVariables false

/-- The nodes of a link set. -/
def nodesA (zs : List Lr) : List Int := if okSet zs = true then Gr.nodesP (eds zs) else []
/-- What can be reached from v. -/
def compA (zs : List Lr) (v : Int) : List Int := if okSet zs = true then Gr.compN (eds zs) v 10 else []
/-- Is a link set grounded? -/
def groundA (zs : List Lr) : Bool := okSet zs && (nodesA zs).all fun x => (compA zs 0).contains x
section
variable {ys zs : List Lr} {n : Nat}
theorem nodesA_like (hy : ys.length = n) (hz : zs.length = n) (h : ∀ (i : Nat) (y z : Lr), ys[i]? = some y → zs[i]? = some z → y.like z) : nodesA ys = nodesA zs := by unfold nodesA; rw [okSet_like hy hz h, eds_like hy hz h]
theorem compA_like {v : Int} (hy : ys.length = n) (hz : zs.length = n) (h : ∀ (i : Nat) (y z : Lr), ys[i]? = some y → zs[i]? = some z → y.like z) : compA ys v = compA zs v := by unfold compA; rw [okSet_like hy hz h, eds_like hy hz h]
theorem groundA_like (hy : ys.length = n) (hz : zs.length = n) (h : ∀ (i : Nat) (y z : Lr), ys[i]? = some y → zs[i]? = some z → y.like z) : groundA ys = groundA zs := by unfold groundA; rw [nodesA_like hy hz h, compA_like hy hz h, okSet_like hy hz h]
end
theorem nodesA_len (zs : List Lr) : (nodesA zs).length ≤ 4194304 := by
  unfold nodesA
  split
  · rename_i h
    have hok := okSet_eds h
    have := Gr.nodup_le (m := Gr.ten) (Gr.nodesP_asc hok).nodup (fun x hx => by
      obtain ⟨_, e, he, hx'⟩ := (Gr.mem_nodesP hok).mp hx
      have := hok.1 e he
      exact Gr.mem_ten (by omega))
    simp [Gr.ten] at this; omega
  · simp
theorem compA_len (zs : List Lr) (v : Int) : (compA zs v).length ≤ 4194304 := by
  unfold compA
  split
  · rename_i h
    have := Gr.reach_len (okSet_eds h) (Gr.compN_asc (eds zs) v 10).nodup (fun x hx => Gr.compN_reach hx)
    omega
  · simp
/-- The nodes that the first k links give. -/
def nodesK (zs : List Lr) (k : Nat) : List Int := (eds (zs.take k)).foldl Gr.nodesOne []
theorem nodesK_succ {zs : List Lr} {k : Nat} {z : Lr} (h : zs[k]? = some z) : nodesK zs (k + 1) = Gr.nodesOne (nodesK zs k) (z.A, z.B) := by unfold nodesK; rw [eds_succ h, List.foldl_append]; rfl
theorem Gr.nodesOne_len (out : List Int) (e : Int × Int) : (Gr.nodesOne out e).length ≤ out.length + 2 := by
  unfold Gr.nodesOne
  split
  · have := Gr.len_putI (Gr.putI out e.1) e.2; have := Gr.len_putI out e.1; omega
  · have := Gr.len_putI out e.2; omega
theorem Gr.nodes_len (es : Gr.Eds) (out : List Int) : (es.foldl Gr.nodesOne out).length ≤ out.length + 2 * es.length := by
  induction es generalizing out with
  | nil => simp
  | cons e r ih => rw [List.foldl_cons]; have := ih (Gr.nodesOne out e); have := Gr.nodesOne_len out e; simp; omega
theorem nodesK_len {zs : List Lr} (k : Nat) : (nodesK zs k).length ≤ 2 * k := by
  have h := Gr.nodes_len (eds (zs.take k)) []
  have h2 : (eds (zs.take k)).length ≤ k := by rw [eds_len, List.length_take]; omega
  have h3 : ([] : List Int).length = 0 := rfl
  unfold nodesK; omega
set_option maxRecDepth 100000 in
set_option maxHeartbeats 4000000 in
theorem nodesOf_i (A : Option Addr) (n c : Nat) (zs : List Lr) (w : World) (hA : LArg w A n zs) (hn : n ≤ 1048576) :
    Calls Tryz.prog 24 #[.slice A n c] w (OwnR 3 (ints (nodesA zs)) w) := by
  have HA := Lib.hid hA
  have HL := Lib.hid hA.row.1
  clear hA
  obtain ⟨ok, hok⟩ : ∃ q, okSet zs = q := ⟨_, rfl⟩
  have HOK := Lib.hid hok
  clear hok
  obtain ⟨r, hr⟩ : ∃ q, nodesA zs = q := ⟨_, rfl⟩
  have HRr := Lib.hid hr
  rw [hr]
  clear hr
  have B_0 := Lib.hid (Below.refl w.heap.size w)
  go_enter Tryz.func24, Tryz.ntmps24
  go_wp2_with fail
  refine (isLinkSet_i A n c zs _ (HA.out.below B_0.out) hn (fun u h => isAscending_f A n c zs u h hn)).mono ?_
  rintro e w1 ⟨rfl, hb⟩
  rw [HOK.out]
  have B_1 := Lib.hid (B_0.out.trans (hb.mono B_0.out.size))
  clear hb B_0
  cases ok with
  | false =>
    have HE := Lib.hid (show [] = r by rw [← HRr.out]; simp [nodesA, HOK.out])
    go_wp2
    go_ret
    exact ⟨_, rfl, by rw [← HE.out]; exact OwnV.nil _ _ _, B_1.out⟩
  | true =>
    have HE := Lib.hid (show Gr.nodesP (eds zs) = r by rw [← HRr.out]; simp [nodesA, HOK.out])
    go_wp2_with fail
    refine (graphOf_f A n c zs _ (HA.out.below B_1.out) hn HOK.out).mono ?_
    rintro e w2 ⟨rfl, ⟨D, hG⟩, hb⟩
    have B_2 := Lib.hid (B_1.out.trans (hb.mono B_1.out.size))
    have HG := Lib.hid hG
    clear hb hG
    go_wp2_with fail
    refine (nodes_f _ _ _ (eds zs) _ D _ HG.out (okSet_eds HOK.out)).mono ?_
    rintro e w3 ⟨u, rfl, ho, hb⟩
    have O_3 := Lib.hid (show OwnV w3 w.heap.size 3 u (ints r) by rw [← HE.out]; exact ho.based B_2.out.size)
    have B_3 := Lib.hid (B_2.out.trans (hb.mono B_2.out.size))
    clear ho hb
    go_wp2
    go_ret
    exact ⟨_, rfl, O_3.out, B_3.out⟩
set_option maxRecDepth 100000 in
set_option maxHeartbeats 4000000 in
theorem componentOf_i (A : Option Addr) (n c : Nat) (zs : List Lr) (v : Int) (w : World) (hA : LArg w A n zs) (hn : n ≤ 1048576) (hv : (Lit.int .i64 v).wf = true) :
    Calls Tryz.prog 31 #[.slice A n c, .int .i64 v] w (OwnR 3 (ints (compA zs v)) w) := by
  have HV := Lib.hid hv
  clear hv
  have HA := Lib.hid hA
  have HL := Lib.hid hA.row.1
  clear hA
  obtain ⟨ok, hok⟩ : ∃ q, okSet zs = q := ⟨_, rfl⟩
  have HOK := Lib.hid hok
  clear hok
  obtain ⟨r, hr⟩ : ∃ q, compA zs v = q := ⟨_, rfl⟩
  have HRr := Lib.hid hr
  rw [hr]
  clear hr
  have B_0 := Lib.hid (Below.refl w.heap.size w)
  go_enter Tryz.func31, Tryz.ntmps31
  go_wp2_with fail
  refine (isLinkSet_i A n c zs _ (HA.out.below B_0.out) hn (fun u h => isAscending_f A n c zs u h hn)).mono ?_
  rintro e w1 ⟨rfl, hb⟩
  rw [HOK.out]
  have B_1 := Lib.hid (B_0.out.trans (hb.mono B_0.out.size))
  clear hb B_0
  cases ok with
  | false =>
    have HE := Lib.hid (show [] = r by rw [← HRr.out]; simp [compA, HOK.out])
    go_wp2
    go_ret
    exact ⟨_, rfl, by rw [← HE.out]; exact OwnV.nil _ _ _, B_1.out⟩
  | true =>
    have HE := Lib.hid (show Gr.compN (eds zs) v 10 = r by rw [← HRr.out]; simp [compA, HOK.out])
    go_wp2_with fail
    refine (graphOf_f A n c zs _ (HA.out.below B_1.out) hn HOK.out).mono ?_
    rintro e w2 ⟨rfl, ⟨D, hG⟩, hb⟩
    have B_2 := Lib.hid (B_1.out.trans (hb.mono B_1.out.size))
    have HG := Lib.hid hG
    clear hb hG
    go_wp2_with fail
    refine (componentOf_f _ _ _ (eds zs) _ D v _ HG.out (by omega) (okSet_eds HOK.out) HV.out).mono ?_
    rintro e w3 ⟨u, rfl, ho, hb⟩
    have O_3 := Lib.hid (show OwnV w3 w.heap.size 3 u (ints r) by rw [← HE.out]; exact ho.based B_2.out.size)
    have B_3 := Lib.hid (B_2.out.trans (hb.mono B_2.out.size))
    clear ho hb
    go_wp2
    go_ret
    exact ⟨_, rfl, O_3.out, B_3.out⟩
set_option maxRecDepth 100000 in
set_option maxHeartbeats 4000000 in
theorem isGrounded_i (A : Option Addr) (n c : Nat) (zs : List Lr) (w : World) (hA : LArg w A n zs) (hn : n ≤ 1048576) :
    Calls Tryz.prog 33 #[.slice A n c] w fun e w' => e = .returned (.bool (groundA zs)) ∧ Below w.heap.size w w' := by
  have HA := Lib.hid hA
  have HL := Lib.hid hA.row.1
  clear hA
  obtain ⟨ok, hok⟩ : ∃ q, okSet zs = q := ⟨_, rfl⟩
  have HOK := Lib.hid hok
  clear hok
  obtain ⟨r, hr⟩ : ∃ q, groundA zs = q := ⟨_, rfl⟩
  have HRr := Lib.hid hr
  rw [hr]
  clear hr
  have B_0 := Lib.hid (Below.refl w.heap.size w)
  go_enter Tryz.func33, Tryz.ntmps33
  go_wp2_with fail
  refine (isLinkSet_i A n c zs _ (HA.out.below B_0.out) hn (fun u h => isAscending_f A n c zs u h hn)).mono ?_
  rintro e w1 ⟨rfl, hb⟩
  rw [HOK.out]
  have B_1 := Lib.hid (B_0.out.trans (hb.mono B_0.out.size))
  clear hb B_0
  cases ok with
  | false =>
    have HE := Lib.hid (show false = r by rw [← HRr.out]; simp [groundA, HOK.out])
    go_wp2
    go_ret
    exact ⟨ret_bool HE.out, B_1.out⟩
  | true =>
    obtain ⟨cl, hcl⟩ : ∃ q, Gr.compN (eds zs) 0 10 = q := ⟨_, rfl⟩
    obtain ⟨nl, hnl⟩ : ∃ q, Gr.nodesP (eds zs) = q := ⟨_, rfl⟩
    have HE := Lib.hid (show (nl.all fun x => cl.contains x) = r by rw [← HRr.out, ← hcl, ← hnl]; simp [groundA, nodesA, compA, HOK.out])
    have hcn : cl.length ≤ 4194304 := by rw [← hcl]; have h := compA_len zs 0; simpa [compA, HOK.out] using h
    have hnn : nl.length ≤ 4194304 := by rw [← hnl]; have h := nodesA_len zs; simpa [nodesA, HOK.out] using h
    have HC := Lib.hid hcl
    have HN := Lib.hid hnl
    clear hcl hnl
    go_wp2_with fail
    refine (graphOf_f A n c zs _ (HA.out.below B_1.out) hn HOK.out).mono ?_
    rintro e w2 ⟨rfl, ⟨D, hG⟩, hb⟩
    have B_2 := Lib.hid (B_1.out.trans (hb.mono B_1.out.size))
    have HG := Lib.hid hG
    clear hb hG B_1
    go_wp2_with fail
    refine (componentOf_f _ _ _ (eds zs) _ D 0 _ HG.out (by omega) (okSet_eds HOK.out) (WalkArith.wf_i64 (by omega))).mono ?_
    rintro e w3 ⟨u, rfl, ho, hb⟩
    rw [HC.out] at ho
    obtain ⟨Ac, cc, rfl⟩ := ho.shape
    obtain ⟨nc, hnc⟩ : ∃ q, (ints cl).length = q := ⟨_, rfl⟩
    rw [hnc] at ho ⊢
    have hnc2 : nc ≤ 4194304 := by rw [ints_len] at hnc; omega
    have O_3 := Lib.hid ho
    have G_3 := Lib.hid (HG.out.below hb)
    have B_3 := Lib.hid (B_2.out.trans (hb.mono B_2.out.size))
    clear ho hb HG B_2 hnc
    go_wp2_with fail
    refine (nodes_f _ _ _ (eds zs) _ D _ G_3.out (okSet_eds HOK.out)).mono ?_
    rintro e w4 ⟨u, rfl, ho, hb⟩
    rw [HN.out] at ho
    obtain ⟨An, cn, rfl⟩ := ho.shape
    obtain ⟨nn, hnn1⟩ : ∃ q, (ints nl).length = q := ⟨_, rfl⟩
    rw [hnn1] at ho ⊢
    have hnn2 : nn ≤ 4194304 := by rw [ints_len] at hnn1; omega
    have HNL := Lib.hid (show nl.length = nn by rw [ints_len] at hnn1; exact hnn1)
    have O_4 := Lib.hid ho.row
    have O_5 := Lib.hid (O_3.out.below hb).row
    have B_4 := Lib.hid (B_3.out.trans (hb.mono B_3.out.size))
    clear ho hb B_3 O_3 G_3 hnn1
    go_wp2
    go_loopw [17] (fun i wr => ∃ k : Nat, k ≤ nn ∧ i = .int .i64 k ∧ (∀ (j : Nat) (x : Int), j < k → nl[j]? = some x → x ∈ cl) ∧ wr = w4) (fun i _ => nn - (intOf i).toNat)
    case atStart => exact ⟨0, Nat.zero_le _, rfl, fun j x hj => by omega, rfl⟩
    case round =>
      obtain ⟨k, hk, rfl, hall, hw⟩ := hrel
      subst hw
      have HALL := Lib.hid hall
      clear hall
      by_cases hkn : k < nn
      · obtain ⟨g, o, rfl, hg, hc⟩ := O_4.out.at_ hkn
        rw [ints_get] at hc
        have hkl : k < nl.length := by have := HNL.out; omega
        obtain ⟨x, hx⟩ : ∃ x, nl[k] = x := ⟨_, rfl⟩
        rw [hx] at hc
        have HX := Lib.hid hx
        have hk0 : (0 : Int) ≤ (k : Int) := by omega
        have hk1 : (k : Int) < (nn : Int) := by omega
        clear hx
        go_wp2_with fail
        refine (containsInts_f Ac nc cc cl x _ O_5.out (by omega)).mono ?_
        rintro e w' ⟨rfl, hw⟩
        obtain rfl := hw.symm
        by_cases hcy : x ∈ cl
        · have he : cl.contains x = true := by simpa using hcy
          rw [he]
          have HA2 := Lib.hid (show ∀ (j : Nat) (y : Int), j < k + 1 → nl[j]? = some y → y ∈ cl from fun j y hj hy => by
            by_cases e : j = k
            · subst e
              rw [List.getElem?_eq_getElem hkl, HX.out] at hy
              obtain rfl := Option.some.inj hy
              exact hcy
            · exact HALL.out j y (by omega) hy)
          clear he hcy
          go_wp2
          exact ⟨⟨k + 1, by omega, by go_num, HA2.out, by first | rfl | trivial⟩, by simp [intOf]; omega⟩
        · have he : cl.contains x = false := by simpa using hcy
          rw [he]
          have HF := Lib.hid (show false = r by
            rw [← HE.out]
            symm
            rw [List.all_eq_false]
            exact ⟨x, by rw [← HX.out]; exact List.getElem_mem hkl, by simpa using hcy⟩)
          clear he hcy
          go_wp2
          go_ret
          exact ⟨ret_bool HF.out, B_4.out⟩
      · obtain rfl : k = nn := by omega
        have HF := Lib.hid (show true = r by
          rw [← HE.out]
          symm
          rw [List.all_eq_true]
          intro x hx
          obtain ⟨j, hj⟩ := List.mem_iff_getElem?.mp hx
          have := HALL.out j x (by have := (List.getElem?_eq_some_iff.mp hj).1; have := HNL.out; omega) hj
          simpa using this)
        go_wp2
        go_ret
        exact ⟨ret_bool HF.out, B_4.out⟩
set_option maxRecDepth 100000 in
set_option maxHeartbeats 4000000 in
theorem nodesOf_s (A : Option Addr) (n c : Nat) (zs : List Lr) (w : World) (hA : LArg w A n zs) (hn : n ≤ 1048576) :
    Calls Tryz.prog 22 #[.slice A n c] w (OwnR 3 (ints (nodesA zs)) w) := by
  have HA := Lib.hid hA
  have HL := Lib.hid hA.row.1
  clear hA
  obtain ⟨ok, hok⟩ : ∃ q, okSet zs = q := ⟨_, rfl⟩
  have HOK := Lib.hid hok
  clear hok
  obtain ⟨r, hr⟩ : ∃ q, nodesA zs = q := ⟨_, rfl⟩
  have HRr := Lib.hid hr
  rw [hr]
  clear hr
  have B_0 := Lib.hid ((Below.refl w.heap.size w).alloc (Nat.le_refl _) (.cells #[] 3))
  have O_0 := Lib.hid (OwnV.empty_new w 3)
  go_enter Tryz.func22, Tryz.ntmps22
  go_wp2_with fail
  refine (isLinkSet_s A n c zs _ (HA.out.below B_0.out) hn).mono ?_
  rintro e w1 ⟨rfl, hb⟩
  rw [HOK.out]
  have B_1 := Lib.hid (B_0.out.trans (hb.mono B_0.out.size))
  have O_1 := Lib.hid (O_0.out.below hb)
  clear O_0
  clear hb B_0
  cases ok with
  | false =>
    have HE := Lib.hid (show [] = r by rw [← HRr.out]; simp [nodesA, HOK.out])
    go_wp2
    go_ret
    exact ⟨_, rfl, by rw [← HE.out]; exact OwnV.nil _ _ _, B_1.out⟩
  | true =>
    have HE := Lib.hid (show Gr.nodesP (eds zs) = r by rw [← HRr.out]; simp [nodesA, HOK.out])
    go_wp2
    go_loopw [3, 12] (fun ov i wr => ∃ k : Nat, k ≤ n ∧ i = .int .i64 k ∧ OwnV wr w.heap.size 3 ov (ints (nodesK zs k)) ∧ Below w.heap.size w wr) (fun _ i _ => n - (intOf i).toNat)
    case atStart => exact ⟨0, Nat.zero_le _, rfl, by rw [show nodesK zs 0 = [] by simp [nodesK, eds]]; exact O_1.out, B_1.out⟩
    case round =>
      obtain ⟨k, hk, rfl, ho, hb⟩ := hrel
      have O_2 := Lib.hid ho
      have B_2 := Lib.hid hb
      have hkl := nodesK_len (zs := zs) k
      obtain ⟨X, hX⟩ : ∃ X, nodesK zs k = X := ⟨_, rfl⟩
      rw [hX] at O_2 hkl
      have HX := Lib.hid hX
      clear ho hb hX O_1 B_1
      by_cases hlt : k < n
      · obtain ⟨g, o, z, rfl, hg, hz, hr, hc⟩ := (HA.out.below B_2.out).at_ hlt
        obtain ⟨ZA, ZB, ZP, ZQ, ZR, a0, n0, d0, a1, n1, d1, a2, n2, d2, a3, n3, d3, a4, n4, d4, a5, n5, d5, rfl⟩ := LArg.shapes hr
        have HS := Lib.hid (show nodesK zs (k + 1) = Gr.nodesOne X (ZA, ZB) by rw [nodesK_succ hz, HX.out])
        have c0 : wr.cell? ⟨g, o + k * 11, none⟩ = some (.int .i64 ZA) := hc 0 _ rfl
        have c1 : wr.cell? ⟨g, o + k * 11 + 1, none⟩ = some (.int .i64 ZB) := hc 1 _ rfl
        have c2 : wr.cell? ⟨g, o + k * 11 + 2, none⟩ = some (.bool ZP.s) := hc 2 _ rfl
        have c3 : wr.cell? ⟨g, o + k * 11 + 3, none⟩ = some ((.slice a0 n0 d0)) := hc 3 _ rfl
        have c4 : wr.cell? ⟨g, o + k * 11 + 4, none⟩ = some ((.slice a1 n1 d1)) := hc 4 _ rfl
        have c5 : wr.cell? ⟨g, o + k * 11 + 5, none⟩ = some (.bool ZQ.s) := hc 5 _ rfl
        have c6 : wr.cell? ⟨g, o + k * 11 + 6, none⟩ = some ((.slice a2 n2 d2)) := hc 6 _ rfl
        have c7 : wr.cell? ⟨g, o + k * 11 + 7, none⟩ = some ((.slice a3 n3 d3)) := hc 7 _ rfl
        have c8 : wr.cell? ⟨g, o + k * 11 + 8, none⟩ = some (.bool ZR.s) := hc 8 _ rfl
        have c9 : wr.cell? ⟨g, o + k * 11 + 9, none⟩ = some ((.slice a4 n4 d4)) := hc 9 _ rfl
        have c10 : wr.cell? ⟨g, o + k * 11 + 10, none⟩ = some ((.slice a5 n5 d5)) := hc 10 _ rfl
        clear hz hr hc
        have B_3 := Lib.hid (B_2.out.alloc B_2.out.size (.cells #[.int .i64 ZA, .int .i64 ZB, .bool ZP.s, (.slice a0 n0 d0), (.slice a1 n1 d1), .bool ZQ.s, (.slice a2 n2 d2), (.slice a3 n3 d3), .bool ZR.s, (.slice a4 n4 d4), (.slice a5 n5 d5)] 38))
        have O_3 := Lib.hid (O_2.out.below ((Below.refl _ _).alloc (Nat.le_refl _) (.cells #[.int .i64 ZA, .int .i64 ZB, .bool ZP.s, (.slice a0 n0 d0), (.slice a1 n1 d1), .bool ZQ.s, (.slice a2 n2 d2), (.slice a3 n3 d3), .bool ZR.s, (.slice a4 n4 d4), (.slice a5 n5 d5)] 38)))
        clear B_2 O_2
        by_cases h1 : 0 < ZA
        · go_wp2_with fail
          refine (l07Put_f _ X ZA w.heap.size _ O_3.out (by omega) B_3.out.size).mono ?_
          rintro e w4 ⟨o1, rfl, ho, hb⟩
          have hl1 := Gr.len_putI X ZA
          have O_4 := Lib.hid ho
          have B_4 := Lib.hid (B_3.out.trans (hb.mono B_3.out.size))
          have K_4 := Lib.hid ((HeldL.new wr [.int .i64 ZA, .int .i64 ZB, .bool ZP.s, (.slice a0 n0 d0), (.slice a1 n1 d1), .bool ZQ.s, (.slice a2 n2 d2), (.slice a3 n3 d3), .bool ZR.s, (.slice a4 n4 d4), (.slice a5 n5 d5)] 38).after hb)
          have k0 := K_4.out.cell 0 _ rfl
          have k1 := K_4.out.cell 1 _ rfl
          clear ho hb O_3 B_3 c0 c1 c2 c3 c4 c5 c6 c7 c8 c9 c10
          go_wp2_with fail
          refine (l07Put_f _ (Gr.putI X ZA) ZB w.heap.size _ O_4.out (by omega) B_4.out.size).mono ?_
          rintro e w5 ⟨o2, rfl, ho, hb⟩
          have O_5 := Lib.hid (show OwnV w5 w.heap.size 3 o2 (ints (nodesK zs (k + 1))) by rw [HS.out]; simp only [Gr.nodesOne, if_pos h1]; exact ho)
          have B_5 := Lib.hid (B_4.out.trans (hb.mono B_4.out.size))
          clear ho hb O_4 B_4 k0 k1
          go_wp2
          exact ⟨⟨k + 1, by omega, by go_num, O_5.out, B_5.out⟩, by simp [intOf]; omega⟩
        · go_wp2_with fail
          refine (l07Put_f _ X ZB w.heap.size _ O_3.out (by omega) B_3.out.size).mono ?_
          rintro e w5 ⟨o2, rfl, ho, hb⟩
          have O_5 := Lib.hid (show OwnV w5 w.heap.size 3 o2 (ints (nodesK zs (k + 1))) by rw [HS.out]; simp only [Gr.nodesOne, if_neg (show ¬ 0 < ZA by omega)]; exact ho)
          have B_5 := Lib.hid (B_3.out.trans (hb.mono B_3.out.size))
          clear ho hb O_3 B_3 c0 c1 c2 c3 c4 c5 c6 c7 c8 c9 c10
          go_wp2
          exact ⟨⟨k + 1, by omega, by go_num, O_5.out, B_5.out⟩, by simp [intOf]; omega⟩
      · obtain rfl : k = n := by omega
        have HE2 := Lib.hid (show X = r by rw [← HX.out, ← HE.out]; unfold nodesK Gr.nodesP; rw [List.take_of_length_le (by rw [HL.out]; exact Nat.le_refl _)])
        go_wp2
        go_ret
        exact ⟨_, rfl, by rw [← HE2.out]; exact O_2.out, B_2.out⟩
theorem Gr.pass_take (es : Gr.Eds) (out xs : List Int) (k : Nat) (x : Int) (h : xs[k]? = some x) : Gr.passP es out (xs.take (k + 1)) = (Gr.nearP es x).foldl Gr.putI (Gr.passP es out (xs.take k)) := by
  obtain ⟨hk, e⟩ := List.getElem?_eq_some_iff.mp h
  rw [List.take_succ_eq_append_getElem hk, e]
  simp [Gr.passP]
theorem Gr.fold_take (ys out : List Int) (k : Nat) (y : Int) (h : ys[k]? = some y) : (ys.take (k + 1)).foldl Gr.putI out = Gr.putI ((ys.take k).foldl Gr.putI out) y := by
  obtain ⟨hk, e⟩ := List.getElem?_eq_some_iff.mp h
  rw [List.take_succ_eq_append_getElem hk, e]
  simp
theorem Gr.pass_reach {es : Gr.Eds} {v : Int} {out xs : List Int} (h : Gr.Asc out) (h1 : ∀ x ∈ out, Gr.Reach es v x) (h2 : ∀ x ∈ xs, Gr.Reach es v x) : ∀ y ∈ Gr.passP es out xs, Gr.Reach es v y := fun y hy => by
  rcases ((Gr.pass_fold es xs out h).2 y).mp hy with a | ⟨x, hx, ha⟩
  · exact h1 y a
  · exact .step (h2 x hx) ha
set_option maxRecDepth 100000 in
set_option maxHeartbeats 4000000 in
theorem componentOf_s (A : Option Addr) (n c : Nat) (zs : List Lr) (v : Int) (w : World) (hA : LArg w A n zs) (hn : n ≤ 1048576) :
    Calls Tryz.prog 30 #[.slice A n c, .int .i64 v] w (OwnR 3 (ints (compA zs v)) w) := by
  have HA := Lib.hid hA
  have HL := Lib.hid hA.row.1
  clear hA
  obtain ⟨ok, hok⟩ : ∃ q, okSet zs = q := ⟨_, rfl⟩
  have HOK := Lib.hid hok
  clear hok
  obtain ⟨r, hr⟩ : ∃ q, compA zs v = q := ⟨_, rfl⟩
  have HRr := Lib.hid hr
  rw [hr]
  clear hr
  have B_0 := Lib.hid (Below.refl w.heap.size w)
  go_enter Tryz.func30, Tryz.ntmps30
  go_wp2_with fail
  refine (isLinkSet_s A n c zs _ (HA.out.below B_0.out) hn).mono ?_
  rintro e w1 ⟨rfl, hb⟩
  rw [HOK.out]
  have B_1 := Lib.hid (B_0.out.trans (hb.mono B_0.out.size))
  clear hb B_0
  cases ok with
  | false =>
    have HE := Lib.hid (show [] = r by rw [← HRr.out]; simp [compA, HOK.out])
    go_wp2
    go_ret
    exact ⟨_, rfl, by rw [← HE.out]; exact OwnV.nil _ _ _, B_1.out⟩
  | true =>
    have HE := Lib.hid (show Gr.compN (eds zs) v 10 = r by rw [← HRr.out]; simp [compA, HOK.out])
    have HO := Lib.hid (okSet_eds HOK.out)
    have R_1 := Lib.hid (show OwnV (w1.alloc (.cells #[.int .i64 v] 3)) w.heap.size 3 (.slice (some ⟨w1.heap.size, 0, none⟩) 1 1) (ints [v]) from OwnV.of_own (n := 1) (World.ownsRow_lit w1 #[.int .i64 v] 1 B_1.out.size (by unfold maxLen; omega) rfl))
    have B_2 := Lib.hid (B_1.out.alloc B_1.out.size (.cells #[.int .i64 v] 3))
    clear B_1
    go_wp2
    go_loopw [5, 6] (fun ov iv wr => ∃ q : Nat, q ≤ 10 ∧ iv = .int .i64 q ∧ OwnV wr w.heap.size 3 ov (ints (Gr.compN (eds zs) v q)) ∧ Below w.heap.size w wr) (fun _ iv _ => 10 - (intOf iv).toNat)
    case atStart => exact ⟨0, Nat.zero_le _, rfl, R_1.out, B_2.out⟩
    case round =>
      obtain ⟨q, hq, rfl, ho, hb⟩ := hrel
      obtain ⟨X, hX⟩ : ∃ X, Gr.compN (eds zs) v q = X := ⟨_, rfl⟩
      rw [hX] at ho
      have hXl : X.length ≤ 11 := by rw [← hX]; exact Gr.reach_len HO.out (Gr.compN_asc _ _ _).nodup (fun x hx => Gr.compN_reach hx)
      have HXR := Lib.hid (show ∀ x ∈ X, Gr.Reach (eds zs) v x by rw [← hX]; exact fun x hx => Gr.compN_reach hx)
      have HXA := Lib.hid (show Gr.Asc X by rw [← hX]; exact Gr.compN_asc _ _ _)
      have HX := Lib.hid hX
      obtain ⟨Ax, cx, rfl⟩ := ho.shape
      obtain ⟨nx, hnx⟩ : ∃ n, (ints X).length = n := ⟨_, rfl⟩
      rw [hnx] at ho ⊢
      have HNX := Lib.hid (show X.length = nx by rw [ints_len] at hnx; exact hnx)
      have hnx2 : nx ≤ 11 := by rw [ints_len] at hnx; omega
      have O_3 := Lib.hid ho
      have B_3 := Lib.hid hb
      clear ho hb hX hnx B_2 R_1
      by_cases hq10 : q < 10
      · have hq1 : (q : Int) < 10 := by omega
        go_wp2
        go_loopw [5, 22] (fun ov iv ws => ∃ k : Nat, k ≤ nx ∧ iv = .int .i64 k ∧ OwnV ws w.heap.size 3 ov (ints (Gr.passP (eds zs) X (X.take k))) ∧ OwnV ws w.heap.size 3 (.slice Ax nx cx) (ints X) ∧ Below w.heap.size w ws) (fun _ iv _ => nx - (intOf iv).toNat)
        case atStart => exact ⟨0, Nat.zero_le _, rfl, O_3.out, O_3.out, B_3.out⟩
        case round =>
          obtain ⟨k, hk, rfl, ho, hox, hb⟩ := hrel
          obtain ⟨Y, hY⟩ : ∃ Y, Gr.passP (eds zs) X (X.take k) = Y := ⟨_, rfl⟩
          rw [hY] at ho
          have HYR := Lib.hid (show ∀ x ∈ Y, Gr.Reach (eds zs) v x by rw [← hY]; exact Gr.pass_reach HXA.out HXR.out (fun x hx => HXR.out x (List.mem_of_mem_take hx)))
          have HYA := Lib.hid (show Gr.Asc Y by rw [← hY]; exact (Gr.pass_fold _ _ _ HXA.out).1)
          have HY := Lib.hid hY
          have O_4 := Lib.hid ho
          have X_4 := Lib.hid hox
          have B_4 := Lib.hid hb
          clear ho hox hb hY O_3 B_3
          by_cases hkn : k < nx
          · obtain ⟨g, o, rfl, hg, hc⟩ := X_4.out.row.at_ hkn
            rw [ints_get] at hc
            have hkl : k < X.length := by have := HNX.out; omega
            obtain ⟨x, hx⟩ : ∃ x, X[k] = x := ⟨_, rfl⟩
            rw [hx] at hc
            have HXK := Lib.hid (show X[k]? = some x by rw [List.getElem?_eq_getElem hkl, hx])
            have HXX := Lib.hid (HXR.out x (by rw [← hx]; exact List.getElem_mem hkl))
            have hk0 : (0 : Int) ≤ (k : Int) := by omega
            have hk1 : (k : Int) < (nx : Int) := by omega
            clear hx
            go_wp2_with fail
            refine (l07Near_f A n c zs x _ (HA.out.below B_4.out) hn).mono ?_
            rintro e w5 ⟨u, rfl, ho, hb⟩
            obtain ⟨N, hN⟩ : ∃ N, Gr.nearP (eds zs) x = N := ⟨_, rfl⟩
            rw [hN] at ho
            obtain ⟨An, cn, rfl⟩ := ho.shape
            obtain ⟨nn, hnn⟩ : ∃ n, (ints N).length = n := ⟨_, rfl⟩
            rw [hnn] at ho ⊢
            have HNN := Lib.hid (show N.length = nn by rw [ints_len] at hnn; exact hnn)
            have hnn2 : nn ≤ 4194304 := by
              have h := nearK_len (zs := zs) x n
              rw [nearK_all HL.out, hN] at h
              rw [ints_len] at hnn; omega
            have HNR := Lib.hid (show ∀ y ∈ N, Gr.Reach (eds zs) v y from fun y hy => .step HXX.out (Gr.mem_near.mp (by rw [hN]; exact hy)))
            have HN := Lib.hid hN
            have N_5 := Lib.hid ho
            have O_5 := Lib.hid (O_4.out.below hb)
            have X_5 := Lib.hid (X_4.out.below hb)
            have B_5 := Lib.hid (B_4.out.trans (hb.mono B_4.out.size))
            clear ho hb hN hnn O_4 X_4 B_4 hc
            go_wp2
            go_loopw [5, 30] (fun ov iv ws => ∃ j : Nat, j ≤ nn ∧ iv = .int .i64 j ∧ OwnV ws w.heap.size 3 ov (ints ((N.take j).foldl Gr.putI Y)) ∧ Below w5.heap.size w5 ws) (fun _ iv _ => nn - (intOf iv).toNat)
            case atStart => exact ⟨0, Nat.zero_le _, rfl, O_5.out, Below.refl _ _⟩
            case round =>
              obtain ⟨j, hj, rfl, ho, hb⟩ := hrel
              obtain ⟨T, hT⟩ : ∃ T, (N.take j).foldl Gr.putI Y = T := ⟨_, rfl⟩
              rw [hT] at ho
              have hTl : T.length ≤ 11 := by
                rw [← hT]
                refine Gr.reach_len (v := v) HO.out (Gr.fold_put (N.take j) Y HYA.out).1.nodup (fun y hy => ?_)
                rcases ((Gr.fold_put (N.take j) Y HYA.out).2 y).mp hy with a | a
                · exact HYR.out y a
                · exact HNR.out y (List.mem_of_mem_take a)
              have HT := Lib.hid hT
              have O_6 := Lib.hid ho
              have D_6 := Lib.hid hb
              have B_6 := Lib.hid (B_5.out.trans (hb.mono B_5.out.size))
              clear ho hb hT O_5
              by_cases hjn : j < nn
              · obtain ⟨g2, o2, rfl, hg2, hc2⟩ := (N_5.out.row.below D_6.out (Nat.le_refl _)).at_ hjn
                rw [ints_get] at hc2
                have hjl : j < N.length := by have := HNN.out; omega
                obtain ⟨y, hy⟩ : ∃ y, N[j] = y := ⟨_, rfl⟩
                rw [hy] at hc2
                have HYJ := Lib.hid (show N[j]? = some y by rw [List.getElem?_eq_getElem hjl, hy])
                have hj0 : (0 : Int) ≤ (j : Int) := by omega
                have hj1 : (j : Int) < (nn : Int) := by omega
                clear hy
                go_wp2_with fail
                refine (l07Put_f _ T y w.heap.size _ O_6.out (by omega) B_6.out.size).mono ?_
                rintro e w7 ⟨o3, rfl, ho, hb⟩
                have O_7 := Lib.hid (show OwnV w7 w.heap.size 3 o3 (ints ((N.take (j + 1)).foldl Gr.putI Y)) by rw [Gr.fold_take N Y j y HYJ.out, HT.out]; exact ho)
                have D_7 := Lib.hid (D_6.out.trans (hb.mono D_6.out.size))
                clear ho hb O_6 D_6 B_6
                go_wp2
                exact ⟨⟨j + 1, by omega, by go_num, O_7.out, D_7.out⟩, by simp [intOf]; omega⟩
              · obtain rfl : j = nn := by omega
                have O_7 := Lib.hid (show OwnV wr w.heap.size 3 _ (ints (Gr.passP (eds zs) X (X.take (k + 1)))) by
                  rw [Gr.pass_take (eds zs) X X k x HXK.out, HY.out, HN.out]
                  have h := O_6.out
                  rw [← HT.out, List.take_of_length_le (by rw [HNN.out]; exact Nat.le_refl _)] at h
                  exact h)
                have X_7 := Lib.hid (X_5.out.below D_6.out)
                clear O_6
                go_wp2
                exact ⟨⟨k + 1, by omega, by go_num, O_7.out, X_7.out, B_6.out⟩, by simp [intOf]; omega⟩
          · obtain rfl : k = nx := by omega
            have O_7 := Lib.hid (show OwnV wr w.heap.size 3 _ (ints (Gr.compN (eds zs) v (q + 1))) by
              have h := O_4.out
              rw [← HY.out, List.take_of_length_le (by rw [HNX.out]; exact Nat.le_refl _), ← HX.out] at h
              exact h)
            clear O_4
            go_wp2
            exact ⟨⟨q + 1, by omega, by go_num, O_7.out, B_4.out⟩, by simp [intOf]; omega⟩
      · obtain rfl : q = 10 := by omega
        have HE2 := Lib.hid (show X = r by rw [← HX.out, ← HE.out])
        go_wp2
        go_ret
        exact ⟨_, rfl, by rw [← HE2.out]; exact O_3.out, B_3.out⟩
set_option maxRecDepth 100000 in
set_option maxHeartbeats 4000000 in
theorem l07Has_f (A : Option Addr) (n c : Nat) (zs : List Int) (x : Int) (w : World) (hA : VRow w A n (ints zs)) (hn : n ≤ 4194304) :
    Calls Tryz.prog 58 #[.slice A n c, .int .i64 x] w fun e w' => e = .returned (.bool (zs.contains x)) ∧ w' = w := by
  have HA := Lib.hid hA
  have HL := Lib.hid (show zs.length = n by have := hA.1; rw [ints_len] at this; exact this)
  obtain ⟨r, hr⟩ : ∃ q, zs.contains x = q := ⟨_, rfl⟩
  rw [hr]
  have HR := Lib.hid hr
  clear hA hr
  go_enter Tryz.func58, Tryz.ntmps58
  go_wp2
  go_loopw [9] (fun i wr => ∃ k : Nat, k ≤ n ∧ i = .int .i64 k ∧ (∀ (j : Nat) (y : Int), j < k → zs[j]? = some y → y ≠ x) ∧ wr = w) (fun i _ => n - (intOf i).toNat)
  case atStart => exact ⟨0, Nat.zero_le _, rfl, fun j y hj => by omega, rfl⟩
  case round =>
    obtain ⟨k, hk, rfl, hall, hw⟩ := hrel
    subst hw
    have HALL := Lib.hid hall
    clear hall
    by_cases hkn : k < n
    · obtain ⟨g, o, rfl, hg, hc⟩ := HA.out.at_ hkn
      rw [ints_get] at hc
      have hkl : k < zs.length := by have := HL.out; omega
      obtain ⟨y, hy⟩ : ∃ y, zs[k] = y := ⟨_, rfl⟩
      rw [hy] at hc
      have HY := Lib.hid hy
      have hk0 : (0 : Int) ≤ (k : Int) := by omega
      have hk1 : (k : Int) < (n : Int) := by omega
      clear hy
      by_cases hyx : y = x
      · subst hyx
        have HE := Lib.hid (show true = r by rw [← HR.out]; symm; simp only [List.contains_iff_mem]; rw [← HY.out]; exact List.getElem_mem hkl)
        go_wp2
        go_ret
        exact ⟨ret_bool HE.out, rfl⟩
      · have hd : (y == x) = false := by simpa using hyx
        have HA2 := Lib.hid (show ∀ (j : Nat) (t : Int), j < k + 1 → zs[j]? = some t → t ≠ x from fun j t hj ht => by
          by_cases e : j = k
          · subst e
            rw [List.getElem?_eq_getElem hkl, HY.out] at ht
            obtain rfl := Option.some.inj ht
            exact hyx
          · exact HALL.out j t (by omega) ht)
        go_wp2
        exact ⟨⟨k + 1, by omega, by go_num, HA2.out, by first | rfl | trivial⟩, by simp [intOf]; omega⟩
    · obtain rfl : k = n := by omega
      have HE := Lib.hid (show false = r by
        rw [← HR.out]; symm
        rw [← Bool.not_eq_true, List.contains_iff_mem]
        intro hm
        obtain ⟨j, hj⟩ := List.mem_iff_getElem?.mp hm
        exact HALL.out j x (by have := (List.getElem?_eq_some_iff.mp hj).1; have := HL.out; omega) hj rfl)
      go_wp2
      go_ret
      exact ⟨ret_bool HE.out, rfl⟩
set_option maxRecDepth 100000 in
set_option maxHeartbeats 4000000 in
theorem isGrounded_s (A : Option Addr) (n c : Nat) (zs : List Lr) (w : World) (hA : LArg w A n zs) (hn : n ≤ 1048576) :
    Calls Tryz.prog 32 #[.slice A n c] w fun e w' => e = .returned (.bool (groundA zs)) ∧ Below w.heap.size w w' := by
  have HA := Lib.hid hA
  clear hA
  obtain ⟨cl, hcl⟩ : ∃ q, compA zs 0 = q := ⟨_, rfl⟩
  obtain ⟨nl, hnl⟩ : ∃ q, nodesA zs = q := ⟨_, rfl⟩
  obtain ⟨ok, hok⟩ : ∃ q, okSet zs = q := ⟨_, rfl⟩
  obtain ⟨r, hr⟩ : ∃ q, groundA zs = q := ⟨_, rfl⟩
  rw [hr]
  have HE := Lib.hid (show (ok && nl.all fun x => cl.contains x) = r by rw [← hr, ← hcl, ← hnl, ← hok]; rfl)
  have HZ := Lib.hid (show ok = false → nl = [] by intro h; rw [← hnl]; simp [nodesA, hok, h])
  have hcn : cl.length ≤ 4194304 := by rw [← hcl]; exact compA_len zs 0
  have hnn : nl.length ≤ 4194304 := by rw [← hnl]; exact nodesA_len zs
  have HC := Lib.hid hcl
  have HN := Lib.hid hnl
  have HOK := Lib.hid hok
  clear hcl hnl hok hr
  go_enter Tryz.func32, Tryz.ntmps32
  go_wp2_with fail
  refine (componentOf_s A n c zs 0 _ HA.out hn).mono ?_
  rintro e w3 ⟨u, rfl, ho, hb⟩
  rw [HC.out] at ho
  obtain ⟨Ac, cc, rfl⟩ := ho.shape
  obtain ⟨nc, hnc⟩ : ∃ q, (ints cl).length = q := ⟨_, rfl⟩
  rw [hnc] at ho ⊢
  have hnc2 : nc ≤ 4194304 := by rw [ints_len] at hnc; omega
  have O_3 := Lib.hid ho
  have B_3 := Lib.hid hb
  clear ho hb hnc
  go_wp2_with fail
  refine (nodesOf_s A n c zs _ (HA.out.below B_3.out) hn).mono ?_
  rintro e w4 ⟨u, rfl, ho, hb⟩
  rw [HN.out] at ho
  obtain ⟨An, cn, rfl⟩ := ho.shape
  obtain ⟨nn, hnn1⟩ : ∃ q, (ints nl).length = q := ⟨_, rfl⟩
  rw [hnn1] at ho ⊢
  have hnn2 : nn ≤ 4194304 := by rw [ints_len] at hnn1; omega
  have HNL := Lib.hid (show nl.length = nn by rw [ints_len] at hnn1; exact hnn1)
  have O_4 := Lib.hid ho.row
  have O_5 := Lib.hid (O_3.out.below hb).row
  have B_4 := Lib.hid (B_3.out.trans (hb.mono B_3.out.size))
  clear ho hb B_3 O_3 hnn1
  go_wp2
  go_loopw [11] (fun i wr => ∃ k : Nat, k ≤ nn ∧ i = .int .i64 k ∧ (∀ (j : Nat) (x : Int), j < k → nl[j]? = some x → x ∈ cl) ∧ wr = w4) (fun i _ => nn - (intOf i).toNat)
  case atStart => exact ⟨0, Nat.zero_le _, rfl, fun j x hj => by omega, rfl⟩
  case round =>
    obtain ⟨k, hk, rfl, hall, hw⟩ := hrel
    subst hw
    have HALL := Lib.hid hall
    clear hall
    by_cases hkn : k < nn
    · obtain ⟨g, o, rfl, hg, hc⟩ := O_4.out.at_ hkn
      rw [ints_get] at hc
      have hkl : k < nl.length := by have := HNL.out; omega
      obtain ⟨x, hx⟩ : ∃ x, nl[k] = x := ⟨_, rfl⟩
      rw [hx] at hc
      have HX := Lib.hid hx
      have hk0 : (0 : Int) ≤ (k : Int) := by omega
      have hk1 : (k : Int) < (nn : Int) := by omega
      clear hx
      go_wp2_with fail
      refine (l07Has_f Ac nc cc cl x _ O_5.out hnc2).mono ?_
      rintro e w' ⟨rfl, hw⟩
      obtain rfl := hw.symm
      by_cases hcy : x ∈ cl
      · have he : cl.contains x = true := by simpa using hcy
        rw [he]
        have HA2 := Lib.hid (show ∀ (j : Nat) (y : Int), j < k + 1 → nl[j]? = some y → y ∈ cl from fun j y hj hy => by
          by_cases e : j = k
          · subst e
            rw [List.getElem?_eq_getElem hkl, HX.out] at hy
            obtain rfl := Option.some.inj hy
            exact hcy
          · exact HALL.out j y (by omega) hy)
        clear he hcy
        go_wp2
        exact ⟨⟨k + 1, by omega, by go_num, HA2.out, by first | rfl | trivial⟩, by simp [intOf]; omega⟩
      · have he : cl.contains x = false := by simpa using hcy
        rw [he]
        have HF := Lib.hid (show false = r by
          rw [← HE.out]
          symm
          rw [Bool.and_eq_false_iff, List.all_eq_false]
          exact .inr ⟨x, by rw [← HX.out]; exact List.getElem_mem hkl, by simpa using hcy⟩)
        clear he hcy
        go_wp2
        go_ret
        exact ⟨ret_bool HF.out, B_4.out⟩
    · obtain rfl : k = nn := by omega
      have HF := Lib.hid (show ok = r by
        rw [← HE.out]
        symm
        rw [show (nl.all fun x => cl.contains x) = true from by
          rw [List.all_eq_true]
          intro x hx
          obtain ⟨j, hj⟩ := List.mem_iff_getElem?.mp hx
          have := HALL.out j x (by have := (List.getElem?_eq_some_iff.mp hj).1; have := HNL.out; omega) hj
          simpa using this]
        simp)
      go_wp2_with fail
      refine (isLinkSet_s A n c zs _ (HA.out.below B_4.out) hn).mono ?_
      rintro e w5 ⟨rfl, hb⟩
      rw [HOK.out]
      have B_5 := Lib.hid (B_4.out.trans (hb.mono B_4.out.size))
      clear hb
      go_wp2
      go_ret
      exact ⟨ret_bool HF.out, B_5.out⟩
end Go.Proofs.YtgjaennedihckaaGreat
