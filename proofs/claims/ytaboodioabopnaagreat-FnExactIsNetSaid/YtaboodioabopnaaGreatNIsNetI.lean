/- The program's IsNet. Conditions: none. -/
import Derived.Test.YtaboodioabopnaaGreatNBackC
import Derived.Test.YtaboodioabopnaaGreatNCondI
namespace Go.Proofs.YtaboodioabopnaaGreat
open Go.RowKit Go.Shelf Nt Fr
set_option linter.unusedVariables false
attribute [local go_sem] Oper.semAt_some
def rvD (ds : List Dn) (is : List Nat) : List Dn := is.reverse.flatMap fun i => ds[i]?.toList
theorem rvD_snoc {ds : List Dn} {is : List Nat} {i : Nat} {d : Dn} (h : ds[i]? = some d) : rvD ds (is ++ [i]) = d :: rvD ds is := by
 simp [rvD, h]
theorem rvD_dn {ds : List Dn} {n : Nat} (hn : ds.length = n) : ∀ k, k ≤ n → rvD ds (dnN n k) = ds.drop (n - k) := by
 intro k
 induction k with
 | zero => intro _; simp [rvD, dnN_zero, ← hn]
 | succ k ih =>
   intro hk
   have hlt : n - 1 - k < ds.length := by omega
   rw [dnN_succ (by omega), rvD_snoc (List.getElem?_eq_getElem hlt), ih (by omega), show n - (k + 1) = n - 1 - k by omega, show n - k = (n - 1 - k) + 1 by omega]
   exact (List.drop_eq_getElem_cons hlt).symm
theorem netOk_drop {ds : List Dn} (k : Nat) (h : netOk ds = true) : netOk (ds.drop k) = true := by
 rw [netOk_iff] at h ⊢
 intro j d hd
 rw [List.getElem?_drop] at hd
 have := h (k + j) d hd
 rw [List.drop_drop]
 rw [show k + (j + 1) = k + j + 1 by omega]
 exact this
def kcs (r : List Dn) : List Value := (List.range 10).map fun (j : Nat) => Value.bool (kn r (j : Int))
theorem kcs_get {r : List Dn} {j : Nat} (h : j < 10) : (kcs r)[j]? = some (.bool (kn r (j : Int))) := by simp [kcs, h]
theorem kcs_nil : kcs [] = [.bool true, .bool false, .bool false, .bool false, .bool false, .bool false, .bool false, .bool false, .bool false, .bool false] := by rfl
theorem kcs_set {r : List Dn} {d : Dn} {j : Nat} (h : d.1 = (j : Int)) : (kcs r).set j (.bool true) = kcs (d :: r) := by
 apply List.ext_getElem?
 intro i
 rw [List.getElem?_set]
 by_cases e : j = i
 · subst e
   by_cases hj : j < 10
   · simp [kcs, hj, kn, h]
   · simp [kcs, hj]
 · rw [if_neg e]
   by_cases hi : i < 10
   · have : ¬ d.1 = (i : Int) := by omega
     simp [kcs, hi, kn, this]
   · simp [kcs, hi]
theorem kn_dis {r : List Dn} {x : Int} (h0 : 1 ≤ x) : kn r x = !dis r x := by
 have : ¬ x = 0 := by omega
 simp [kn, dis, this]
theorem okC_node {N : Int} {T : Fr} {ds : List Da} (h : okC N T ds = true) : 1 ≤ N ∧ N ≤ 9 := by
 unfold okC at h
 rw [Bool.and_eq_true] at h
 simpa using h.1
theorem okC_pa {N : Int} {T : Fr} {ds : List Da} (h : okC N T ds = true) {i : Nat} {z : Da} (hz : ds[i]? = some z) : 0 ≤ paNode z ∧ paNode z < 10 := by
 unfold okC at h
 simp only [Bool.and_eq_true] at h
 have := List.all_eq_true.mp h.2.2.2.1 z (List.mem_of_getElem? hz)
 unfold paOk at this
 rw [Bool.and_eq_true] at this
 simpa using this.1
theorem St.abide {w0 X Y : World} {row : Option Nat} {bs : List (Nat × List Value)} {B : Nat} (h : St w0 X bs []) (hb : w0.heap.size ≤ B) (hne : ∀ p ∈ bs, ∃ v, p.2[0]? = some v) (hg : X.grownBy Y row) (hr : ∀ r, row = some r → B ≤ r ∧ ∃ o : Obj, X.heap[r]? = some o ∧ o.isCells = false) : St w0 Y bs [] := by
 refine ⟨h.below.grown hg h.below.size (fun k e => Nat.le_trans hb (hr k e).1), fun p hp => ⟨(h.box p hp).1.grown hg ?_, (h.box p hp).2⟩, by simp, h.bb, .nil, by simp⟩
 intro e
 obtain ⟨_, o, ho, hc⟩ := hr p.1 e.symm
 obtain ⟨v, hv⟩ := hne p hp
 obtain ⟨o', ho', hc'⟩ := cells_of_cell ((h.box p hp).1.cell 0 v hv)
 simp only at ho'
 rw [ho] at ho'; cases ho'; rw [hc] at hc'; cases hc'
theorem HeldL.abide {X Y : World} {row : Option Nat} {b : Nat} {vs : List Value} {v : Value} (h : HeldL X b vs) (hv : vs[0]? = some v) (hg : X.grownBy Y row) (hr : ∀ r, row = some r → ∃ o : Obj, X.heap[r]? = some o ∧ o.isCells = false) : HeldL Y b vs := by
 refine h.grown hg ?_
 intro e
 obtain ⟨o, ho, hc⟩ := hr b e.symm
 obtain ⟨o', ho', hc'⟩ := cells_of_cell (h.cell 0 v hv)
 simp only at ho'
 rw [ho] at ho'; cases ho'; rw [hc] at hc'; cases hc'
theorem St.with {w0 W : World} {bs : List (Nat × List Value)} {b : Nat} {vs : List Value} (h : St w0 W bs []) (hk : HeldL W b vs) (hl : w0.heap.size ≤ b) (hne : ∀ p ∈ bs, b ≠ p.1) : St w0 W ((b, vs) :: bs) [] := by
 refine ⟨h.below, ?_, by simp, List.pairwise_cons.mpr ⟨hne, h.bb⟩, .nil, by simp⟩
 intro p hp
 rcases List.mem_cons.mp hp with rfl | a
 · exact ⟨hk, hl⟩
 · exact h.box p a
structure RSt (w W0 W : World) (Q : Nat) (bs : List (Nat × List Value)) : Prop where
 st : St w W bs []
 ko : KeepsOthers W0 W
 kp : KpB w.heap.size Q W0 W
 q : w.heap.size ≤ Q ∧ Q < W.heap.size
theorem below_others {W W' : World} (h : Below W.heap.size W W') : KeepsOthers W W' := ⟨h.size, fun k o hk _ => (h.block k (Array.getElem?_eq_some_iff.1 hk).1).trans hk⟩
theorem RSt.call {w W0 W W' : World} {Q : Nat} {bs : List (Nat × List Value)} (h : RSt w W0 W Q bs) (hb : Below W.heap.size W W') : RSt w W0 W' Q bs :=
 ⟨h.st.call hb, h.ko.trans (below_others hb), kpB_t h.kp ⟨hb.mono (Nat.le_trans h.st.size (Nat.le_refl _)), hb.block Q h.q.2⟩, h.q.1, Nat.lt_of_lt_of_le h.q.2 hb.size⟩
theorem RSt.alloc {w W0 W : World} {Q : Nat} {bs : List (Nat × List Value)} (h : RSt w W0 W Q bs) (vs : List Value) (T : TypeId) : RSt w W0 (W.alloc (.cells vs.toArray T)) Q ((W.heap.size, vs) :: bs) :=
 ⟨h.st.alloc vs T, (h.call ((Below.refl _ _).alloc (Nat.le_refl _) _)).ko, (h.call ((Below.refl _ _).alloc (Nat.le_refl _) _)).kp, (h.call ((Below.refl _ _).alloc (Nat.le_refl _) _)).q⟩
theorem RSt.dropBox {w W0 W : World} {Q : Nat} {bs : List (Nat × List Value)} (h : RSt w W0 W Q bs) (k : Nat) : RSt w W0 W Q (bs.eraseIdx k) := ⟨h.st.dropBox k, h.ko, h.kp, h.q⟩
theorem RSt.set {w W0 W : World} {Q : Nat} {bs : List (Nat × List Value)} (h : RSt w W0 W Q bs) (k j : Nat) {b : Nat} {vs : List Value} {u : Value} (v : Value) (e : bs[k]? = some (b, vs)) (e2 : vs[j]? = some u) (hne : b ≠ Q) : RSt w W0 (W.setCell ⟨b, j, none⟩ v) Q (bs.set k (b, vs.set j v)) :=
 ⟨h.st.set k j v e e2, h.ko.trans (KeepsOthers.setCell _ _ _), kpB_t h.kp (kpB_set (h.st.ge k e) hne _ _), h.q.1, by simpa using h.q.2⟩
set_option maxRecDepth 100000 in
set_option maxHeartbeats 40000000 in
theorem isNet_i (A : Option Addr) (n c : Nat) (ms : List Cd) (w : World) (hA : CArg w A n ms) (hnc : n ≤ c) (hcm : c ≤ maxLen) (hn : n ≤ 1048576) (hps : ∀ m ∈ ms, m.n ≤ 1048576) :
   Calls Tryz.prog 8 #[.slice A n c] w fun e w' => e = .returned (.bool (netOk (datn ms))) ∧ Below w.heap.size w w' := by
 have hcm' : c ≤ 9223372036854775807 := by unfold maxLen at hcm; omega
 have HL := Lib.hid (show (datn ms).length = n by rw [datn_len]; exact hA.len)
 refine (callsIn_wide (n := 5)).1 ?_
 refine callsIn_of_wp_marks Tryz.func8 rfl trivial ?_ rfl
 simp only [Tryz.ntmps8, List.size_toArray, List.length_cons, List.length_nil, Nat.reduceAdd, Nat.reduceSub, Array.replicate_succ, Array.replicate_zero, List.push_toArray, List.append_toArray, List.nil_append, List.cons_append]
 gi_wp2_with (refine ⟨trivial, ?_⟩; gi_at_call 26; refine (callsIn_wide.2 (backward_f _ _ _ _)).mono ?_; rintro e w2 ⟨rfl, rfl⟩)
 have S0 : St w (((w.alloc (.cells #[.bool false] 4)).alloc (.cells #[.bool true, .bool false, .bool false, .bool false, .bool false, .bool false, .bool false, .bool false, .bool false, .bool false] 65)).alloc (.cells #[.slice A n c] 25)) [(w.heap.size + 1, kcs []), (w.heap.size, [.bool false])] [] := by
   rw [kcs_nil]
   have h1 := (St.start w).alloc [.bool false] 4
   have h2 := h1.alloc_at (b := w.heap.size + 1) [.bool true, .bool false, .bool false, .bool false, .bool false, .bool false, .bool false, .bool false, .bool false, .bool false] 65 (by simp)
   exact h2.call ((Below.refl _ _).alloc (Nat.le_refl _) _)
 have hq : (((w.alloc (.cells #[.bool false] 4)).alloc (.cells #[.bool true, .bool false, .bool false, .bool false, .bool false, .bool false, .bool false, .bool false, .bool false, .bool false] 65)).alloc (.cells #[.slice A n c] 25)).cell? ⟨w.heap.size + 1 + 1, 0, none⟩ = some (.slice A n c) := by
   have := (Boxed.new ((w.alloc (.cells #[.bool false] 4)).alloc (.cells #[.bool true, .bool false, .bool false, .bool false, .bool false, .bool false, .bool false, .bool false, .bool false, .bool false] 65)) 25 (.slice A n c)).cell
   simpa using this
 have hsz : (((w.alloc (.cells #[.bool false] 4)).alloc (.cells #[.bool true, .bool false, .bool false, .bool false, .bool false, .bool false, .bool false, .bool false, .bool false, .bool false] 65)).alloc (.cells #[.slice A n c] 25)).heap.size = w.heap.size + 1 + 1 + 1 := by simp
 generalize ((w.alloc (.cells #[.bool false] 4)).alloc (.cells #[.bool true, .bool false, .bool false, .bool false, .bool false, .bool false, .bool false, .bool false, .bool false, .bool false] 65)).alloc (.cells #[.slice A n c] 25) = W2 at S0 hq hsz ⊢
 have hAl : 0 < n → ∀ a : Addr, A = some a → a.block < w.heap.size := fun h0 a e => by
   obtain ⟨g, o, e2, hg, _⟩ := hA.cell h0
   rw [e] at e2; cases e2; exact hg
 have HA := Lib.hid hA
 have HPS := Lib.hid hps
 clear hA hps
 refine wpIn_rangeFunc_ownH rfl (by decide) (gf := 57) (lb := #[.pointer (some ⟨w.heap.size + 1 + 1, 0, none⟩)]) rfl trivial (enters_of Tryz.func57 (by kernel_rfl) rfl)
   (backward_stops Fence.wide 4 trivial rfl (by decide) (w.heap.size + 1 + 1) w.heap.size A n c ms hn W2 (by omega) (by omega) hq (HA.out.below S0.below) hAl) kpB_t (kpB_b (by omega) (by omega)) (Below.refl _ _) (fun _ => rfl)
   (fun pre W => netOk (rvD (datn ms) (pre.map Fin.val)) = true ∧ St w W [(w.heap.size + 1, kcs (rvD (datn ms) (pre.map Fin.val))), (w.heap.size, [.bool false])] [] ∧ W2.heap.size ≤ W.heap.size)
   (fun cd pre W => cd = .ret ∧ netOk (rvD (datn ms) (pre.map Fin.val)) = false ∧ St w W [(w.heap.size, [.bool false])] [])
   (fun s X Y row h hg hr => ⟨h.1, h.2.1.abide (by omega) (by intro p hp; simp only [List.mem_cons, List.not_mem_nil, or_false] at hp; rcases hp with rfl | rfl <;> exact ⟨_, rfl⟩) hg hr, Nat.le_trans h.2.2 hg.size⟩)
   (fun cd s X Y row h hg hr => ⟨h.1, h.2.1, h.2.2.abide (by omega) (by intro p hp; simp only [List.mem_cons, List.not_mem_nil, or_false] at hp; rcases hp with rfl; exact ⟨_, rfl⟩) hg hr⟩)
   ⟨rfl, S0, Nat.le_refl _⟩
   (fun x a' W => ∃ (b : Nat) (m : Cd), ms[x.val]? = some m ∧ W2.heap.size ≤ b ∧ HeldL W b m.cells ∧ a' = { tmps := #[.slice A n c, undef, .pointer (some ⟨w.heap.size, 0, none⟩), .pointer (some ⟨w.heap.size + 1, 0, none⟩), undef, .pointer (some ⟨b, 0, none⟩), undef, undef, .agg #[.bool true, .bool false, .bool false, .bool false, .bool false, .bool false, .bool false, .bool false, .bool false, .bool false], .slice A n c, .func (.func 57) #[] #[.pointer (some ⟨w.heap.size + 1 + 1, 0, none⟩)], .int .i64 (x.val : Int), .agg m.cells.toArray, undef, undef, undef, undef, undef, undef, undef, undef, undef, undef, undef, undef, undef, undef, undef, undef, undef, undef, undef, undef, undef, undef, undef, undef, undef], defers := [] })
   (fun x a' s X Y row h hg hr => by
     obtain ⟨b, m, hm, hb, hh, e⟩ := h
     exact ⟨b, m, hm, hb, hh.abide (v := .int .i64 m.N) rfl hg (fun r e => (hr r e).2), e⟩) ?assign ?body ?done ?stop
 case assign =>
   rintro l pre ⟨i, hi⟩ W K hI hK
   obtain ⟨g, o, m, hAe, hge, hm, hra, hce⟩ := HA.out.at_ hi
   obtain ⟨N, T, t0, t1, Bp, p, q, zs⟩ := m
   obtain ⟨Aa, na, ca, Ba, ma, da, rfl, rfl⟩ := (show FrA w T t0 t1 from (HA.out.rd _ (List.mem_of_getElem? hm)).1).shape
   have hv : cdv ms i = .agg #[.int .i64 N, .bool T.s, .slice Aa na ca, .slice Ba ma da, .slice Bp p q] := by simp [cdv, hm, Cd.cells]
   have hs3 := hI.2.2
   have HI := Lib.hid hI
   have HM := Lib.hid hm
   have HK := Lib.hid hK
   clear hI hK hm hra hce hAe hge
   simp only [hv]
   gi_wp2
   exact HK.out _ _ ((KeepsOthers.alloc _ _).from _) ⟨(Below.refl _ _).alloc (by omega) _, Below.heap_alloc _ _ _ (by omega)⟩ ⟨HI.out.1, HI.out.2.1.call ((Below.refl _ _).alloc (Nat.le_refl _) _), by simp; omega⟩ ⟨W.heap.size, _, HM.out, hs3, HeldL.new _ [.int .i64 N, .bool T.s, .slice Aa na ca, .slice Ba ma da, .slice Bp p q] _, rfl⟩
 case body =>
   rintro l pre ⟨i, hi⟩ a' W hl hrec ⟨hno, hS, hs3⟩ ⟨b, m, hm, hb, hh, rfl⟩ hlen
   have hrd := HA.out.rd m (List.mem_of_getElem? hm)
   have HP := Lib.hid (HPS.out m (List.mem_of_getElem? hm))
   have HD := Lib.hid (datn_get hm)
   obtain ⟨N, T, t0, t1, Bp, p, q, zs⟩ := m
   have hp : p ≤ 1048576 := HP.out
   obtain ⟨Aa, na, ca, Ba, ma, da, rfl, rfl⟩ := (show FrA w T t0 t1 from hrd.1).shape
   have HR := Lib.hid hrd
   clear hrd
   obtain ⟨rs, hrs⟩ : ∃ z, rvD (datn ms) (pre.map Fin.val) = z := ⟨_, rfl⟩
   have HRV := Lib.hid (show rvD (datn ms) ((pre ++ [(⟨i, hi⟩ : Fin n)]).map Fin.val) = (N, T, dats zs) :: rs by rw [List.map_append, ← hrs]; exact rvD_snoc HD.out)
   rw [hrs] at hno hS
   have HNO := Lib.hid hno
   have R0 := Lib.hid (show RSt w W W (w.heap.size + 1 + 1) [(b, [.int .i64 N, .bool T.s, (.slice Aa na ca), (.slice Ba ma da), (.slice Bp p q)]), (w.heap.size + 1, kcs rs), (w.heap.size, [.bool false])] from
     ⟨hS.with hh (by omega) (by intro p hp; simp only [List.mem_cons, List.not_mem_nil, or_false] at hp; rcases hp with rfl | rfl <;> simp <;> omega), KeepsOthers.refl _, ⟨Below.refl _ _, rfl⟩, by omega, by omega⟩)
   clear hno hS hh hrs hm
   have y0 := R0.out.st.cell 0 0 rfl rfl
   have y1 := R0.out.st.cell 0 1 rfl rfl
   have y2 := R0.out.st.cell 0 2 rfl rfl
   have y3 := R0.out.st.cell 0 3 rfl rfl
   have y4 := R0.out.st.cell 0 4 rfl rfl
   gi_wp2_with fail
   refine ⟨trivial, ?_⟩
   gi_at_call 27
   refine (CallsIn.inRound l (callsIn_wide.2 (isValidConditional_i N T (.slice Aa na ca) (.slice Ba ma da) Bp p q zs _ (HR.out.1.below R0.out.st.below) (HR.out.2.below R0.out.st.below) hp))).mono ?_
   rintro e w2 ⟨rfl, hbb⟩
   obtain ⟨vc, hvc⟩ : ∃ z, okC N T (dats zs) = z := ⟨_, rfl⟩
   rw [hvc]
   have HVC := Lib.hid hvc
   have R2 := Lib.hid (R0.out.call hbb)
   clear hbb hvc y0 y1 y2 y3 y4 R0
   have NQ := Lib.hid (show w.heap.size + 1 ≠ w.heap.size + 1 + 1 ∧ w.heap.size ≠ w.heap.size + 1 + 1 from ⟨by omega, by omega⟩)
   by_cases hv : vc = true
   · subst hv
     obtain ⟨hN1, hN9⟩ := okC_node HVC.out
     obtain ⟨nn, rfl⟩ : ∃ nn : Nat, N = (nn : Int) := ⟨N.toNat, by omega⟩
     have hnn : nn < 10 := by omega
     have hnA : (0 : Int) ≤ (nn : Int) := by omega
     have hnB : (nn : Int) < 10 := by omega
     obtain ⟨kb, hkb⟩ : ∃ z, kn rs (nn : Int) = z := ⟨_, rfl⟩
     have y0 := R2.out.st.cell 0 0 rfl rfl
     have y4 := R2.out.st.cell 0 4 rfl rfl
     have yk := R2.out.st.cell 1 nn rfl (kcs_get hnn)
     rw [hkb] at yk
     have HKB := Lib.hid hkb
     clear hkb
     cases kb with
     | true =>
       have HE := Lib.hid (show netOk (rvD (datn ms) ((pre ++ [(⟨i, hi⟩ : Fin n)]).map Fin.val)) = false by
         rw [HRV.out]; unfold netOk netStep
         have := HKB.out
         rw [kn_dis (by omega)] at this
         have h3 : dis rs (nn : Int) = false := by simpa using this
         simp only [h3, Bool.false_and, Bool.and_false])
       have yr := R2.out.st.cell 2 0 rfl rfl
       have yz := R2.out.st.froz 2 0 rfl rfl
       gi_wp2
       exact ⟨((R2.out.set 2 0 (.bool false) rfl rfl (by omega)).ko).from _, rfl, HE.out, (R2.out.set 2 0 (.bool false) rfl rfl (by omega)).st.sub (by simp) (List.Sublist.refl _)⟩
     | false =>
       gi_wp2
       clear y0 y4 yk
       gi_loopw [25] (fun i wr => ∃ a : Nat, a ≤ p ∧ i = .int .i64 a ∧ (∀ (j : Nat) (z : List Int × List Fr), j < a → (dats zs)[j]? = some z → kn rs (paNode z) = true) ∧ RSt w W wr (w.heap.size + 1 + 1) [(b, [.int .i64 (nn : Int), .bool T.s, (.slice Aa na ca), (.slice Ba ma da), (.slice Bp p q)]), (w.heap.size + 1, kcs rs), (w.heap.size, [.bool false])]) (fun i _ => p - (intOf i).toNat)
       case atStart => exact ⟨0, Nat.zero_le _, rfl, fun j d hj => by omega, R2.out⟩
       case round =>
         obtain ⟨a, ha, rfl, hkn2, hst⟩ := hrel
         have HK2 := Lib.hid hkn2
         have R3 := Lib.hid hst
         clear hkn2 hst R2
         by_cases hap : a < p
         · obtain ⟨g2, o2, z, rfl, hg2, hz, hrz, hsz2, hcz⟩ := HR.out.2.at_ hap
           obtain ⟨ZA, ZP, ZQ, ZR, x0, i0, j0, x1, i1, j1, x2, i2, j2, x3, i3, j3, x4, i4, j4, x5, i5, j5, rfl⟩ := Rc.shapes13 hsz2 hrz
           have HZ := Lib.hid (show (dats zs)[a]? = some ([ZA], [ZP, ZQ, ZR]) from dats_get hz)
           obtain ⟨hz0, hz9⟩ : 0 ≤ ZA ∧ ZA < 10 := okC_pa HVC.out HZ.out
           obtain ⟨zz, rfl⟩ : ∃ zz : Nat, ZA = (zz : Int) := ⟨ZA.toNat, by omega⟩
           have hzz : zz < 10 := by omega
           have ha0 : (0 : Int) ≤ (a : Int) := by omega
           have ha1 : (a : Int) < (p : Int) := by omega
           have f0 : wr.cell? ⟨g2, o2 + a * 10, none⟩ = some (.int .i64 (zz : Int)) := (R3.out.st.below.cell (p := ⟨g2, o2 + a * 10, none⟩) hg2).trans (hcz 0 _ rfl)
           have f1 : wr.cell? ⟨g2, o2 + a * 10 + 1, none⟩ = some (.bool ZP.s) := (R3.out.st.below.cell (p := ⟨g2, o2 + a * 10 + 1, none⟩) hg2).trans (hcz 1 _ rfl)
           have f2 : wr.cell? ⟨g2, o2 + a * 10 + 2, none⟩ = some ((.slice x0 i0 j0)) := (R3.out.st.below.cell (p := ⟨g2, o2 + a * 10 + 2, none⟩) hg2).trans (hcz 2 _ rfl)
           have f3 : wr.cell? ⟨g2, o2 + a * 10 + 3, none⟩ = some ((.slice x1 i1 j1)) := (R3.out.st.below.cell (p := ⟨g2, o2 + a * 10 + 3, none⟩) hg2).trans (hcz 3 _ rfl)
           have f4 : wr.cell? ⟨g2, o2 + a * 10 + 4, none⟩ = some (.bool ZQ.s) := (R3.out.st.below.cell (p := ⟨g2, o2 + a * 10 + 4, none⟩) hg2).trans (hcz 4 _ rfl)
           have f5 : wr.cell? ⟨g2, o2 + a * 10 + 5, none⟩ = some ((.slice x2 i2 j2)) := (R3.out.st.below.cell (p := ⟨g2, o2 + a * 10 + 5, none⟩) hg2).trans (hcz 5 _ rfl)
           have f6 : wr.cell? ⟨g2, o2 + a * 10 + 6, none⟩ = some ((.slice x3 i3 j3)) := (R3.out.st.below.cell (p := ⟨g2, o2 + a * 10 + 6, none⟩) hg2).trans (hcz 6 _ rfl)
           have f7 : wr.cell? ⟨g2, o2 + a * 10 + 7, none⟩ = some (.bool ZR.s) := (R3.out.st.below.cell (p := ⟨g2, o2 + a * 10 + 7, none⟩) hg2).trans (hcz 7 _ rfl)
           have f8 : wr.cell? ⟨g2, o2 + a * 10 + 8, none⟩ = some ((.slice x4 i4 j4)) := (R3.out.st.below.cell (p := ⟨g2, o2 + a * 10 + 8, none⟩) hg2).trans (hcz 8 _ rfl)
           have f9 : wr.cell? ⟨g2, o2 + a * 10 + 9, none⟩ = some ((.slice x5 i5 j5)) := (R3.out.st.below.cell (p := ⟨g2, o2 + a * 10 + 9, none⟩) hg2).trans (hcz 9 _ rfl)
           clear hcz hz hrz hsz2
           have R4 := Lib.hid (R3.out.alloc [.int .i64 (zz : Int), .bool ZP.s, (.slice x0 i0 j0), (.slice x1 i1 j1), .bool ZQ.s, (.slice x2 i2 j2), (.slice x3 i3 j3), .bool ZR.s, (.slice x4 i4 j4), (.slice x5 i5 j5)] 63)
           obtain ⟨kb, hkb⟩ : ∃ z, kn rs (zz : Int) = z := ⟨_, rfl⟩
           obtain ⟨pb, hpb⟩ : ∃ z, wr.heap.size = z := ⟨_, rfl⟩
           rw [hpb] at R4
           have y0 := R4.out.st.cell 0 0 rfl rfl
           have yk := R4.out.st.cell 2 zz rfl (kcs_get hzz)
           rw [hkb] at yk
           have HKB2 := Lib.hid hkb
           clear hkb
           cases kb with
           | true =>
             have HK3 := Lib.hid (show ∀ (j : Nat) (z : List Int × List Fr), j < a + 1 → (dats zs)[j]? = some z → kn rs (paNode z) = true from fun j z hj hz => by
               by_cases e : j = a
               · subst e
                 obtain rfl := Option.some.inj (HZ.out.symm.trans hz)
                 exact HKB2.out
               · exact HK2.out j z (by omega) hz)
             gi_wp2
             go_roundw
             case rel => exact ⟨a + 1, by omega, by go_num, HK3.out, R4.out.dropBox 0⟩
             case measure => simp [intOf]; omega
           | false =>
             have HE := Lib.hid (show netOk (rvD (datn ms) ((pre ++ [(⟨i, hi⟩ : Fin n)]).map Fin.val)) = false by
               rw [HRV.out]; unfold netOk
               rw [step_bad2 HZ.out HKB2.out, Bool.and_false])
             have yr := R4.out.st.cell 3 0 rfl rfl
             have yz := R4.out.st.froz 3 0 rfl rfl
             gi_wp2
             exact ⟨((R4.out.set 3 0 (.bool false) rfl rfl (by omega)).ko).from _, rfl, HE.out, (R4.out.set 3 0 (.bool false) rfl rfl (by omega)).st.sub (by simp) (List.Sublist.refl _)⟩
         · obtain rfl : a = p := by omega
           have y0 := R3.out.st.cell 0 0 rfl rfl
           have yk := R3.out.st.cell 1 nn rfl (kcs_get hnn)
           have yz := R3.out.st.froz 1 nn rfl (kcs_get hnn)
           have R5 := Lib.hid (R3.out.set 1 nn (.bool true) rfl (kcs_get hnn) NQ.out.1)
           have HG := Lib.hid (show netOk (rvD (datn ms) ((pre ++ [(⟨i, hi⟩ : Fin n)]).map Fin.val)) = true by
             rw [HRV.out]; unfold netOk
             rw [HNO.out, Bool.true_and]
             refine step_good HVC.out (fun i z hz => HK2.out i z (by have := (List.getElem?_eq_some_iff.mp hz).1; have h2 := HR.out.2.row.len; rw [dats_len] at this; simp only at h2; omega) hz) (fun i e he h => ?_)
             have h1 := HKB.out
             unfold kn at h1
             rw [Bool.or_eq_false_iff] at h1
             have h2 := List.any_eq_false.mp h1.2 e (List.mem_of_getElem? he)
             exact h2 (by simpa using h))
           gi_wp2
           refine ⟨R5.out.ko.from _, R5.out.kp, HG.out, ?_, by have := R5.out.st.size; have := R5.out.ko.size; omega⟩
           rw [HRV.out, ← kcs_set rfl]
           exact R5.out.st.dropBox 0
   · rw [Bool.not_eq_true] at hv
     subst hv
     have HE := Lib.hid (show netOk (rvD (datn ms) ((pre ++ [(⟨i, hi⟩ : Fin n)]).map Fin.val)) = false by
       rw [HRV.out]; unfold netOk
       rw [step_bad1 HVC.out, Bool.and_false])
     have yr := R2.out.st.cell 2 0 rfl rfl
     have yz := R2.out.st.froz 2 0 rfl rfl
     gi_wp2
     exact ⟨((R2.out.set 2 0 (.bool false) rfl rfl (by omega)).ko).from _, rfl, HE.out, (R2.out.set 2 0 (.bool false) rfl rfl (by omega)).st.sub (by simp) (List.Sublist.refl _)⟩
 case done =>
   rintro D ys W hD rfl ⟨hno, hS, hs3⟩ hK
   rw [dnF_val, rvD_dn HL.out _ (Nat.le_refl _), Nat.sub_self, List.drop_zero] at hno
   have y0 := hS.cell 1 0 rfl rfl
   have yf := hS.froz 1 0 rfl rfl
   have HNO := Lib.hid hno
   have HS := Lib.hid hS
   have HD := Lib.hid hD
   clear hno hS hD
   gi_wp2
   have hK' := (KeepsOthers.setCell W ⟨w.heap.size, 0, none⟩ (.bool true)).same D _ hK rfl
   refine ⟨by simp, .inl ⟨_, _, rfl, run_takeDeferred hK', ?_⟩⟩
   have hc5 := cell_kept (World.cell?_setCell_same' W ⟨w.heap.size, 0, none⟩ (.bool true) (by rw [y0]; rfl)) (grownBy_putObj' _ D (.deferred none)) (fun r e => by cases e; exact ⟨_, hK', rfl⟩)
   refine ⟨.bool true, ?_, by rw [HNO.out], (HS.out.below.setCell (p := ⟨w.heap.size, 0, none⟩) (by simp) _).trans (belowK_b (w := w) (Nat.le_refl _) _ D _ _ (by have := HD.out; omega) hK' rfl rfl)⟩
   simp [results, Tryz.f8, go_sem, hc5]
 case stop =>
   rintro D cd pre W hD ⟨k, hk, rfl⟩ ⟨rfl, hfn, hE⟩ hK
   rw [dnF_val, rvD_dn HL.out _ hk] at hfn
   have hres : netOk (datn ms) = false := by
     rw [← Bool.not_eq_true]; intro h
     rw [netOk_drop _ h] at hfn; cases hfn
   have HRES := Lib.hid hres
   have HD := Lib.hid hD
   have y0 := hE.cell 0 0 rfl rfl
   clear hres hfn hD
   gi_wp2
   refine ⟨by simp, .inl ⟨_, _, rfl, run_takeDeferred hK, ?_⟩⟩
   have hc5 := cell_kept y0 (grownBy_putObj' _ D (.deferred none)) (fun r e => by cases e; exact ⟨_, hK, rfl⟩)
   refine ⟨.bool false, ?_, by rw [HRES.out], hE.below.trans (belowK_b (w := w) (Nat.le_refl _) _ D _ _ (by have := HD.out; omega) hK rfl rfl)⟩
   simp [results, Tryz.f8, go_sem, hc5]
end Go.Proofs.YtaboodioabopnaaGreat
