/- NeighborsOf of both sides. Conditions: none. -/
import Derived.Test.YtbbjckihikhdhaaGraphI
import Derived.Test.YtbbjckihikhdhaaPut
import Derived.Test.YtbbjckihikhdhaaIsSetS
namespace Go.Proofs.Ytbbjckihikhdhaa
open Go.RowKit Nt Fr
set_option linter.unusedVariables false

/-- The neighbors. -/
def nbrs (zs : List Lr) (v : Int) : List Int := if okSet zs = true then Gr.nearP (eds zs) v else []
theorem nbrs_like {ys zs : List Lr} {n : Nat} {v : Int} (hy : ys.length = n) (hz : zs.length = n) (h : ∀ (i : Nat) (y z : Lr), ys[i]? = some y → zs[i]? = some z → y.like z) : nbrs ys v = nbrs zs v := by
  unfold nbrs; rw [okSet_like hy hz h, eds_like hy hz h]
theorem nbrs_len {zs : List Lr} {v : Int} (h : zs.length ≤ 1048576) : (nbrs zs v).length ≤ 4194304 := by
  unfold nbrs
  split
  · have := nearK_len (zs := zs) v zs.length
    rw [nearK_all rfl] at this
    omega
  · simp
theorem lensL_like {ys zs : List Lr} {n : Nat} (hy : ys.length = n) (hz : zs.length = n) (h : ∀ (i : Nat) (y z : Lr), ys[i]? = some y → zs[i]? = some z → y.like z) : lensL ys = lensL zs := by
  induction ys generalizing zs n with
  | nil => simp at hy; subst hy; rw [List.eq_nil_of_length_eq_zero hz]
  | cons y r ih =>
    cases zs with
    | nil => simp at hy hz; omega
    | cons z s =>
      simp only [List.length_cons] at hy hz
      have h0 := like_rows_len (h 0 y z rfl rfl)
      have := ih (zs := s) (n := r.length) rfl (by omega) (fun i a b ha hb => h (i + 1) a b ha hb)
      simp only [lensL]; omega
set_option maxRecDepth 100000 in
set_option maxHeartbeats 4000000 in
theorem neighborsOf_s (A : Option Addr) (n c : Nat) (zs : List Lr) (v : Int) (w : World) (hA : LArg w A n zs) (hn : n ≤ 1048576) :
    Calls Try.prog 44 #[.slice A n c, .int .i64 v] w (OwnR 3 (ints (nbrs zs v)) w) := by
  have HA := Lib.hid hA
  clear hA
  obtain ⟨ok, hok⟩ : ∃ q, okSet zs = q := ⟨_, rfl⟩
  have HOK := Lib.hid hok
  clear hok
  go_enter Try.func44, Try.ntmps44
  go_wp2_with fail
  refine (isLinkSet_s A n c zs _ HA.out hn).mono ?_
  rintro e w1 ⟨rfl, hb⟩
  rw [HOK.out]
  have B_1 := Lib.hid hb
  clear hb
  cases ok with
  | false =>
    have HR := Lib.hid (show nbrs zs v = [] by unfold nbrs; rw [HOK.out]; rfl)
    go_wp2
    go_ret
    exact ⟨_, rfl, by rw [HR.out]; exact OwnV.nil _ _ _, B_1.out⟩
  | true =>
    have HR := Lib.hid (show nbrs zs v = Gr.nearP (eds zs) v by unfold nbrs; rw [HOK.out]; rfl)
    go_wp2_with fail
    refine (l07Near_f A n c zs v _ (HA.out.below B_1.out) hn).mono ?_
    rintro e w2 ⟨u, rfl, ho, hb⟩
    rw [← HR.out] at ho
    have O_2 := Lib.hid (ho.based B_1.out.size)
    have B_2 := Lib.hid (B_1.out.trans (hb.mono B_1.out.size))
    clear ho hb
    go_wp2
    go_ret
    exact ⟨_, rfl, O_2.out, B_2.out⟩
set_option maxRecDepth 100000 in
set_option maxHeartbeats 4000000 in
theorem neighborsOf_i (A : Option Addr) (n c : Nat) (zs : List Lr) (v : Int) (w : World) (hA : LArg w A n zs) (hn : n ≤ 1048576) (hv : (Lit.int .i64 v).wf = true) :
    Calls Try.prog 45 #[.slice A n c, .int .i64 v] w (OwnR 3 (ints (nbrs zs v)) w) := by
  have HA := Lib.hid hA
  have HV := Lib.hid hv
  clear hA hv
  obtain ⟨ok, hok⟩ : ∃ q, okSet zs = q := ⟨_, rfl⟩
  have HOK := Lib.hid hok
  clear hok
  go_enter Try.func45, Try.ntmps45
  go_wp2_with fail
  refine (isLinkSet_i A n c zs _ HA.out hn (fun u h => isAscending_f A n c zs u h hn)).mono ?_
  rintro e w1 ⟨rfl, hb⟩
  rw [HOK.out]
  have B_1 := Lib.hid hb
  clear hb
  cases ok with
  | false =>
    have HR := Lib.hid (show nbrs zs v = [] by unfold nbrs; rw [HOK.out]; rfl)
    go_wp2
    go_ret
    exact ⟨_, rfl, by rw [HR.out]; exact OwnV.nil _ _ _, B_1.out⟩
  | true =>
    have HR := Lib.hid (show nbrs zs v = Gr.adjI (eds zs) v by unfold nbrs; rw [HOK.out, if_pos rfl]; exact Gr.nearP_eq (okSet_eds HOK.out) v)
    go_wp2_with fail
    refine (graphOf_f A n c zs _ (HA.out.below B_1.out) hn HOK.out).mono ?_
    rintro e w2 ⟨rfl, ⟨D, hG⟩, hb⟩
    obtain ⟨u, hlook, hoi, _, _⟩ := hG.at_ (by unfold maxLen; omega) v HV.out
    have hlk := hlook w2 rfl
    have O_2 := Lib.hid ((OwnV.of_own hoi.1).based (Nat.le_trans B_1.out.size (Nat.le_succ _)))
    have B_2 := Lib.hid (B_1.out.trans (hb.mono B_1.out.size))
    clear hb hG hlook hoi
    go_wp2
    go_ret
    exact ⟨_, rfl, by rw [HR.out]; exact O_2.out, B_2.out⟩
end Go.Proofs.Ytbbjckihikhdhaa
