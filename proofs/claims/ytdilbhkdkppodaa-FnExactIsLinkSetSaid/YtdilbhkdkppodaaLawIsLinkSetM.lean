/- Proved: at every slice of links, impl.IsLinkSet answers as its model spec.IsLinkSet, writes into no argument, the call returns true and changes no memory that was there. Conditions: none. -/
import Derived.Test.YtdilbhkdkppodaaLkBase
import Derived.Deep.Slices
import Derived.Test.YtdilbhkdkppodaaRows
import Derived.Test.YtdilbhkdkppodaaOpen
import Derived.WalkKit
import Derived.ProofKit
import Derived.OpenShut
import Derived.ShutString
import Derived.ChangeOld
import Derived.Below
namespace Go.Proofs.Ytdilbhkdkppodaa
open Go.RowKit Nt Fr
set_option linter.unusedVariables false

/-- A link as it lies in memory. -/
structure Lr where
  A : Int
  B : Int
  P : Fr
  Q : Fr
  R : Fr
  p0 : Value
  p1 : Value
  q0 : Value
  q1 : Value
  r0 : Value
  r1 : Value
namespace Lr
def cells (z : Lr) : List Value := [.int .i64 z.A, .int .i64 z.B, .bool z.P.s, z.p0, z.p1, .bool z.Q.s, z.q0, z.q1, .bool z.R.s, z.r0, z.r1]
def rows (z : Lr) : Chunk := rowsK z.P z.Q z.R z.p0 z.p1 z.q0 z.q1 z.r0 z.r1
def len (z : Lr) : Nat := z.P.len + z.Q.len + z.R.len
def rd (w : World) (z : Lr) : Prop := LkI w z.P z.Q z.R z.p0 z.p1 z.q0 z.q1 z.r0 z.r1
/-- The same ends and fractions. -/
def like (y z : Lr) : Prop := y.A = z.A ∧ y.B = z.B ∧ y.P = z.P ∧ y.Q = z.Q ∧ y.R = z.R
end Lr
/-- The slice reads as these links, eleven cells an element. -/
def LRow (w : World) (A : Option Addr) (n : Nat) (zs : List Lr) : Prop :=
  zs.length = n ∧ (0 < n → ∃ g o, A = some ⟨g, o, none⟩ ∧ g < w.heap.size ∧ ∀ k (hk : k < zs.length) (j : Nat) (v : Value), (zs[k].cells)[j]? = some v → w.cell? ⟨g, o + k * 11 + j, none⟩ = some v) ∧ ∀ z ∈ zs, z.rd w
section
variable {w w' : World} {A : Option Addr} {n : Nat} {zs : List Lr}
theorem LRow.below (h : LRow w A n zs) (hb : Below w.heap.size w w') : LRow w' A n zs := by
  refine ⟨h.1, fun hn => ?_, fun z hz => (h.2.2 z hz).below hb⟩
  obtain ⟨g, o, rfl, hg, hc⟩ := h.2.1 hn
  exact ⟨g, o, rfl, Nat.lt_of_lt_of_le hg hb.size, fun k hk j v hj => (hb.cell (p := ⟨g, o + k * 11 + j, none⟩) hg).trans (hc k hk j v hj)⟩
theorem LRow.at_ (h : LRow w A n zs) {k : Nat} (hk : k < n) : ∃ g o z, A = some ⟨g, o, none⟩ ∧ g < w.heap.size ∧ zs[k]? = some z ∧ z.rd w ∧ ∀ (j : Nat) (v : Value), (z.cells)[j]? = some v → w.cell? ⟨g, o + k * 11 + j, none⟩ = some v := by
  obtain ⟨g, o, e, hg, hc⟩ := h.2.1 (by omega)
  have hk' : k < zs.length := by rw [h.1]; exact hk
  exact ⟨g, o, zs[k], e, hg, List.getElem?_eq_getElem hk', h.2.2 _ (List.getElem_mem hk'), hc k hk'⟩
end
/-- A slice of links that came in. -/
def IsLinks (w : World) (a : Option Addr) (len cap : Nat) (zs : List Lr) : Prop := LRow w a len zs ∧ len ≤ cap ∧ cap ≤ maxLen
/-- How many links and limbs. -/
def lensL : List Lr → Nat
  | [] => 0
  | z :: zs => z.len + lensL zs
theorem lensL_app (a b : List Lr) : lensL (a ++ b) = lensL a + lensL b := by
  induction a with
  | nil => simp [lensL]
  | cons z r ih => simp [lensL, ih]; omega
theorem lensL_take_succ {zs : List Lr} {k : Nat} {z : Lr} (h : zs[k]? = some z) : lensL (zs.take (k + 1)) = lensL (zs.take k) + z.len := by
  obtain ⟨hk, e⟩ := List.getElem?_eq_some_iff.mp h
  rw [List.take_succ_eq_append_getElem hk, lensL_app, e]; simp [lensL]
theorem lensL_take_le (zs : List Lr) (k : Nat) : lensL (zs.take k) ≤ lensL zs := by
  have := lensL_app (zs.take k) (zs.drop k)
  rw [List.take_append_drop] at this; omega
theorem len_le {zs : List Lr} {k : Nat} {z : Lr} (h : zs[k]? = some z) : z.len ≤ lensL zs := by
  have h1 := lensL_take_succ h
  have h2 := lensL_take_le zs (k + 1)
  omega
set_option maxRecDepth 100000 in
set_option maxHeartbeats 4000000 in
theorem szLinkS_any (A : Option Addr) (n c : Nat) (zs : List Lr) (k : Int) (w : World) (h0 : 0 ≤ k) (h1 : k ≤ 1048576) (hA : LRow w A n zs) (hn : n ≤ 9223372036854775807) :
    Calls Try.prog 16 #[.slice A n c, .int .i64 k] w fun e w' => e = .returned (.int .i64 (szOf k (n + lensL zs))) ∧ Below w.heap.size w w' := by
  have HA := Lib.hid hA
  clear hA
  by_cases h : k < n
  · rw [szOf_neg (show k < ((n + lensL zs : Nat) : Int) by omega)]
    go_enter Try.func16, Try.ntmps16
    go_wp2
    go_ret
    exact ⟨rfl, Below.refl _ _⟩
  · go_enter Try.func16, Try.ntmps16
    go_wp2
    go_loopw [5, 1] (fun i l wr => ∃ (j : Nat) (m : Int), j ≤ n ∧ i = .int .i64 j ∧ l = .int .i64 m ∧ m = k - n - (lensL (zs.take j) : Int) ∧ 0 ≤ m ∧ Below w.heap.size w wr) (fun i _ _ => n - (intOf i).toNat)
    case atStart => exact ⟨0, k - n, Nat.zero_le _, rfl, rfl, by simp [lensL], by omega, Below.refl _ _⟩
    case round =>
      obtain ⟨j, m, hj, rfl, rfl, hm, hm0, hb⟩ := hrel
      have HB := Lib.hid hb
      have HM := Lib.hid hm
      have hm1 : m ≤ 1048576 := by omega
      clear hb hm
      by_cases hlt : j < n
      · obtain ⟨g, o, z, rfl, hg, hz, hr, hc⟩ := (HA.out.below HB.out).at_ hlt
        have HZ := Lib.hid hz
        have HR := Lib.hid hr
        clear hz hr
        have c0 : wr.cell? ⟨g, o + j * 11, none⟩ = some (.int .i64 z.A) := hc 0 _ rfl
        have c1 : wr.cell? ⟨g, o + j * 11 + 1, none⟩ = some (.int .i64 z.B) := hc 1 _ rfl
        have c2 : wr.cell? ⟨g, o + j * 11 + 2, none⟩ = some (.bool z.P.s) := hc 2 _ rfl
        have c3 : wr.cell? ⟨g, o + j * 11 + 3, none⟩ = some (z.p0) := hc 3 _ rfl
        have c4 : wr.cell? ⟨g, o + j * 11 + 4, none⟩ = some (z.p1) := hc 4 _ rfl
        have c5 : wr.cell? ⟨g, o + j * 11 + 5, none⟩ = some (.bool z.Q.s) := hc 5 _ rfl
        have c6 : wr.cell? ⟨g, o + j * 11 + 6, none⟩ = some (z.q0) := hc 6 _ rfl
        have c7 : wr.cell? ⟨g, o + j * 11 + 7, none⟩ = some (z.q1) := hc 7 _ rfl
        have c8 : wr.cell? ⟨g, o + j * 11 + 8, none⟩ = some (.bool z.R.s) := hc 8 _ rfl
        have c9 : wr.cell? ⟨g, o + j * 11 + 9, none⟩ = some (z.r0) := hc 9 _ rfl
        have c10 : wr.cell? ⟨g, o + j * 11 + 10, none⟩ = some (z.r1) := hc 10 _ rfl
        clear hc
        go_wp2_with fail
        refine (szLink_f z.A z.B z.P z.Q z.R z.p0 z.p1 z.q0 z.q1 z.r0 z.r1 _ m hm0 hm1 HR.out).mono ?_
        rintro e w2 ⟨rfl, hb⟩
        have HB2 := Lib.hid (HB.out.trans (hb.mono HB.out.size))
        clear hb c0 c1 c2 c3 c4 c5 c6 c7 c8 c9 c10
        have e1 := lensL_take_succ HZ.out
        have e2 := lensL_take_le zs (j + 1)
        have hlen : z.P.len + z.Q.len + z.R.len = z.len := rfl
        rw [hlen]
        by_cases hs : m < (z.len : Int)
        · rw [szOf_neg hs]
          have HE := Lib.hid (show szOf k (n + lensL zs) = -1 from szOf_neg (by have := HM.out; omega))
          clear e1 e2 hs hlen
          go_wp2
          go_ret
          exact ⟨ret_int HE.out.symm, HB2.out⟩
        · rw [szOf_pos hs]
          have HE := Lib.hid (show m - (z.len : Int) = k - n - (lensL (zs.take (j + 1)) : Int) by have := HM.out; omega)
          obtain ⟨m2, hm2⟩ : ∃ q : Int, m - (z.len : Int) = q := ⟨_, rfl⟩
          have hm3 : 0 ≤ m2 := by omega
          rw [hm2] at HE ⊢
          clear e1 e2 hs hlen hm2
          go_wp2
          exact ⟨⟨j + 1, m2, by omega, by go_num, rfl, HE.out, hm3, HB2.out⟩, by simp [intOf]; omega⟩
      · obtain rfl : j = n := by omega
        have hl : zs.take j = zs := by rw [List.take_of_length_le (by rw [HA.out.1]; exact Nat.le_refl _)]
        have HE := Lib.hid (show m = szOf k (j + lensL zs) by rw [szOf_pos (by have := HM.out; rw [hl] at this; omega)]; have := HM.out; rw [hl] at this; omega)
        clear hl
        go_wp2
        go_ret
        exact ⟨ret_int HE.out, HB.out⟩
set_option maxRecDepth 100000 in
set_option maxHeartbeats 4000000 in
theorem eqLinkS_same (A B : Option Addr) (n c d : Nat) (ys zs : List Lr) (w : World) (hA : LRow w A n ys) (hB : LRow w B n zs) (hlk : ∀ (i : Nat) (y z : Lr), ys[i]? = some y → zs[i]? = some z → y.like z) (hn : n ≤ 1048576) :
    Calls Try.prog 20 #[.slice A n c, .slice B n d] w fun e w' => e = .returned (.bool true) ∧ Below w.heap.size w w' := by
  have HA := Lib.hid hA
  have HB := Lib.hid hB
  have HK := Lib.hid hlk
  clear hA hB hlk
  go_enter Try.func20, Try.ntmps20
  go_wp2
  go_loopw [5] (fun i wr => ∃ k : Nat, k ≤ n ∧ i = .int .i64 k ∧ Below w.heap.size w wr) (fun i _ => n - (intOf i).toNat)
  case atStart => exact ⟨0, Nat.zero_le _, rfl, Below.refl _ _⟩
  case round =>
    obtain ⟨k, hk, rfl, hb⟩ := hrel
    have HW := Lib.hid hb
    clear hb
    by_cases hlt : k < n
    · obtain ⟨g, o, y, rfl, hg, hy, hry, hc⟩ := (HA.out.below HW.out).at_ hlt
      obtain ⟨g', o', z, rfl, hg', hz, hrz, hd⟩ := (HB.out.below HW.out).at_ hlt
      have hl := HK.out k y z hy hz
      clear hy hz
      obtain ⟨YA, YB, YP, YQ, YR, y0, y1, y2, y3, y4, y5⟩ := y
      obtain ⟨ZA, ZB, ZP, ZQ, ZR, z0, z1, z2, z3, z4, z5⟩ := z
      obtain ⟨e1, e2, e3, e4, e5⟩ := hl
      simp only at e1 e2 e3 e4 e5
      subst e1 e2 e3 e4 e5
      have HRY := Lib.hid (show LkI wr YP YQ YR y0 y1 y2 y3 y4 y5 from hry)
      have HRZ := Lib.hid (show LkI wr YP YQ YR z0 z1 z2 z3 z4 z5 from hrz)
      have hk0 : (0 : Int) ≤ (k : Int) := by omega
      have hk1 : (k : Int) < (n : Int) := by omega
      have c0 : wr.cell? ⟨g, o + k * 11, none⟩ = some (.int .i64 YA) := hc 0 _ rfl
      have c1 : wr.cell? ⟨g, o + k * 11 + 1, none⟩ = some (.int .i64 YB) := hc 1 _ rfl
      have c2 : wr.cell? ⟨g, o + k * 11 + 2, none⟩ = some (.bool YP.s) := hc 2 _ rfl
      have c3 : wr.cell? ⟨g, o + k * 11 + 3, none⟩ = some (y0) := hc 3 _ rfl
      have c4 : wr.cell? ⟨g, o + k * 11 + 4, none⟩ = some (y1) := hc 4 _ rfl
      have c5 : wr.cell? ⟨g, o + k * 11 + 5, none⟩ = some (.bool YQ.s) := hc 5 _ rfl
      have c6 : wr.cell? ⟨g, o + k * 11 + 6, none⟩ = some (y2) := hc 6 _ rfl
      have c7 : wr.cell? ⟨g, o + k * 11 + 7, none⟩ = some (y3) := hc 7 _ rfl
      have c8 : wr.cell? ⟨g, o + k * 11 + 8, none⟩ = some (.bool YR.s) := hc 8 _ rfl
      have c9 : wr.cell? ⟨g, o + k * 11 + 9, none⟩ = some (y4) := hc 9 _ rfl
      have c10 : wr.cell? ⟨g, o + k * 11 + 10, none⟩ = some (y5) := hc 10 _ rfl
      have d0 : wr.cell? ⟨g', o' + k * 11, none⟩ = some (.int .i64 YA) := hd 0 _ rfl
      have d1 : wr.cell? ⟨g', o' + k * 11 + 1, none⟩ = some (.int .i64 YB) := hd 1 _ rfl
      have d2 : wr.cell? ⟨g', o' + k * 11 + 2, none⟩ = some (.bool YP.s) := hd 2 _ rfl
      have d3 : wr.cell? ⟨g', o' + k * 11 + 3, none⟩ = some (z0) := hd 3 _ rfl
      have d4 : wr.cell? ⟨g', o' + k * 11 + 4, none⟩ = some (z1) := hd 4 _ rfl
      have d5 : wr.cell? ⟨g', o' + k * 11 + 5, none⟩ = some (.bool YQ.s) := hd 5 _ rfl
      have d6 : wr.cell? ⟨g', o' + k * 11 + 6, none⟩ = some (z2) := hd 6 _ rfl
      have d7 : wr.cell? ⟨g', o' + k * 11 + 7, none⟩ = some (z3) := hd 7 _ rfl
      have d8 : wr.cell? ⟨g', o' + k * 11 + 8, none⟩ = some (.bool YR.s) := hd 8 _ rfl
      have d9 : wr.cell? ⟨g', o' + k * 11 + 9, none⟩ = some (z4) := hd 9 _ rfl
      have d10 : wr.cell? ⟨g', o' + k * 11 + 10, none⟩ = some (z5) := hd 10 _ rfl
      clear hc hd hry hrz
      go_wp2
      go_region_held3 (fun w' => w'.cell? ⟨g, o + k * 11, none⟩ = some (.int .i64 YA) ∧ w'.cell? ⟨g, o + k * 11 + 1, none⟩ = some (.int .i64 YB) ∧ w'.cell? ⟨g, o + k * 11 + 2, none⟩ = some (.bool YP.s) ∧ w'.cell? ⟨g, o + k * 11 + 3, none⟩ = some (y0) ∧ w'.cell? ⟨g, o + k * 11 + 4, none⟩ = some (y1) ∧ w'.cell? ⟨g, o + k * 11 + 5, none⟩ = some (.bool YQ.s) ∧ w'.cell? ⟨g, o + k * 11 + 6, none⟩ = some (y2) ∧ w'.cell? ⟨g, o + k * 11 + 7, none⟩ = some (y3) ∧ w'.cell? ⟨g, o + k * 11 + 8, none⟩ = some (.bool YR.s) ∧ w'.cell? ⟨g, o + k * 11 + 9, none⟩ = some (y4) ∧ w'.cell? ⟨g, o + k * 11 + 10, none⟩ = some (y5) ∧ w'.cell? ⟨g', o' + k * 11, none⟩ = some (.int .i64 YA) ∧ w'.cell? ⟨g', o' + k * 11 + 1, none⟩ = some (.int .i64 YB) ∧ w'.cell? ⟨g', o' + k * 11 + 2, none⟩ = some (.bool YP.s) ∧ w'.cell? ⟨g', o' + k * 11 + 3, none⟩ = some (z0) ∧ w'.cell? ⟨g', o' + k * 11 + 4, none⟩ = some (z1) ∧ w'.cell? ⟨g', o' + k * 11 + 5, none⟩ = some (.bool YQ.s) ∧ w'.cell? ⟨g', o' + k * 11 + 6, none⟩ = some (z2) ∧ w'.cell? ⟨g', o' + k * 11 + 7, none⟩ = some (z3) ∧ w'.cell? ⟨g', o' + k * 11 + 8, none⟩ = some (.bool YR.s) ∧ w'.cell? ⟨g', o' + k * 11 + 9, none⟩ = some (z4) ∧ w'.cell? ⟨g', o' + k * 11 + 10, none⟩ = some (z5)) (go_keep)
        (first
          | (go_at_call 11
             refine (eqLink_f YA YB YP YQ YR y0 y1 y2 y3 y4 y5 z0 z1 z2 z3 z4 z5 _ (HRY.out.below ((Below.refl _ _).drew)) (HRZ.out.below ((Below.refl _ _).drew))).mono ?_
             rintro e w2 ⟨rfl, hb⟩
             have HW2 := Lib.hid (HW.out.drew.trans (hb.mono HW.out.drew.size))
             have ec0 := (hb.cell (p := ⟨g, o + k * 11, none⟩) hg).trans c0
             have ec1 := (hb.cell (p := ⟨g, o + k * 11 + 1, none⟩) hg).trans c1
             have ec2 := (hb.cell (p := ⟨g, o + k * 11 + 2, none⟩) hg).trans c2
             have ec3 := (hb.cell (p := ⟨g, o + k * 11 + 3, none⟩) hg).trans c3
             have ec4 := (hb.cell (p := ⟨g, o + k * 11 + 4, none⟩) hg).trans c4
             have ec5 := (hb.cell (p := ⟨g, o + k * 11 + 5, none⟩) hg).trans c5
             have ec6 := (hb.cell (p := ⟨g, o + k * 11 + 6, none⟩) hg).trans c6
             have ec7 := (hb.cell (p := ⟨g, o + k * 11 + 7, none⟩) hg).trans c7
             have ec8 := (hb.cell (p := ⟨g, o + k * 11 + 8, none⟩) hg).trans c8
             have ec9 := (hb.cell (p := ⟨g, o + k * 11 + 9, none⟩) hg).trans c9
             have ec10 := (hb.cell (p := ⟨g, o + k * 11 + 10, none⟩) hg).trans c10
             have ed0 := (hb.cell (p := ⟨g', o' + k * 11, none⟩) hg').trans d0
             have ed1 := (hb.cell (p := ⟨g', o' + k * 11 + 1, none⟩) hg').trans d1
             have ed2 := (hb.cell (p := ⟨g', o' + k * 11 + 2, none⟩) hg').trans d2
             have ed3 := (hb.cell (p := ⟨g', o' + k * 11 + 3, none⟩) hg').trans d3
             have ed4 := (hb.cell (p := ⟨g', o' + k * 11 + 4, none⟩) hg').trans d4
             have ed5 := (hb.cell (p := ⟨g', o' + k * 11 + 5, none⟩) hg').trans d5
             have ed6 := (hb.cell (p := ⟨g', o' + k * 11 + 6, none⟩) hg').trans d6
             have ed7 := (hb.cell (p := ⟨g', o' + k * 11 + 7, none⟩) hg').trans d7
             have ed8 := (hb.cell (p := ⟨g', o' + k * 11 + 8, none⟩) hg').trans d8
             have ed9 := (hb.cell (p := ⟨g', o' + k * 11 + 9, none⟩) hg').trans d9
             have ed10 := (hb.cell (p := ⟨g', o' + k * 11 + 10, none⟩) hg').trans d10
             clear hb))
      all_goals go_wp2
      all_goals exact ⟨⟨k + 1, by omega, by go_num, HW2.out⟩, by simp [intOf]; omega⟩
    · go_wp2
      go_ret
      exact ⟨rfl, HW.out⟩
/-- A cell of the first block is written, behind X. -/
theorem St.setAt {w0 w : World} {bs : List (Nat × List Value)} {cs : List Chunk} {b m : Nat} {X rest : List Value} {u : Value} (h : St w0 w ((b, X ++ (u :: rest)) :: bs) cs) (v : Value) (hm : X.length = m) : St w0 (w.setCell ⟨b, m, none⟩ v) ((b, (X ++ [v]) ++ rest) :: bs) cs := by
  subst hm
  have := h.set 0 X.length (u := u) v rfl (by simp)
  simpa [List.set_append] using this
theorem St.join {w0 w : World} {bs : List (Nat × List Value)} {cs : List Chunk} {l m : Chunk} (h : St w0 w bs (l :: m :: cs)) : St w0 w bs ((m ++ l) :: cs) := by
  have hc := List.pairwise_cons.mp h.cc
  have hd := List.pairwise_cons.mp hc.2
  refine ⟨h.below, h.box, fun q hq => ?_, h.bb, List.pairwise_cons.mpr ⟨fun q hq p hp => ?_, hd.2⟩, fun p hp q hq r hr => ?_⟩
  · rcases List.mem_cons.mp hq with rfl | a
    · exact (h.row m (by simp)).app (h.row l (by simp)) ((hc.1 m (by simp)).symm)
    · exact h.row q (by simp [a])
  · rcases List.mem_append.mp hp with a | a
    · exact hd.1 q hq p a
    · exact hc.1 q (by simp [hq]) p a
  · rcases List.mem_cons.mp hq with rfl | a
    · rcases List.mem_append.mp hr with a | a
      · exact h.br p hp m (by simp) r a
      · exact h.br p hp l (by simp) r a
    · exact h.br p hp q (by simp [a]) r hr
/-- Links that have not been written yet. -/
def zerosK : Nat → List Value
  | 0 => []
  | n + 1 => [.int .i64 0, .int .i64 0, .bool false, .slice none 0 0, .slice none 0 0, .bool false, .slice none 0 0, .slice none 0 0, .bool false, .slice none 0 0, .slice none 0 0] ++ zerosK n
theorem zerosK_len (n : Nat) : (zerosK n).length = n * 11 := by
  induction n with
  | zero => rfl
  | succ n ih => simp [zerosK, ih]; omega
def cellsL (ys : List Lr) : List Value := ys.flatMap Lr.cells
def rowsL (ys : List Lr) : Chunk := ys.flatMap Lr.rows
theorem cellsL_len (ys : List Lr) : (cellsL ys).length = ys.length * 11 := by
  induction ys with
  | nil => rfl
  | cons y r ih => simp [cellsL] at ih ⊢; rw [ih]; simp [Lr.cells]; omega
theorem cellsL_at {ys : List Lr} {k : Nat} {y : Lr} (h : ys[k]? = some y) (j : Nat) {v : Value} (hj : y.cells[j]? = some v) : (cellsL ys)[k * 11 + j]? = some v := by
  induction ys generalizing k with
  | nil => simp at h
  | cons x r ih =>
    have hl : x.cells.length = 11 := rfl
    have hj11 : j < 11 := by have := (List.getElem?_eq_some_iff.mp hj).1; simpa [Lr.cells] using this
    cases k with
    | zero =>
      simp at h; subst h
      rw [show cellsL (x :: r) = x.cells ++ cellsL r by simp [cellsL], Nat.zero_mul, Nat.zero_add, List.getElem?_append_left (by omega)]; exact hj
    | succ k =>
      simp at h
      rw [show cellsL (x :: r) = x.cells ++ cellsL r by simp [cellsL], List.getElem?_append_right (by omega), hl, show (k + 1) * 11 + j - 11 = k * 11 + j by omega]
      exact ih h
/-- What a function leaves that answers links. -/
def OwnL (zs : List Lr) (w : World) (e : Ending) (w' : World) : Prop :=
  ∃ b ys, e = .returned (.slice (some ⟨b, 0, none⟩) zs.length zs.length) ∧ ys.length = zs.length ∧ (∀ (i : Nat) (y z : Lr), ys[i]? = some y → zs[i]? = some z → y.like z) ∧ St w w' [(b, cellsL ys)] [rowsL ys]
theorem rowsL_rd {w : World} {base : Nat} {ys : List Lr} (h : Owns w base (rowsL ys)) : ∀ y ∈ ys, y.rd w := by
  intro y hy
  have : Owns w base y.rows := by
    obtain ⟨a, b, rfl⟩ := List.append_of_mem hy
    exact h.part (rowsL a) y.rows (rowsL b) (by simp [rowsL])
  exact this.lk.i
theorem St.lrow {w0 w : World} {bs : List (Nat × List Value)} {cs : List Chunk} (h : St w0 w bs cs) (i k : Nat) {b : Nat} {ys : List Lr} (e : bs[i]? = some (b, cellsL ys)) (e2 : cs[k]? = some (rowsL ys)) : LRow w (some ⟨b, 0, none⟩) ys.length ys :=
  ⟨rfl, fun _ => ⟨b, 0, rfl, h.lt i e, fun m hm j v hj => by rw [Nat.zero_add]; exact h.cell i _ e (cellsL_at (List.getElem?_eq_getElem hm) j hj)⟩, rowsL_rd (h.own k e2)⟩
theorem like_rows_len {y z : Lr} (h : y.like z) : y.len = z.len := by obtain ⟨_, _, h3, h4, h5⟩ := h; unfold Lr.len; rw [h3, h4, h5]
theorem info_link : (Try.prog.info? 35).map (fun i => (i.zero, i.size, i.bytes)) = some (some (.agg #[.int .i64 0, .int .i64 0, .bool false, .slice none 0 0, .slice none 0 0, .bool false, .slice none 0 0, .slice none 0 0, .bool false, .slice none 0 0, .slice none 0 0]), 11, 184) := by kernel_rfl
theorem zerosK_at (n i : Nat) (h : i < n * 11) : (zerosK n)[i]? = some ((#[.int .i64 0, .int .i64 0, .bool false, .slice none 0 0, .slice none 0 0, .bool false, .slice none 0 0, .slice none 0 0, .bool false, .slice none 0 0, .slice none 0 0] : Array Value)[i % 11]!) := by
  induction n generalizing i with
  | zero => omega
  | succ n ih =>
    by_cases hi : i < 11
    · rw [show zerosK (n + 1) = [.int .i64 0, .int .i64 0, .bool false, .slice none 0 0, .slice none 0 0, .bool false, .slice none 0 0, .slice none 0 0, .bool false, .slice none 0 0, .slice none 0 0] ++ zerosK n from rfl, List.getElem?_append_left (by simpa using hi), Nat.mod_eq_of_lt hi]
      match i, hi with
      | 0, _ => rfl
      | 1, _ => rfl
      | 2, _ => rfl
      | 3, _ => rfl
      | 4, _ => rfl
      | 5, _ => rfl
      | 6, _ => rfl
      | 7, _ => rfl
      | 8, _ => rfl
      | 9, _ => rfl
      | 10, _ => rfl
    · rw [show zerosK (n + 1) = [.int .i64 0, .int .i64 0, .bool false, .slice none 0 0, .slice none 0 0, .bool false, .slice none 0 0, .slice none 0 0, .bool false, .slice none 0 0, .slice none 0 0] ++ zerosK n from rfl, List.getElem?_append_right (by simpa using hi)]
      have := ih (i - 11) (by omega)
      rw [show ([.int .i64 0, .int .i64 0, .bool false, .slice none 0 0, .slice none 0 0, .bool false, .slice none 0 0, .slice none 0 0, .bool false, .slice none 0 0, .slice none 0 0] : List Value).length = 11 from rfl, this, show (i - 11) % 11 = i % 11 by omega]
theorem made_zeros (n : Nat) : (madeCells (Value.agg #[.int .i64 0, .int .i64 0, .bool false, .slice none 0 0, .slice none 0 0, .bool false, .slice none 0 0, .slice none 0 0, .bool false, .slice none 0 0, .slice none 0 0]).cells (n * 11)).toList = zerosK n := by
  apply List.ext_getElem?
  intro i
  by_cases hi : i < n * 11
  · rw [zerosK_at n i hi]
    simp [madeCells, hi, Value.cells]
  · rw [List.getElem?_eq_none (by simp [madeCells]; omega), List.getElem?_eq_none (by rw [zerosK_len]; omega)]
theorem mid_at {X rest : List Value} {m : Nat} (hX : X.length = m) (i : Nat) {v : Value} (hv : ([.int .i64 0, .int .i64 0, .bool false, .slice none 0 0, .slice none 0 0, .bool false, .slice none 0 0, .slice none 0 0, .bool false, .slice none 0 0, .slice none 0 0] : List Value)[i]? = some v) : (X ++ ([.int .i64 0, .int .i64 0, .bool false, .slice none 0 0, .slice none 0 0, .bool false, .slice none 0 0, .slice none 0 0, .bool false, .slice none 0 0, .slice none 0 0] ++ rest))[m + i]? = some v := by
  subst hX
  have hi : i < 11 := by have := (List.getElem?_eq_some_iff.mp hv).1; simpa using this
  rw [List.getElem?_append_right (by omega), Nat.add_sub_cancel_left, List.getElem?_append_left (by simpa using hi)]; exact hv
set_option maxRecDepth 100000 in
set_option maxHeartbeats 4000000 in
theorem toLinkS_any (A : Option Addr) (n c : Nat) (zs : List Lr) (w : World) (hA : LRow w A n zs) (hn : n + lensL zs ≤ 1048576) :
    Calls Try.prog 18 #[.slice A n c] w (OwnL zs w) := by
  obtain ⟨i0, hi, hz0, hz1, hz2⟩ := info_parts info_link
  have HL := Lib.hid hA.1
  have HA := Lib.hid hA
  have HN := Lib.hid hn
  have hn' : n ≤ 1048576 := by omega
  clear hA hn
  go_enter Try.func18, Try.ntmps18
  go_wp2_with (at_make; refine wpList_make_full _ rfl _ _ _ rfl w.heap.size 35 i0 _ 11 Try.underlying46 hi hz0 hz1 .i64 .i64 _ _ n rfl rfl rfl rfl (by rw [hz2]; omega) (by unfold maxLen; omega) (Nat.le_refl _) ?_; intro w1 hown hgrow)
  rw [made_zeros] at hown
  have hP : HeldL w1 w.heap.size (zerosK n) := by
    refine ⟨(hown.lt w.heap.size rfl).2, fun j v hj => ?_, fun j v hj => hown.frozenAt j⟩
    have hj' := (List.getElem?_eq_some_iff.mp hj).1
    rw [zerosK_len] at hj'
    rw [hown.cellAt j (by omega)]; exact hj
  have S_0 := Lib.hid (((St.start w).boxed ((Below.refl w.heap.size w).grown hgrow (Nat.le_refl _) (by simp)) hP (Nat.le_refl _)).nils 0)
  clear hown hgrow hP hi hz0 hz1 hz2
  go_wp2
  go_loopw [4] (fun i wr => ∃ (j : Nat) (ys : List Lr), j ≤ n ∧ i = .int .i64 j ∧ ys.length = j ∧ (∀ (q : Nat) (y z : Lr), ys[q]? = some y → zs[q]? = some z → y.like z) ∧ St w wr [(w.heap.size, cellsL ys ++ zerosK (n - j))] [rowsL ys]) (fun i _ => n - (intOf i).toNat)
  case atStart => exact ⟨0, [], Nat.zero_le _, rfl, rfl, by simp, S_0.out⟩
  case round =>
    obtain ⟨j, ys, hj, rfl, hy, hlk, hst⟩ := hrel
    have S_1 := Lib.hid hst
    have HY := Lib.hid hy
    have HK := Lib.hid hlk
    clear hst hy hlk
    by_cases hlt : j < n
    · obtain ⟨m, hm⟩ : ∃ m, n - j = m + 1 := ⟨n - j - 1, by omega⟩
      have hm' : n - (j + 1) = m := by omega
      rw [hm] at S_1
      have HM := Lib.hid hm'
      clear hm hm'
      obtain ⟨g, o, z, rfl, hg, hz, hr, hc⟩ := (HA.out.below S_1.out.below).at_ hlt
      have HZ := Lib.hid hz
      have HR := Lib.hid hr
      have HZL := Lib.hid (show z.P.len + z.Q.len + z.R.len ≤ 1048576 by have := len_le hz; have := HN.out; unfold Lr.len at *; omega)
      clear hz hr
      have c0 : wr.cell? ⟨g, o + j * 11, none⟩ = some (.int .i64 z.A) := hc 0 _ rfl
      have c1 : wr.cell? ⟨g, o + j * 11 + 1, none⟩ = some (.int .i64 z.B) := hc 1 _ rfl
      have c2 : wr.cell? ⟨g, o + j * 11 + 2, none⟩ = some (.bool z.P.s) := hc 2 _ rfl
      have c3 : wr.cell? ⟨g, o + j * 11 + 3, none⟩ = some (z.p0) := hc 3 _ rfl
      have c4 : wr.cell? ⟨g, o + j * 11 + 4, none⟩ = some (z.p1) := hc 4 _ rfl
      have c5 : wr.cell? ⟨g, o + j * 11 + 5, none⟩ = some (.bool z.Q.s) := hc 5 _ rfl
      have c6 : wr.cell? ⟨g, o + j * 11 + 6, none⟩ = some (z.q0) := hc 6 _ rfl
      have c7 : wr.cell? ⟨g, o + j * 11 + 7, none⟩ = some (z.q1) := hc 7 _ rfl
      have c8 : wr.cell? ⟨g, o + j * 11 + 8, none⟩ = some (.bool z.R.s) := hc 8 _ rfl
      have c9 : wr.cell? ⟨g, o + j * 11 + 9, none⟩ = some (z.r0) := hc 9 _ rfl
      have c10 : wr.cell? ⟨g, o + j * 11 + 10, none⟩ = some (z.r1) := hc 10 _ rfl
      clear hc
      go_wp2_with fail
      refine (toLink_f z.A z.B z.P z.Q z.R z.p0 z.p1 z.q0 z.q1 z.r0 z.r1 _ HR.out HZL.out).mono ?_
      rintro e w2 ⟨v0, v1, v2, v3, v4, v5, rfl, ho, hb⟩
      obtain ⟨A0, n0, k0, rfl⟩ := (ho.at_ 0 rfl).shape3
      obtain ⟨A1, n1, k1, rfl⟩ := (ho.at_ 1 rfl).shape3
      obtain ⟨A2, n2, k2, rfl⟩ := (ho.at_ 2 rfl).shape3
      obtain ⟨A3, n3, k3, rfl⟩ := (ho.at_ 3 rfl).shape3
      obtain ⟨A4, n4, k4, rfl⟩ := (ho.at_ 4 rfl).shape3
      obtain ⟨A5, n5, k5, rfl⟩ := (ho.at_ 5 rfl).shape3
      have S_2 := Lib.hid (S_1.out.rows ho hb)
      have HX := Lib.hid (show (cellsL ys).length = j * 11 by rw [cellsL_len, HY.out])
      clear ho hb S_1 c0 c1 c2 c3 c4 c5 c6 c7 c8 c9 c10
      have d0 : w2.cell? ⟨w.heap.size, j * 11, none⟩ = some (.int .i64 0) := S_2.out.cell 0 (j * 11 + 0) rfl (mid_at HX.out 0 rfl)
      have f0 : w2.frozen? ⟨w.heap.size, j * 11, none⟩ = false := S_2.out.froz 0 (j * 11 + 0) rfl (mid_at HX.out 0 rfl)
      have d1 : w2.cell? ⟨w.heap.size, j * 11 + 1, none⟩ = some (.int .i64 0) := S_2.out.cell 0 (j * 11 + 1) rfl (mid_at HX.out 1 rfl)
      have f1 : w2.frozen? ⟨w.heap.size, j * 11 + 1, none⟩ = false := S_2.out.froz 0 (j * 11 + 1) rfl (mid_at HX.out 1 rfl)
      have d2 : w2.cell? ⟨w.heap.size, j * 11 + 2, none⟩ = some (.bool false) := S_2.out.cell 0 (j * 11 + 2) rfl (mid_at HX.out 2 rfl)
      have f2 : w2.frozen? ⟨w.heap.size, j * 11 + 2, none⟩ = false := S_2.out.froz 0 (j * 11 + 2) rfl (mid_at HX.out 2 rfl)
      have d3 : w2.cell? ⟨w.heap.size, j * 11 + 3, none⟩ = some (.slice none 0 0) := S_2.out.cell 0 (j * 11 + 3) rfl (mid_at HX.out 3 rfl)
      have f3 : w2.frozen? ⟨w.heap.size, j * 11 + 3, none⟩ = false := S_2.out.froz 0 (j * 11 + 3) rfl (mid_at HX.out 3 rfl)
      have d4 : w2.cell? ⟨w.heap.size, j * 11 + 4, none⟩ = some (.slice none 0 0) := S_2.out.cell 0 (j * 11 + 4) rfl (mid_at HX.out 4 rfl)
      have f4 : w2.frozen? ⟨w.heap.size, j * 11 + 4, none⟩ = false := S_2.out.froz 0 (j * 11 + 4) rfl (mid_at HX.out 4 rfl)
      have d5 : w2.cell? ⟨w.heap.size, j * 11 + 5, none⟩ = some (.bool false) := S_2.out.cell 0 (j * 11 + 5) rfl (mid_at HX.out 5 rfl)
      have f5 : w2.frozen? ⟨w.heap.size, j * 11 + 5, none⟩ = false := S_2.out.froz 0 (j * 11 + 5) rfl (mid_at HX.out 5 rfl)
      have d6 : w2.cell? ⟨w.heap.size, j * 11 + 6, none⟩ = some (.slice none 0 0) := S_2.out.cell 0 (j * 11 + 6) rfl (mid_at HX.out 6 rfl)
      have f6 : w2.frozen? ⟨w.heap.size, j * 11 + 6, none⟩ = false := S_2.out.froz 0 (j * 11 + 6) rfl (mid_at HX.out 6 rfl)
      have d7 : w2.cell? ⟨w.heap.size, j * 11 + 7, none⟩ = some (.slice none 0 0) := S_2.out.cell 0 (j * 11 + 7) rfl (mid_at HX.out 7 rfl)
      have f7 : w2.frozen? ⟨w.heap.size, j * 11 + 7, none⟩ = false := S_2.out.froz 0 (j * 11 + 7) rfl (mid_at HX.out 7 rfl)
      have d8 : w2.cell? ⟨w.heap.size, j * 11 + 8, none⟩ = some (.bool false) := S_2.out.cell 0 (j * 11 + 8) rfl (mid_at HX.out 8 rfl)
      have f8 : w2.frozen? ⟨w.heap.size, j * 11 + 8, none⟩ = false := S_2.out.froz 0 (j * 11 + 8) rfl (mid_at HX.out 8 rfl)
      have d9 : w2.cell? ⟨w.heap.size, j * 11 + 9, none⟩ = some (.slice none 0 0) := S_2.out.cell 0 (j * 11 + 9) rfl (mid_at HX.out 9 rfl)
      have f9 : w2.frozen? ⟨w.heap.size, j * 11 + 9, none⟩ = false := S_2.out.froz 0 (j * 11 + 9) rfl (mid_at HX.out 9 rfl)
      have d10 : w2.cell? ⟨w.heap.size, j * 11 + 10, none⟩ = some (.slice none 0 0) := S_2.out.cell 0 (j * 11 + 10) rfl (mid_at HX.out 10 rfl)
      have f10 : w2.frozen? ⟨w.heap.size, j * 11 + 10, none⟩ = false := S_2.out.froz 0 (j * 11 + 10) rfl (mid_at HX.out 10 rfl)
      go_wp2
      refine ⟨⟨j + 1, ys ++ [⟨z.A, z.B, z.P, z.Q, z.R, (.slice A0 n0 k0), (.slice A1 n1 k1), (.slice A2 n2 k2), (.slice A3 n3 k3), (.slice A4 n4 k4), (.slice A5 n5 k5)⟩], by omega, by go_num, by simp [HY.out], ?_, ?_⟩, by simp [intOf]; omega⟩
      · intro q y z' h1 h2
        rw [List.getElem?_append] at h1
        split at h1
        · exact HK.out q y z' h1 h2
        · rename_i hq
          have hq2 := (List.getElem?_eq_some_iff.mp h1).1
          obtain rfl : q = j := by have := HY.out; simp at hq2; omega
          have : y = ⟨z.A, z.B, z.P, z.Q, z.R, (.slice A0 n0 k0), (.slice A1 n1 k1), (.slice A2 n2 k2), (.slice A3 n3 k3), (.slice A4 n4 k4), (.slice A5 n5 k5)⟩ := by rw [HY.out, Nat.sub_self] at h1; simpa using h1.symm
          rw [HZ.out] at h2
          obtain rfl := Option.some.inj h2
          rw [this]; exact ⟨rfl, rfl, rfl, rfl, rfl⟩
      · have hX := HX.out
        have S_3 := S_2.out.join
        rw [show zerosK (m + 1) = [.int .i64 0, .int .i64 0, .bool false, .slice none 0 0, .slice none 0 0, .bool false, .slice none 0 0, .slice none 0 0, .bool false, .slice none 0 0, .slice none 0 0] ++ zerosK m from rfl] at S_3
        have T := S_3.setSeg (k := 0) (us := [.int .i64 z.A, .int .i64 z.B, .bool z.P.s, (.slice A0 n0 k0), (.slice A1 n1 k1), .bool z.Q.s, (.slice A2 n2 k2), (.slice A3 n3 k3), .bool z.R.s, (.slice A4 n4 k4), (.slice A5 n5 k5)]) (X := cellsL ys) (old := [.int .i64 0, .int .i64 0, .bool false, .slice none 0 0, .slice none 0 0, .bool false, .slice none 0 0, .slice none 0 0, .bool false, .slice none 0 0, .slice none 0 0]) (rest := zerosK m) (m := j * 11) rfl hX rfl
        rw [HM.out]
        have E1 : (cellsL ys ++ ([.int .i64 z.A, .int .i64 z.B, .bool z.P.s, (.slice A0 n0 k0), (.slice A1 n1 k1), .bool z.Q.s, (.slice A2 n2 k2), (.slice A3 n3 k3), .bool z.R.s, (.slice A4 n4 k4), (.slice A5 n5 k5)] ++ zerosK m)) = cellsL (ys ++ [⟨z.A, z.B, z.P, z.Q, z.R, (.slice A0 n0 k0), (.slice A1 n1 k1), (.slice A2 n2 k2), (.slice A3 n3 k3), (.slice A4 n4 k4), (.slice A5 n5 k5)⟩]) ++ zerosK m := by simp [cellsL, Lr.cells]
        have E2 : rowsL ys ++ rowsK z.P z.Q z.R (.slice A0 n0 k0) (.slice A1 n1 k1) (.slice A2 n2 k2) (.slice A3 n3 k3) (.slice A4 n4 k4) (.slice A5 n5 k5) = rowsL (ys ++ [⟨z.A, z.B, z.P, z.Q, z.R, (.slice A0 n0 k0), (.slice A1 n1 k1), (.slice A2 n2 k2), (.slice A3 n3 k3), (.slice A4 n4 k4), (.slice A5 n5 k5)⟩]) := by simp [rowsL, Lr.rows]
        rw [← E1, ← E2]
        exact T
    · go_wp2
      go_ret
      obtain rfl : j = n := by omega
      have S_9 := S_1.out
      rw [Nat.sub_self, show zerosK 0 = [] from rfl, List.append_nil] at S_9
      exact ⟨w.heap.size, ys, by rw [HL.out]; rfl, by rw [HL.out]; exact HY.out, HK.out, S_9⟩
end Go.Proofs.Ytdilbhkdkppodaa
namespace Go.Proofs.Ytdilbhkdkppodaa
open Go.RowKit Nt Fr
set_option linter.unusedVariables false

/-- How two integers compare. -/
def cmpI2 (x y : Int) : Int := if x < y then -1 else if y < x then 1 else 0
/-- How the ends of two links compare. -/
def cmpK (A B C E : Int) : Int := if cmpI2 A C ≠ 0 then cmpI2 A C else cmpI2 B E
/-- Is the first before the second? -/
def lessK (A B C E : Int) : Bool := decide (A < C) || (decide (A = C) && decide (B < E))
theorem cmpK_less (A B C E : Int) : (cmpK A B C E < 0) ↔ lessK A B C E = true := by
  unfold cmpK cmpI2 lessK
  simp only [Bool.or_eq_true, Bool.and_eq_true, decide_eq_true_eq]
  split <;> (repeat' split at *) <;> omega
theorem cmpK_zero (A B C E : Int) : cmpK A B C E = 0 ↔ (A = C ∧ B = E) := by
  unfold cmpK cmpI2
  split <;> (repeat' split at *) <;> omega
theorem cmpK_range (A B C E : Int) : -1 ≤ cmpK A B C E ∧ cmpK A B C E ≤ 1 := by
  unfold cmpK cmpI2
  split <;> (repeat' split) <;> omega
set_option maxRecDepth 100000 in
set_option maxHeartbeats 4000000 in
theorem cmpCompare_any (x y : Int) (w : World) : Calls Try.prog 77 #[.int .i64 x, .int .i64 y] w fun e w' => e = .returned (.int .i64 (cmpI2 x y)) ∧ Below w.heap.size w w' := by
  by_cases h1 : x < y
  · rw [show cmpI2 x y = -1 from if_pos h1]
    go_enter Try.func77, Try.ntmps77
    go_wp2
    all_goals go_ret
    all_goals exact ⟨rfl, Below.refl _ _⟩
  · by_cases h2 : y < x
    · rw [show cmpI2 x y = 1 by unfold cmpI2; rw [if_neg h1, if_pos h2]]
      go_enter Try.func77, Try.ntmps77
      go_wp2
      all_goals go_ret
      all_goals exact ⟨rfl, Below.refl _ _⟩
    · rw [show cmpI2 x y = 0 by unfold cmpI2; rw [if_neg h1, if_neg h2]]
      go_enter Try.func77, Try.ntmps77
      go_wp2
      all_goals go_ret
      all_goals exact ⟨rfl, Below.refl _ _⟩
set_option maxRecDepth 100000 in
set_option maxHeartbeats 4000000 in
theorem cmpOr_two (x y : Int) (g : Nat) (w : World) (h0 : w.cell? ⟨g, 0, none⟩ = some (.int .i64 x)) (h1 : w.cell? ⟨g, 1, none⟩ = some (.int .i64 y)) : Calls Try.prog 76 #[.slice (some ⟨g, 0, none⟩) 2 2] w fun e w' => e = .returned (.int .i64 (if x ≠ 0 then x else y)) ∧ Below w.heap.size w w' := by
  obtain ⟨r, hr⟩ : ∃ z, (if x ≠ 0 then x else y) = z := ⟨_, rfl⟩
  rw [hr]
  have HR := Lib.hid hr
  clear hr
  go_enter Try.func76, Try.ntmps76
  go_wp2
  go_loopw [8] (fun i wr => wr = w ∧ (i = .int .i64 0 ∨ (i = .int .i64 1 ∧ x = 0) ∨ (i = .int .i64 2 ∧ x = 0 ∧ y = 0))) (fun i _ => 2 - (intOf i).toNat)
  case atStart => exact ⟨rfl, .inl rfl⟩
  case round =>
    obtain ⟨hw, hi⟩ := hrel
    subst hw
    rcases hi with rfl | ⟨rfl, hx⟩ | ⟨rfl, hx, hy⟩
    · by_cases hx : x = 0
      · subst hx
        go_wp2
        exact ⟨⟨by first | rfl | trivial, .inr (.inl ⟨by first | rfl | go_num, by first | rfl | trivial⟩)⟩, by simp [intOf]⟩
      · have HE := Lib.hid (show x = r by have h := HR.out; rw [if_pos hx] at h; exact h)
        go_wp2
        go_ret
        exact ⟨ret_int HE.out, Below.refl _ _⟩
    · by_cases hy : y = 0
      · subst hy
        have HX := Lib.hid hx
        clear hx
        go_wp2
        exact ⟨⟨by first | rfl | trivial, .inr (.inr ⟨by first | rfl | go_num, HX.out, by first | rfl | trivial⟩)⟩, by simp [intOf]⟩
      · have HE := Lib.hid (show y = r by have h := HR.out; rw [if_neg (by simp [hx])] at h; exact h)
        clear hx
        go_wp2
        go_ret
        exact ⟨ret_int HE.out, Below.refl _ _⟩
    · have HE := Lib.hid (show (0 : Int) = r by have h := HR.out; rw [if_neg (by simp [hx])] at h; rw [← h, hy])
      clear hx hy
      go_wp2
      go_ret
      exact ⟨ret_int HE.out, Below.refl _ _⟩
set_option maxRecDepth 100000 in
set_option maxHeartbeats 4000000 in
theorem compareK_f (A B : Int) (P Q R : Fr) (p0 p1 q0 q1 r0 r1 : Value) (C E : Int) (V U T : Fr) (v0 v1 u0 u1 t0 t1 : Value) (w : World) :
    Calls Try.prog 62 #[.agg #[.int .i64 A, .int .i64 B, .bool P.s, p0, p1, .bool Q.s, q0, q1, .bool R.s, r0, r1], .agg #[.int .i64 C, .int .i64 E, .bool V.s, v0, v1, .bool U.s, u0, u1, .bool T.s, t0, t1]] w fun e w' => e = .returned (.int .i64 (cmpK A B C E)) ∧ Below w.heap.size w w' := by
  obtain ⟨x, hx⟩ : ∃ z, cmpI2 A C = z := ⟨_, rfl⟩
  obtain ⟨y, hy⟩ : ∃ z, cmpI2 B E = z := ⟨_, rfl⟩
  obtain ⟨r, hr⟩ : ∃ z, cmpK A B C E = z := ⟨_, rfl⟩
  have HR := Lib.hid (show (if x ≠ 0 then x else y) = r by rw [← hx, ← hy, ← hr]; rfl)
  rw [hr]
  have HX := Lib.hid hx
  have HY := Lib.hid hy
  clear hx hy hr
  have S_1 := Lib.hid (show St w ((w.alloc (.cells #[.int .i64 A, .int .i64 B, .bool P.s, p0, p1, .bool Q.s, q0, q1, .bool R.s, r0, r1] 35)).alloc (.cells #[.int .i64 C, .int .i64 E, .bool V.s, v0, v1, .bool U.s, u0, u1, .bool T.s, t0, t1] 35)) [(w.heap.size + 1, [.int .i64 C, .int .i64 E, .bool V.s, v0, v1, .bool U.s, u0, u1, .bool T.s, t0, t1]), (w.heap.size, [.int .i64 A, .int .i64 B, .bool P.s, p0, p1, .bool Q.s, q0, q1, .bool R.s, r0, r1])] [] from (((St.start w).alloc_at (b := w.heap.size) [.int .i64 A, .int .i64 B, .bool P.s, p0, p1, .bool Q.s, q0, q1, .bool R.s, r0, r1] 35 (by first | rfl | simp)).alloc_at (b := w.heap.size + 1) [.int .i64 C, .int .i64 E, .bool V.s, v0, v1, .bool U.s, u0, u1, .bool T.s, t0, t1] 35 (by first | rfl | simp)))
  have hne_b_a : w.heap.size + 1 ≠ w.heap.size := by omega
  have hne_a_b : w.heap.size ≠ w.heap.size + 1 := by omega
  go_enter Try.func62, Try.ntmps62
  have hk_a_0_1 := S_1.out.cell 1 0 rfl rfl
  have hk_a_1_1 := S_1.out.cell 1 1 rfl rfl
  have hk_a_2_1 := S_1.out.cell 1 2 rfl rfl
  have hk_a_3_1 := S_1.out.cell 1 3 rfl rfl
  have hk_a_4_1 := S_1.out.cell 1 4 rfl rfl
  have hk_a_5_1 := S_1.out.cell 1 5 rfl rfl
  have hk_a_6_1 := S_1.out.cell 1 6 rfl rfl
  have hk_a_7_1 := S_1.out.cell 1 7 rfl rfl
  have hk_a_8_1 := S_1.out.cell 1 8 rfl rfl
  have hk_a_9_1 := S_1.out.cell 1 9 rfl rfl
  have hk_a_10_1 := S_1.out.cell 1 10 rfl rfl
  have hk_b_0_1 := S_1.out.cell 0 0 rfl rfl
  have hk_b_1_1 := S_1.out.cell 0 1 rfl rfl
  have hk_b_2_1 := S_1.out.cell 0 2 rfl rfl
  have hk_b_3_1 := S_1.out.cell 0 3 rfl rfl
  have hk_b_4_1 := S_1.out.cell 0 4 rfl rfl
  have hk_b_5_1 := S_1.out.cell 0 5 rfl rfl
  have hk_b_6_1 := S_1.out.cell 0 6 rfl rfl
  have hk_b_7_1 := S_1.out.cell 0 7 rfl rfl
  have hk_b_8_1 := S_1.out.cell 0 8 rfl rfl
  have hk_b_9_1 := S_1.out.cell 0 9 rfl rfl
  have hk_b_10_1 := S_1.out.cell 0 10 rfl rfl
  go_wp2
  go_region_held3 (fun w' => w'.cell? ⟨w.heap.size + 1, 0, none⟩ = some (.int .i64 C) ∧ w'.cell? ⟨w.heap.size + 1, 1, none⟩ = some (.int .i64 E) ∧ w'.cell? ⟨w.heap.size + 1, 2, none⟩ = some (.bool V.s) ∧ w'.cell? ⟨w.heap.size + 1, 3, none⟩ = some (v0) ∧ w'.cell? ⟨w.heap.size + 1, 4, none⟩ = some (v1) ∧ w'.cell? ⟨w.heap.size + 1, 5, none⟩ = some (.bool U.s) ∧ w'.cell? ⟨w.heap.size + 1, 6, none⟩ = some (u0) ∧ w'.cell? ⟨w.heap.size + 1, 7, none⟩ = some (u1) ∧ w'.cell? ⟨w.heap.size + 1, 8, none⟩ = some (.bool T.s) ∧ w'.cell? ⟨w.heap.size + 1, 9, none⟩ = some (t0) ∧ w'.cell? ⟨w.heap.size + 1, 10, none⟩ = some (t1) ∧ w'.cell? ⟨w.heap.size, 0, none⟩ = some (.int .i64 A) ∧ w'.cell? ⟨w.heap.size, 1, none⟩ = some (.int .i64 B) ∧ w'.cell? ⟨w.heap.size, 2, none⟩ = some (.bool P.s) ∧ w'.cell? ⟨w.heap.size, 3, none⟩ = some (p0) ∧ w'.cell? ⟨w.heap.size, 4, none⟩ = some (p1) ∧ w'.cell? ⟨w.heap.size, 5, none⟩ = some (.bool Q.s) ∧ w'.cell? ⟨w.heap.size, 6, none⟩ = some (q0) ∧ w'.cell? ⟨w.heap.size, 7, none⟩ = some (q1) ∧ w'.cell? ⟨w.heap.size, 8, none⟩ = some (.bool R.s) ∧ w'.cell? ⟨w.heap.size, 9, none⟩ = some (r0) ∧ w'.cell? ⟨w.heap.size, 10, none⟩ = some (r1)) (go_keep)
    (first
      | (go_at_call_of 77 (Value.int .i64 A)
         refine (cmpCompare_any A C _).mono ?_
         rintro e w1 ⟨rfl, hb⟩
         rw [HX.out]
         have S_2 := Lib.hid (S_1.out.drew.call hb)
         clear hb
         have hkp_0_0 := (S_2.out).cell 0 0 rfl rfl
         have hkp_0_1 := (S_2.out).cell 0 1 rfl rfl
         have hkp_0_2 := (S_2.out).cell 0 2 rfl rfl
         have hkp_0_3 := (S_2.out).cell 0 3 rfl rfl
         have hkp_0_4 := (S_2.out).cell 0 4 rfl rfl
         have hkp_0_5 := (S_2.out).cell 0 5 rfl rfl
         have hkp_0_6 := (S_2.out).cell 0 6 rfl rfl
         have hkp_0_7 := (S_2.out).cell 0 7 rfl rfl
         have hkp_0_8 := (S_2.out).cell 0 8 rfl rfl
         have hkp_0_9 := (S_2.out).cell 0 9 rfl rfl
         have hkp_0_10 := (S_2.out).cell 0 10 rfl rfl
         have hkp_1_0 := (S_2.out).cell 1 0 rfl rfl
         have hkp_1_1 := (S_2.out).cell 1 1 rfl rfl
         have hkp_1_2 := (S_2.out).cell 1 2 rfl rfl
         have hkp_1_3 := (S_2.out).cell 1 3 rfl rfl
         have hkp_1_4 := (S_2.out).cell 1 4 rfl rfl
         have hkp_1_5 := (S_2.out).cell 1 5 rfl rfl
         have hkp_1_6 := (S_2.out).cell 1 6 rfl rfl
         have hkp_1_7 := (S_2.out).cell 1 7 rfl rfl
         have hkp_1_8 := (S_2.out).cell 1 8 rfl rfl
         have hkp_1_9 := (S_2.out).cell 1 9 rfl rfl
         have hkp_1_10 := (S_2.out).cell 1 10 rfl rfl)
      | (go_at_call_of 77 (Value.int .i64 B)
         refine (cmpCompare_any B E _).mono ?_
         rintro e w2 ⟨rfl, hb⟩
         rw [HY.out]
         have S_3 := Lib.hid (S_2.out.call hb)
         clear hb
         have hkq_0_0 := (S_3.out).cell 0 0 rfl rfl
         have hkq_0_1 := (S_3.out).cell 0 1 rfl rfl
         have hkq_0_2 := (S_3.out).cell 0 2 rfl rfl
         have hkq_0_3 := (S_3.out).cell 0 3 rfl rfl
         have hkq_0_4 := (S_3.out).cell 0 4 rfl rfl
         have hkq_0_5 := (S_3.out).cell 0 5 rfl rfl
         have hkq_0_6 := (S_3.out).cell 0 6 rfl rfl
         have hkq_0_7 := (S_3.out).cell 0 7 rfl rfl
         have hkq_0_8 := (S_3.out).cell 0 8 rfl rfl
         have hkq_0_9 := (S_3.out).cell 0 9 rfl rfl
         have hkq_0_10 := (S_3.out).cell 0 10 rfl rfl
         have hkq_1_0 := (S_3.out).cell 1 0 rfl rfl
         have hkq_1_1 := (S_3.out).cell 1 1 rfl rfl
         have hkq_1_2 := (S_3.out).cell 1 2 rfl rfl
         have hkq_1_3 := (S_3.out).cell 1 3 rfl rfl
         have hkq_1_4 := (S_3.out).cell 1 4 rfl rfl
         have hkq_1_5 := (S_3.out).cell 1 5 rfl rfl
         have hkq_1_6 := (S_3.out).cell 1 6 rfl rfl
         have hkq_1_7 := (S_3.out).cell 1 7 rfl rfl
         have hkq_1_8 := (S_3.out).cell 1 8 rfl rfl
         have hkq_1_9 := (S_3.out).cell 1 9 rfl rfl
         have hkq_1_10 := (S_3.out).cell 1 10 rfl rfl)
      | (go_at_call 76
         refine (cmpOr_two x y _ _ (by simp [go_sem]) (by simp [go_sem])).mono ?_
         rintro e w3 ⟨rfl, hb⟩
         rw [HR.out]
         have S_4 := Lib.hid ((S_3.out.alloc [.int .i64 x, .int .i64 y] 3).call hb)
         clear hb
         have hkr_1_0 := S_4.out.cell 1 0 rfl rfl
         have hkr_1_1 := S_4.out.cell 1 1 rfl rfl
         have hkr_1_2 := S_4.out.cell 1 2 rfl rfl
         have hkr_1_3 := S_4.out.cell 1 3 rfl rfl
         have hkr_1_4 := S_4.out.cell 1 4 rfl rfl
         have hkr_1_5 := S_4.out.cell 1 5 rfl rfl
         have hkr_1_6 := S_4.out.cell 1 6 rfl rfl
         have hkr_1_7 := S_4.out.cell 1 7 rfl rfl
         have hkr_1_8 := S_4.out.cell 1 8 rfl rfl
         have hkr_1_9 := S_4.out.cell 1 9 rfl rfl
         have hkr_1_10 := S_4.out.cell 1 10 rfl rfl
         have hkr_2_0 := S_4.out.cell 2 0 rfl rfl
         have hkr_2_1 := S_4.out.cell 2 1 rfl rfl
         have hkr_2_2 := S_4.out.cell 2 2 rfl rfl
         have hkr_2_3 := S_4.out.cell 2 3 rfl rfl
         have hkr_2_4 := S_4.out.cell 2 4 rfl rfl
         have hkr_2_5 := S_4.out.cell 2 5 rfl rfl
         have hkr_2_6 := S_4.out.cell 2 6 rfl rfl
         have hkr_2_7 := S_4.out.cell 2 7 rfl rfl
         have hkr_2_8 := S_4.out.cell 2 8 rfl rfl
         have hkr_2_9 := S_4.out.cell 2 9 rfl rfl
         have hkr_2_10 := S_4.out.cell 2 10 rfl rfl))
  all_goals go_wp2
  all_goals go_ret
  all_goals exact ⟨rfl, S_4.out.below⟩
set_option maxRecDepth 100000 in
set_option maxHeartbeats 4000000 in
theorem l06Less_f (A B : Int) (P Q R : Fr) (p0 p1 q0 q1 r0 r1 : Value) (C E : Int) (V U T : Fr) (v0 v1 u0 u1 t0 t1 : Value) (w : World) :
    Calls Try.prog 38 #[.agg #[.int .i64 A, .int .i64 B, .bool P.s, p0, p1, .bool Q.s, q0, q1, .bool R.s, r0, r1], .agg #[.int .i64 C, .int .i64 E, .bool V.s, v0, v1, .bool U.s, u0, u1, .bool T.s, t0, t1]] w fun e w' => e = .returned (.bool (lessK A B C E)) ∧ Below w.heap.size w w' := by
  by_cases h1 : A < C
  · have HV := Lib.hid (show lessK A B C E = true by simp [lessK]; try omega)
    rw [HV.out]
    have S_1 := Lib.hid (show St w ((w.alloc (.cells #[.int .i64 A, .int .i64 B, .bool P.s, p0, p1, .bool Q.s, q0, q1, .bool R.s, r0, r1] 35)).alloc (.cells #[.int .i64 C, .int .i64 E, .bool V.s, v0, v1, .bool U.s, u0, u1, .bool T.s, t0, t1] 35)) [(w.heap.size + 1, [.int .i64 C, .int .i64 E, .bool V.s, v0, v1, .bool U.s, u0, u1, .bool T.s, t0, t1]), (w.heap.size, [.int .i64 A, .int .i64 B, .bool P.s, p0, p1, .bool Q.s, q0, q1, .bool R.s, r0, r1])] [] from (((St.start w).alloc_at (b := w.heap.size) [.int .i64 A, .int .i64 B, .bool P.s, p0, p1, .bool Q.s, q0, q1, .bool R.s, r0, r1] 35 (by first | rfl | simp)).alloc_at (b := w.heap.size + 1) [.int .i64 C, .int .i64 E, .bool V.s, v0, v1, .bool U.s, u0, u1, .bool T.s, t0, t1] 35 (by first | rfl | simp)))
    have hne_b_a : w.heap.size + 1 ≠ w.heap.size := by omega
    have hne_a_b : w.heap.size ≠ w.heap.size + 1 := by omega
    go_enter Try.func38, Try.ntmps38
    go_wp2
    all_goals go_ret
    all_goals exact ⟨rfl, S_1.out.below⟩
  · by_cases h2 : A = C
    · by_cases h3 : B < E
      · subst h2
        have HV := Lib.hid (show lessK A B A E = true by simp [lessK]; try omega)
        rw [HV.out]
        have S_2 := Lib.hid (show St w ((w.alloc (.cells #[.int .i64 A, .int .i64 B, .bool P.s, p0, p1, .bool Q.s, q0, q1, .bool R.s, r0, r1] 35)).alloc (.cells #[.int .i64 A, .int .i64 E, .bool V.s, v0, v1, .bool U.s, u0, u1, .bool T.s, t0, t1] 35)) [(w.heap.size + 1, [.int .i64 A, .int .i64 E, .bool V.s, v0, v1, .bool U.s, u0, u1, .bool T.s, t0, t1]), (w.heap.size, [.int .i64 A, .int .i64 B, .bool P.s, p0, p1, .bool Q.s, q0, q1, .bool R.s, r0, r1])] [] from (((St.start w).alloc_at (b := w.heap.size) [.int .i64 A, .int .i64 B, .bool P.s, p0, p1, .bool Q.s, q0, q1, .bool R.s, r0, r1] 35 (by first | rfl | simp)).alloc_at (b := w.heap.size + 1) [.int .i64 A, .int .i64 E, .bool V.s, v0, v1, .bool U.s, u0, u1, .bool T.s, t0, t1] 35 (by first | rfl | simp)))
        have hne_b_a : w.heap.size + 1 ≠ w.heap.size := by omega
        have hne_a_b : w.heap.size ≠ w.heap.size + 1 := by omega
        go_enter Try.func38, Try.ntmps38
        go_wp2
        all_goals go_ret
        all_goals exact ⟨rfl, S_2.out.below⟩
      · subst h2
        have HV := Lib.hid (show lessK A B A E = false by simp [lessK]; try omega)
        rw [HV.out]
        have S_3 := Lib.hid (show St w ((w.alloc (.cells #[.int .i64 A, .int .i64 B, .bool P.s, p0, p1, .bool Q.s, q0, q1, .bool R.s, r0, r1] 35)).alloc (.cells #[.int .i64 A, .int .i64 E, .bool V.s, v0, v1, .bool U.s, u0, u1, .bool T.s, t0, t1] 35)) [(w.heap.size + 1, [.int .i64 A, .int .i64 E, .bool V.s, v0, v1, .bool U.s, u0, u1, .bool T.s, t0, t1]), (w.heap.size, [.int .i64 A, .int .i64 B, .bool P.s, p0, p1, .bool Q.s, q0, q1, .bool R.s, r0, r1])] [] from (((St.start w).alloc_at (b := w.heap.size) [.int .i64 A, .int .i64 B, .bool P.s, p0, p1, .bool Q.s, q0, q1, .bool R.s, r0, r1] 35 (by first | rfl | simp)).alloc_at (b := w.heap.size + 1) [.int .i64 A, .int .i64 E, .bool V.s, v0, v1, .bool U.s, u0, u1, .bool T.s, t0, t1] 35 (by first | rfl | simp)))
        have hne_b_a : w.heap.size + 1 ≠ w.heap.size := by omega
        have hne_a_b : w.heap.size ≠ w.heap.size + 1 := by omega
        go_enter Try.func38, Try.ntmps38
        go_wp2
        all_goals go_ret
        all_goals exact ⟨rfl, S_3.out.below⟩
    · have HV := Lib.hid (show lessK A B C E = false by simp [lessK]; try omega)
      rw [HV.out]
      have S_4 := Lib.hid (show St w ((w.alloc (.cells #[.int .i64 A, .int .i64 B, .bool P.s, p0, p1, .bool Q.s, q0, q1, .bool R.s, r0, r1] 35)).alloc (.cells #[.int .i64 C, .int .i64 E, .bool V.s, v0, v1, .bool U.s, u0, u1, .bool T.s, t0, t1] 35)) [(w.heap.size + 1, [.int .i64 C, .int .i64 E, .bool V.s, v0, v1, .bool U.s, u0, u1, .bool T.s, t0, t1]), (w.heap.size, [.int .i64 A, .int .i64 B, .bool P.s, p0, p1, .bool Q.s, q0, q1, .bool R.s, r0, r1])] [] from (((St.start w).alloc_at (b := w.heap.size) [.int .i64 A, .int .i64 B, .bool P.s, p0, p1, .bool Q.s, q0, q1, .bool R.s, r0, r1] 35 (by first | rfl | simp)).alloc_at (b := w.heap.size + 1) [.int .i64 C, .int .i64 E, .bool V.s, v0, v1, .bool U.s, u0, u1, .bool T.s, t0, t1] 35 (by first | rfl | simp)))
      have hne_b_a : w.heap.size + 1 ≠ w.heap.size := by omega
      have hne_a_b : w.heap.size ≠ w.heap.size + 1 := by omega
      go_enter Try.func38, Try.ntmps38
      go_wp2
      all_goals go_ret
      all_goals exact ⟨rfl, S_4.out.below⟩
end Go.Proofs.Ytdilbhkdkppodaa
namespace Go.Proofs.Ytdilbhkdkppodaa
open Go.RowKit Nt Fr
set_option linter.unusedVariables false

def Lr.ok (z : Lr) : Bool := okK z.A z.B z.P z.Q z.R
def Lr.less (y z : Lr) : Bool := lessK y.A y.B z.A z.B
/-- Are the first k in ascending order? -/
def ascP (zs : List Lr) (k : Nat) : Prop := ∀ (i : Nat) (y z : Lr), i + 1 < k → zs[i]? = some y → zs[i + 1]? = some z → y.less z = true
def lessAt (zs : List Lr) (i : Nat) : Bool := match zs[i]?, zs[i + 1]? with | some y, some z => y.less z | _, _ => true
def ascB (zs : List Lr) : Bool := (List.range zs.length).all (lessAt zs)
def validP (zs : List Lr) (k : Nat) : Prop := ∀ (i : Nat) (z : Lr), i < k → zs[i]? = some z → z.ok = true
/-- Is it a link set? -/
def okSet (zs : List Lr) : Bool := zs.all Lr.ok && ascB zs
theorem ascB_iff {zs : List Lr} : ascB zs = true ↔ ascP zs zs.length := by
  unfold ascB
  rw [List.all_eq_true]
  constructor
  · intro h i y z hi hy hz
    have := h i (List.mem_range.mpr (by omega))
    unfold lessAt at this
    rw [hy, hz] at this
    exact this
  · intro h i hi
    have hi' := List.mem_range.mp hi
    unfold lessAt
    cases hy : zs[i]? with
    | none => rfl
    | some y =>
      cases hz : zs[i + 1]? with
      | none => rfl
      | some z => exact h i y z (List.getElem?_eq_some_iff.mp hz).1 hy hz
theorem valid_iff {zs : List Lr} : zs.all Lr.ok = true ↔ validP zs zs.length := by
  rw [List.all_eq_true]
  constructor
  · intro h i z hi hz; exact h z (List.mem_of_getElem? hz)
  · intro h z hz
    obtain ⟨i, hi⟩ := List.mem_iff_getElem?.mp hz
    exact h i z (List.getElem?_eq_some_iff.mp hi).1 hi
theorem okSet_iff {zs : List Lr} : okSet zs = true ↔ (validP zs zs.length ∧ ascP zs zs.length) := by
  unfold okSet; rw [Bool.and_eq_true, valid_iff, ascB_iff]
theorem okSet_no {zs : List Lr} (h : ¬ (validP zs zs.length ∧ ascP zs zs.length)) : okSet zs = false := by rw [← okSet_iff, Bool.not_eq_true] at h; exact h
theorem okSet_bad {zs : List Lr} {k : Nat} {z : Lr} (h : zs[k]? = some z) (hz : z.ok = false) : okSet zs = false := okSet_no fun ⟨h1, _⟩ => by
  have := h1 k z (List.getElem?_eq_some_iff.mp h).1 h
  rw [hz] at this; exact absurd this (by decide)
theorem asc_bad {zs : List Lr} {k : Nat} {y z : Lr} (h1 : zs[k]? = some y) (h2 : zs[k + 1]? = some z) (hl : y.less z = false) : ¬ ascP zs zs.length := fun h => by
  have := h k y z (List.getElem?_eq_some_iff.mp h2).1 h1 h2
  rw [hl] at this; exact absurd this (by decide)
theorem asc_step {zs : List Lr} {k : Nat} {y z : Lr} (h : ascP zs (k + 1)) (h1 : zs[k]? = some y) (h2 : zs[k + 1]? = some z) (hl : y.less z = true) : ascP zs (k + 2) := by
  intro i a b hi ha hb
  by_cases e : i = k
  · subst e
    obtain rfl := Option.some.inj (h1.symm.trans ha)
    obtain rfl := Option.some.inj (h2.symm.trans hb)
    exact hl
  · exact h i a b (by omega) ha hb
theorem valid_step {zs : List Lr} {k : Nat} {z : Lr} (h : validP zs k) (h1 : zs[k]? = some z) (hl : z.ok = true) : validP zs (k + 1) := by
  intro i a hi ha
  by_cases e : i = k
  · subst e
    obtain rfl := Option.some.inj (h1.symm.trans ha)
    exact hl
  · exact h i a (by omega) ha
theorem asc_le {zs : List Lr} {k : Nat} (h : k ≤ 1) : ascP zs k := fun i y z hi => by omega
theorem LkI_A {w : World} {base : Nat} {ys : List Lr} (h : Owns w base (rowsL ys)) : ∀ y ∈ ys, LkA w y.P y.Q y.R y.p0 y.p1 y.q0 y.q1 y.r0 y.r1 := by
  intro y hy
  have : Owns w base y.rows := by
    obtain ⟨a, b, rfl⟩ := List.append_of_mem hy
    exact h.part (rowsL a) y.rows (rowsL b) (by simp [rowsL])
  exact this.lk
/-- A slice of links that may be read, its rows to be handed on. -/
structure LArg (w : World) (A : Option Addr) (n : Nat) (zs : List Lr) : Prop where
  row : LRow w A n zs
  arg : ∀ z ∈ zs, LkA w z.P z.Q z.R z.p0 z.p1 z.q0 z.q1 z.r0 z.r1
theorem LArg.below {w w' : World} {A : Option Addr} {n : Nat} {zs : List Lr} (h : LArg w A n zs) (hb : Below w.heap.size w w') : LArg w' A n zs := ⟨h.row.below hb, fun z hz => (h.arg z hz).below hb⟩
theorem LArg.at_ {w : World} {A : Option Addr} {n : Nat} {zs : List Lr} (h : LArg w A n zs) {k : Nat} (hk : k < n) : ∃ g o z, A = some ⟨g, o, none⟩ ∧ g < w.heap.size ∧ zs[k]? = some z ∧ LkA w z.P z.Q z.R z.p0 z.p1 z.q0 z.q1 z.r0 z.r1 ∧ ∀ (j : Nat) (v : Value), (z.cells)[j]? = some v → w.cell? ⟨g, o + k * 11 + j, none⟩ = some v := by
  obtain ⟨g, o, z, e, hg, hz, _, hc⟩ := h.row.at_ hk
  exact ⟨g, o, z, e, hg, hz, h.arg z (List.mem_of_getElem? hz), hc⟩
theorem St.larg {w0 w : World} {bs : List (Nat × List Value)} {cs : List Chunk} (h : St w0 w bs cs) (i k : Nat) {b : Nat} {ys : List Lr} (e : bs[i]? = some (b, cellsL ys)) (e2 : cs[k]? = some (rowsL ys)) : LArg w (some ⟨b, 0, none⟩) ys.length ys := ⟨h.lrow i k e e2, LkI_A (h.own k e2)⟩
theorem LArg.shapes {w : World} {z : Lr} (h : LkA w z.P z.Q z.R z.p0 z.p1 z.q0 z.q1 z.r0 z.r1) : ∃ A B P Q R a0 n0 c0 a1 n1 c1 a2 n2 c2 a3 n3 c3 a4 n4 c4 a5 n5 c5, z = ⟨A, B, P, Q, R, .slice a0 n0 c0, .slice a1 n1 c1, .slice a2 n2 c2, .slice a3 n3 c3, .slice a4 n4 c4, .slice a5 n5 c5⟩ := by
  obtain ⟨A, B, P, Q, R, p0, p1, q0, q1, r0, r1⟩ := z
  obtain ⟨a0, n0, c0, a1, n1, c1, h1, h2⟩ := h.p.shape
  obtain ⟨a2, n2, c2, a3, n3, c3, h3, h4⟩ := h.q.shape
  obtain ⟨a4, n4, c4, a5, n5, c5, h5, h6⟩ := h.r.shape
  simp only at h1 h2 h3 h4 h5 h6
  subst h1 h2 h3 h4 h5 h6
  exact ⟨_, _, _, _, _, _, _, _, _, _, _, _, _, _, _, _, _, _, _, _, _, _, _, rfl⟩
set_option maxRecDepth 100000 in
set_option maxHeartbeats 4000000 in
theorem isLinkSet_i (A : Option Addr) (n c : Nat) (zs : List Lr) (w : World) (hA : LArg w A n zs) (hn : n ≤ 1048576) (hasc : ∀ u : World, LArg u A n zs → Calls Try.prog 39 #[.slice A n c] u fun e w' => e = .returned (.bool (ascB zs)) ∧ Below u.heap.size u w') :
    Calls Try.prog 19 #[.slice A n c] w fun e w' => e = .returned (.bool (okSet zs)) ∧ Below w.heap.size w w' := by
  have HA := Lib.hid hA
  have HL := Lib.hid hA.row.1
  have HAS := Lib.hid hasc
  obtain ⟨ok, hok⟩ : ∃ z, okSet zs = z := ⟨_, rfl⟩
  rw [hok]
  have HOK := Lib.hid hok
  clear hA hasc hok
  go_enter Try.func19, Try.ntmps19
  go_wp2
  go_loopw [7] (fun i wr => ∃ k : Nat, k ≤ n ∧ i = .int .i64 k ∧ validP zs k ∧ Below w.heap.size w wr) (fun i _ => n - (intOf i).toNat)
  case atStart => exact ⟨0, Nat.zero_le _, rfl, fun i z hi => by omega, Below.refl _ _⟩
  case round =>
    obtain ⟨k, hk, rfl, hv, hb⟩ := hrel
    have HV := Lib.hid hv
    have S_0 := Lib.hid (show St w wr [] [] from ⟨hb, by simp, by simp, .nil, .nil, by simp⟩)
    clear hv hb
    by_cases hlt : k < n
    · obtain ⟨g, o, z, rfl, hg, hz, hr, hc⟩ := (HA.out.below S_0.out.below).at_ hlt
      obtain ⟨ZA, ZB, ZP, ZQ, ZR, a0, n0, c0, a1, n1, c1, a2, n2, c2, a3, n3, c3, a4, n4, c4, a5, n5, c5, rfl⟩ := LArg.shapes hr
      have HZ := Lib.hid hz
      have HR := Lib.hid (show LkA wr ZP ZQ ZR (.slice a0 n0 c0) (.slice a1 n1 c1) (.slice a2 n2 c2) (.slice a3 n3 c3) (.slice a4 n4 c4) (.slice a5 n5 c5) from hr)
      have d0 : wr.cell? ⟨g, o + k * 11, none⟩ = some (.int .i64 ZA) := hc 0 _ rfl
      have d1 : wr.cell? ⟨g, o + k * 11 + 1, none⟩ = some (.int .i64 ZB) := hc 1 _ rfl
      have d2 : wr.cell? ⟨g, o + k * 11 + 2, none⟩ = some (.bool ZP.s) := hc 2 _ rfl
      have d3 : wr.cell? ⟨g, o + k * 11 + 3, none⟩ = some ((.slice a0 n0 c0)) := hc 3 _ rfl
      have d4 : wr.cell? ⟨g, o + k * 11 + 4, none⟩ = some ((.slice a1 n1 c1)) := hc 4 _ rfl
      have d5 : wr.cell? ⟨g, o + k * 11 + 5, none⟩ = some (.bool ZQ.s) := hc 5 _ rfl
      have d6 : wr.cell? ⟨g, o + k * 11 + 6, none⟩ = some ((.slice a2 n2 c2)) := hc 6 _ rfl
      have d7 : wr.cell? ⟨g, o + k * 11 + 7, none⟩ = some ((.slice a3 n3 c3)) := hc 7 _ rfl
      have d8 : wr.cell? ⟨g, o + k * 11 + 8, none⟩ = some (.bool ZR.s) := hc 8 _ rfl
      have d9 : wr.cell? ⟨g, o + k * 11 + 9, none⟩ = some ((.slice a4 n4 c4)) := hc 9 _ rfl
      have d10 : wr.cell? ⟨g, o + k * 11 + 10, none⟩ = some ((.slice a5 n5 c5)) := hc 10 _ rfl
      clear hz hr hc
      go_wp2_with fail
      have S_1 := Lib.hid (S_0.out.alloc [.int .i64 ZA, .int .i64 ZB, .bool ZP.s, (.slice a0 n0 c0), (.slice a1 n1 c1), .bool ZQ.s, (.slice a2 n2 c2), (.slice a3 n3 c3), .bool ZR.s, (.slice a4 n4 c4), (.slice a5 n5 c5)] 35)
      refine (isValidLink_i ZA ZB ZP ZQ ZR (.slice a0 n0 c0) (.slice a1 n1 c1) (.slice a2 n2 c2) (.slice a3 n3 c3) (.slice a4 n4 c4) (.slice a5 n5 c5) _ (HR.out.below ((Below.refl _ _).alloc (Nat.le_refl _) _))).mono ?_
      rintro e w1 ⟨rfl, hb⟩
      have S_2 := Lib.hid (S_1.out.call hb)
      clear hb S_1 d0 d1 d2 d3 d4 d5 d6 d7 d8 d9 d10
      by_cases hz : okK ZA ZB ZP ZQ ZR = true
      · rw [hz]
        have HV2 := Lib.hid (valid_step HV.out HZ.out hz)
        clear hz
        go_wp2
        exact ⟨⟨k + 1, by omega, by go_num, HV2.out, S_2.out.below⟩, by simp [intOf]; omega⟩
      · rw [Bool.not_eq_true] at hz
        rw [hz]
        have HE := Lib.hid (show false = ok by rw [← HOK.out]; exact (okSet_bad HZ.out hz).symm)
        clear hz
        go_wp2
        go_ret
        exact ⟨ret_bool HE.out, S_2.out.below⟩
    · obtain rfl : k = n := by omega
      go_wp2_with fail
      refine (HAS.out _ (HA.out.below S_0.out.below)).mono ?_
      rintro e w1 ⟨rfl, hb⟩
      have S_2 := Lib.hid (S_0.out.call hb)
      clear hb
      have HE := Lib.hid (show ascB zs = ok by
        rw [← HOK.out]
        have hv : zs.all Lr.ok = true := valid_iff.mpr (by rw [HL.out]; exact HV.out)
        unfold okSet
        rw [hv, Bool.true_and])
      go_wp2
      go_ret
      exact ⟨ret_bool HE.out, S_2.out.below⟩
set_option maxRecDepth 100000 in
set_option maxHeartbeats 4000000 in
theorem isAscending_f (A : Option Addr) (n c : Nat) (zs : List Lr) (w : World) (hA : LArg w A n zs) (hn : n ≤ 1048576) :
    Calls Try.prog 39 #[.slice A n c] w fun e w' => e = .returned (.bool (ascB zs)) ∧ Below w.heap.size w w' := by
  have HA := Lib.hid hA
  have HL := Lib.hid hA.row.1
  obtain ⟨ok, hok⟩ : ∃ z, ascB zs = z := ⟨_, rfl⟩
  rw [hok]
  have HOK := Lib.hid hok
  clear hA hok
  have hm : ∀ (u : World) (v : Value), (method 233 35 v "loop.example/g00810/impl.compare").run Try.prog u = .ok (62, v) u := fun _ _ => by kernel_rfl
  go_enter Try.func39, Try.ntmps39
  go_wp2
  go_loopw [3] (fun i wr => ∃ k : Nat, (k ≤ n ∨ k = 1) ∧ 1 ≤ k ∧ i = .int .i64 k ∧ ascP zs k ∧ Below w.heap.size w wr) (fun i _ => n - (intOf i).toNat)
  case atStart => exact ⟨1, .inr rfl, Nat.le_refl _, rfl, asc_le (Nat.le_refl _), Below.refl _ _⟩
  case round =>
    obtain ⟨k1, hk, hk1, rfl, hv, hb⟩ := hrel
    obtain ⟨k, rfl⟩ : ∃ k, k1 = k + 1 := ⟨k1 - 1, by omega⟩
    have HV := Lib.hid hv
    have HB := Lib.hid hb
    clear hv hb
    by_cases hlt : k + 1 < n
    · obtain ⟨g, o, y, rfl, hg, hy, hry, hcy⟩ := (HA.out.below HB.out).at_ (show k < n by omega)
      obtain ⟨g', o', z, hgo, _, hz, hr, hc⟩ := (HA.out.below HB.out).at_ hlt
      obtain ⟨rfl, rfl⟩ : g = g' ∧ o = o' := by simpa using hgo
      obtain ⟨YA, YB, YP, YQ, YR, b0, m0, e0, b1, m1, e1, b2, m2, e2, b3, m3, e3, b4, m4, e4, b5, m5, e5, rfl⟩ := LArg.shapes hry
      obtain ⟨ZA, ZB, ZP, ZQ, ZR, a0, n0, c0, a1, n1, c1, a2, n2, c2, a3, n3, c3, a4, n4, c4, a5, n5, c5, rfl⟩ := LArg.shapes hr
      have HY := Lib.hid hy
      have HZ := Lib.hid hz
      have y0 : wr.cell? ⟨g, o + k * 11, none⟩ = some (.int .i64 YA) := hcy 0 _ rfl
      have y1 : wr.cell? ⟨g, o + k * 11 + 1, none⟩ = some (.int .i64 YB) := hcy 1 _ rfl
      have y2 : wr.cell? ⟨g, o + k * 11 + 2, none⟩ = some (.bool YP.s) := hcy 2 _ rfl
      have y3 : wr.cell? ⟨g, o + k * 11 + 3, none⟩ = some ((.slice b0 m0 e0)) := hcy 3 _ rfl
      have y4 : wr.cell? ⟨g, o + k * 11 + 4, none⟩ = some ((.slice b1 m1 e1)) := hcy 4 _ rfl
      have y5 : wr.cell? ⟨g, o + k * 11 + 5, none⟩ = some (.bool YQ.s) := hcy 5 _ rfl
      have y6 : wr.cell? ⟨g, o + k * 11 + 6, none⟩ = some ((.slice b2 m2 e2)) := hcy 6 _ rfl
      have y7 : wr.cell? ⟨g, o + k * 11 + 7, none⟩ = some ((.slice b3 m3 e3)) := hcy 7 _ rfl
      have y8 : wr.cell? ⟨g, o + k * 11 + 8, none⟩ = some (.bool YR.s) := hcy 8 _ rfl
      have y9 : wr.cell? ⟨g, o + k * 11 + 9, none⟩ = some ((.slice b4 m4 e4)) := hcy 9 _ rfl
      have y10 : wr.cell? ⟨g, o + k * 11 + 10, none⟩ = some ((.slice b5 m5 e5)) := hcy 10 _ rfl
      have d0 : wr.cell? ⟨g, o + (k + 1) * 11, none⟩ = some (.int .i64 ZA) := hc 0 _ rfl
      have d1 : wr.cell? ⟨g, o + (k + 1) * 11 + 1, none⟩ = some (.int .i64 ZB) := hc 1 _ rfl
      have d2 : wr.cell? ⟨g, o + (k + 1) * 11 + 2, none⟩ = some (.bool ZP.s) := hc 2 _ rfl
      have d3 : wr.cell? ⟨g, o + (k + 1) * 11 + 3, none⟩ = some ((.slice a0 n0 c0)) := hc 3 _ rfl
      have d4 : wr.cell? ⟨g, o + (k + 1) * 11 + 4, none⟩ = some ((.slice a1 n1 c1)) := hc 4 _ rfl
      have d5 : wr.cell? ⟨g, o + (k + 1) * 11 + 5, none⟩ = some (.bool ZQ.s) := hc 5 _ rfl
      have d6 : wr.cell? ⟨g, o + (k + 1) * 11 + 6, none⟩ = some ((.slice a2 n2 c2)) := hc 6 _ rfl
      have d7 : wr.cell? ⟨g, o + (k + 1) * 11 + 7, none⟩ = some ((.slice a3 n3 c3)) := hc 7 _ rfl
      have d8 : wr.cell? ⟨g, o + (k + 1) * 11 + 8, none⟩ = some (.bool ZR.s) := hc 8 _ rfl
      have d9 : wr.cell? ⟨g, o + (k + 1) * 11 + 9, none⟩ = some ((.slice a4 n4 c4)) := hc 9 _ rfl
      have d10 : wr.cell? ⟨g, o + (k + 1) * 11 + 10, none⟩ = some ((.slice a5 n5 c5)) := hc 10 _ rfl
      clear hz hr hc hy hry hcy hgo
      have hk0 : (0 : Int) ≤ (k : Int) := by omega
      have hk2 : (k : Int) < (n : Int) := by omega
      have hk3 : ((k + 1 : Nat) : Int) < (n : Int) := by omega
      have hk5 : (0 : Int) ≤ ((k + 1 : Nat) : Int) := by omega
      have hk4 : IntKind.i64.wrap (((k + 1 : Nat) : Int) - 1) = (k : Int) := by rw [IntKind.wrap_i64]; omega
      have hk6 : IntKind.i64.wrap (k : Int) = (k : Int) := by rw [IntKind.wrap_i64]; omega
      have hk7 : IntKind.i64.wrap ((k : Int) + 1 - 1) = (k : Int) := by rw [IntKind.wrap_i64]; omega
      have hk8 : (k : Int) + 1 < (n : Int) := by omega
      have hk9 : (0 : Int) ≤ (k : Int) + 1 := by omega
      obtain ⟨q, hq⟩ : ∃ z, cmpK YA YB ZA ZB = z := ⟨_, rfl⟩
      have HQ := Lib.hid hq
      clear hq
      go_wp2
      go_region_held3 (fun w' => w'.cell? ⟨g, o + k * 11, none⟩ = some (.int .i64 YA) ∧ w'.cell? ⟨g, o + k * 11 + 1, none⟩ = some (.int .i64 YB) ∧ w'.cell? ⟨g, o + k * 11 + 2, none⟩ = some (.bool YP.s) ∧ w'.cell? ⟨g, o + k * 11 + 3, none⟩ = some ((.slice b0 m0 e0)) ∧ w'.cell? ⟨g, o + k * 11 + 4, none⟩ = some ((.slice b1 m1 e1)) ∧ w'.cell? ⟨g, o + k * 11 + 5, none⟩ = some (.bool YQ.s) ∧ w'.cell? ⟨g, o + k * 11 + 6, none⟩ = some ((.slice b2 m2 e2)) ∧ w'.cell? ⟨g, o + k * 11 + 7, none⟩ = some ((.slice b3 m3 e3)) ∧ w'.cell? ⟨g, o + k * 11 + 8, none⟩ = some (.bool YR.s) ∧ w'.cell? ⟨g, o + k * 11 + 9, none⟩ = some ((.slice b4 m4 e4)) ∧ w'.cell? ⟨g, o + k * 11 + 10, none⟩ = some ((.slice b5 m5 e5)) ∧ w'.cell? ⟨g, o + (k + 1) * 11, none⟩ = some (.int .i64 ZA) ∧ w'.cell? ⟨g, o + (k + 1) * 11 + 1, none⟩ = some (.int .i64 ZB) ∧ w'.cell? ⟨g, o + (k + 1) * 11 + 2, none⟩ = some (.bool ZP.s) ∧ w'.cell? ⟨g, o + (k + 1) * 11 + 3, none⟩ = some ((.slice a0 n0 c0)) ∧ w'.cell? ⟨g, o + (k + 1) * 11 + 4, none⟩ = some ((.slice a1 n1 c1)) ∧ w'.cell? ⟨g, o + (k + 1) * 11 + 5, none⟩ = some (.bool ZQ.s) ∧ w'.cell? ⟨g, o + (k + 1) * 11 + 6, none⟩ = some ((.slice a2 n2 c2)) ∧ w'.cell? ⟨g, o + (k + 1) * 11 + 7, none⟩ = some ((.slice a3 n3 c3)) ∧ w'.cell? ⟨g, o + (k + 1) * 11 + 8, none⟩ = some (.bool ZR.s) ∧ w'.cell? ⟨g, o + (k + 1) * 11 + 9, none⟩ = some ((.slice a4 n4 c4)) ∧ w'.cell? ⟨g, o + (k + 1) * 11 + 10, none⟩ = some ((.slice a5 n5 c5))) (go_keep)
        (first
          | (go_at_call 62
             refine (compareK_f YA YB YP YQ YR (.slice b0 m0 e0) (.slice b1 m1 e1) (.slice b2 m2 e2) (.slice b3 m3 e3) (.slice b4 m4 e4) (.slice b5 m5 e5) ZA ZB ZP ZQ ZR (.slice a0 n0 c0) (.slice a1 n1 c1) (.slice a2 n2 c2) (.slice a3 n3 c3) (.slice a4 n4 c4) (.slice a5 n5 c5) _).mono ?_
             rintro e w2 ⟨rfl, hb⟩
             rw [HQ.out]
             have HB2 := Lib.hid (HB.out.drew.trans (hb.mono HB.out.drew.size))
             have p0 := (hb.cell (p := ⟨g, o + k * 11, none⟩) hg).trans y0
             have p1 := (hb.cell (p := ⟨g, o + k * 11 + 1, none⟩) hg).trans y1
             have p2 := (hb.cell (p := ⟨g, o + k * 11 + 2, none⟩) hg).trans y2
             have p3 := (hb.cell (p := ⟨g, o + k * 11 + 3, none⟩) hg).trans y3
             have p4 := (hb.cell (p := ⟨g, o + k * 11 + 4, none⟩) hg).trans y4
             have p5 := (hb.cell (p := ⟨g, o + k * 11 + 5, none⟩) hg).trans y5
             have p6 := (hb.cell (p := ⟨g, o + k * 11 + 6, none⟩) hg).trans y6
             have p7 := (hb.cell (p := ⟨g, o + k * 11 + 7, none⟩) hg).trans y7
             have p8 := (hb.cell (p := ⟨g, o + k * 11 + 8, none⟩) hg).trans y8
             have p9 := (hb.cell (p := ⟨g, o + k * 11 + 9, none⟩) hg).trans y9
             have p10 := (hb.cell (p := ⟨g, o + k * 11 + 10, none⟩) hg).trans y10
             have q0 := (hb.cell (p := ⟨g, o + (k + 1) * 11, none⟩) hg).trans d0
             have q1 := (hb.cell (p := ⟨g, o + (k + 1) * 11 + 1, none⟩) hg).trans d1
             have q2 := (hb.cell (p := ⟨g, o + (k + 1) * 11 + 2, none⟩) hg).trans d2
             have q3 := (hb.cell (p := ⟨g, o + (k + 1) * 11 + 3, none⟩) hg).trans d3
             have q4 := (hb.cell (p := ⟨g, o + (k + 1) * 11 + 4, none⟩) hg).trans d4
             have q5 := (hb.cell (p := ⟨g, o + (k + 1) * 11 + 5, none⟩) hg).trans d5
             have q6 := (hb.cell (p := ⟨g, o + (k + 1) * 11 + 6, none⟩) hg).trans d6
             have q7 := (hb.cell (p := ⟨g, o + (k + 1) * 11 + 7, none⟩) hg).trans d7
             have q8 := (hb.cell (p := ⟨g, o + (k + 1) * 11 + 8, none⟩) hg).trans d8
             have q9 := (hb.cell (p := ⟨g, o + (k + 1) * 11 + 9, none⟩) hg).trans d9
             have q10 := (hb.cell (p := ⟨g, o + (k + 1) * 11 + 10, none⟩) hg).trans d10
             clear hb))
      by_cases hq0 : 0 ≤ q
      · have HE := Lib.hid (show false = ok by
          rw [← HOK.out]
          have hl : lessK YA YB ZA ZB = false := by
            rw [← Bool.not_eq_true, ← cmpK_less, HQ.out]; omega
          have := asc_bad HY.out HZ.out hl
          rw [← ascB_iff, Bool.not_eq_true] at this
          exact this.symm)
        go_wp2
        go_ret
        exact ⟨ret_bool HE.out, HB2.out⟩
      · have HV2 := Lib.hid (asc_step HV.out HY.out HZ.out (by show lessK YA YB ZA ZB = true; rw [← cmpK_less, HQ.out]; omega))
        go_wp2
        exact ⟨⟨k + 2, by omega, by omega, by go_num, HV2.out, HB2.out⟩, by simp [intOf]; omega⟩
    · have HE := Lib.hid (show true = ok by
        rw [← HOK.out]
        exact (ascB_iff.mpr (by
          by_cases h : n ≤ 1
          · exact asc_le (by rw [HL.out]; exact h)
          · rw [HL.out, show n = k + 1 by omega]; exact HV.out)).symm)
      go_wp2
      go_ret
      exact ⟨ret_bool HE.out, HB.out⟩
end Go.Proofs.Ytdilbhkdkppodaa
namespace Go.Proofs.Ytdilbhkdkppodaa
open Go.RowKit Nt Fr
set_option linter.unusedVariables false

set_option maxRecDepth 100000 in
set_option maxHeartbeats 4000000 in
theorem isLinkSet_s (A : Option Addr) (n c : Nat) (zs : List Lr) (w : World) (hA : LArg w A n zs) (hn : n ≤ 1048576) :
    Calls Try.prog 17 #[.slice A n c] w fun e w' => e = .returned (.bool (okSet zs)) ∧ Below w.heap.size w w' := by
  have HA := Lib.hid hA
  have HL := Lib.hid hA.row.1
  obtain ⟨ok, hok⟩ : ∃ z, okSet zs = z := ⟨_, rfl⟩
  rw [hok]
  have HOK := Lib.hid hok
  clear hA hok
  go_enter Try.func17, Try.ntmps17
  go_wp2
  go_loopw [7] (fun i wr => ∃ k : Nat, k ≤ n ∧ i = .int .i64 k ∧ validP zs k ∧ ascP zs k ∧ Below w.heap.size w wr) (fun i _ => n - (intOf i).toNat)
  case atStart => exact ⟨0, Nat.zero_le _, rfl, fun i z hi => by omega, asc_le (Nat.zero_le _), Below.refl _ _⟩
  case round =>
    obtain ⟨k0, hk, rfl, hv, ha, hb⟩ := hrel
    have HV := Lib.hid hv
    have HAS := Lib.hid ha
    have S_0 := Lib.hid (show St wr wr [] [] from St.start wr)
    have HB := Lib.hid hb
    clear hv ha hb
    by_cases hlt : k0 < n
    · obtain ⟨g, o, z, rfl, hg, hz, hr, hc⟩ := (HA.out.below HB.out).at_ hlt
      obtain ⟨ZA, ZB, ZP, ZQ, ZR, a0, n0, c0, a1, n1, c1, a2, n2, c2, a3, n3, c3, a4, n4, c4, a5, n5, c5, rfl⟩ := LArg.shapes hr
      have HZ := Lib.hid hz
      have HR := Lib.hid (show LkA wr ZP ZQ ZR (.slice a0 n0 c0) (.slice a1 n1 c1) (.slice a2 n2 c2) (.slice a3 n3 c3) (.slice a4 n4 c4) (.slice a5 n5 c5) from hr)
      have S_1 := Lib.hid (S_0.out.alloc [.int .i64 ZA, .int .i64 ZB, .bool ZP.s, (.slice a0 n0 c0), (.slice a1 n1 c1), .bool ZQ.s, (.slice a2 n2 c2), (.slice a3 n3 c3), .bool ZR.s, (.slice a4 n4 c4), (.slice a5 n5 c5)] 35)
      have hi0 : (0 : Int) ≤ (k0 : Int) := by omega
      have hi1 : (k0 : Int) < (n : Int) := by omega
      cases k0 with
      | zero =>
        have d0 : wr.cell? ⟨g, o, none⟩ = some (.int .i64 ZA) := by simpa using hc 0 _ rfl
        have d1 : wr.cell? ⟨g, o + 1, none⟩ = some (.int .i64 ZB) := by simpa using hc 1 _ rfl
        have d2 : wr.cell? ⟨g, o + 2, none⟩ = some (.bool ZP.s) := by simpa using hc 2 _ rfl
        have d3 : wr.cell? ⟨g, o + 3, none⟩ = some ((.slice a0 n0 c0)) := by simpa using hc 3 _ rfl
        have d4 : wr.cell? ⟨g, o + 4, none⟩ = some ((.slice a1 n1 c1)) := by simpa using hc 4 _ rfl
        have d5 : wr.cell? ⟨g, o + 5, none⟩ = some (.bool ZQ.s) := by simpa using hc 5 _ rfl
        have d6 : wr.cell? ⟨g, o + 6, none⟩ = some ((.slice a2 n2 c2)) := by simpa using hc 6 _ rfl
        have d7 : wr.cell? ⟨g, o + 7, none⟩ = some ((.slice a3 n3 c3)) := by simpa using hc 7 _ rfl
        have d8 : wr.cell? ⟨g, o + 8, none⟩ = some (.bool ZR.s) := by simpa using hc 8 _ rfl
        have d9 : wr.cell? ⟨g, o + 9, none⟩ = some ((.slice a4 n4 c4)) := by simpa using hc 9 _ rfl
        have d10 : wr.cell? ⟨g, o + 10, none⟩ = some ((.slice a5 n5 c5)) := by simpa using hc 10 _ rfl
        clear hz hr hc
        by_cases hzk : okK ZA ZB ZP ZQ ZR = true
        · have HZK := Lib.hid hzk
          have HV2 := Lib.hid (valid_step HV.out HZ.out hzk)
          clear hzk
          go_wp2
          refine wp_region_noPanic ?_
          refine wp_region_held_drew (S := (fun w' => w'.cell? ⟨wr.heap.size, 0, none⟩ = some (.int .i64 ZA) ∧ w'.cell? ⟨wr.heap.size, 1, none⟩ = some (.int .i64 ZB) ∧ w'.cell? ⟨wr.heap.size, 2, none⟩ = some (.bool ZP.s) ∧ w'.cell? ⟨wr.heap.size, 3, none⟩ = some ((.slice a0 n0 c0)) ∧ w'.cell? ⟨wr.heap.size, 4, none⟩ = some ((.slice a1 n1 c1)) ∧ w'.cell? ⟨wr.heap.size, 5, none⟩ = some (.bool ZQ.s) ∧ w'.cell? ⟨wr.heap.size, 6, none⟩ = some ((.slice a2 n2 c2)) ∧ w'.cell? ⟨wr.heap.size, 7, none⟩ = some ((.slice a3 n3 c3)) ∧ w'.cell? ⟨wr.heap.size, 8, none⟩ = some (.bool ZR.s) ∧ w'.cell? ⟨wr.heap.size, 9, none⟩ = some ((.slice a4 n4 c4)) ∧ w'.cell? ⟨wr.heap.size, 10, none⟩ = some ((.slice a5 n5 c5)))) (by kernel_rfl) ?_ (fun hHeld => ?_)
          · try dsimp only
            go_keep
          refine wpAnyH_take (i := 0) (oi := { dst := some 12, op := Op.load 35 (Operand.tmp 4), type := 35, pos := "l06_links.go:62", after := #[], guard := none }) (v := ?_) rfl (by kernel_rfl) (by kernel_rfl) (by kernel_rfl) (fun _ _ _ h => h) (Or.inl ⟨by rfl, ?_⟩) (by assumption) ?_
          rotate_left
          · intro w9 hSw
            try dsimp only at hSw
            go_simp
            try with_reducible rfl
          try simp only [Act.put, List.setIfInBounds_toArray, List.set_cons_zero, List.set_cons_succ]
          refine wpAnyH_ready (rs := [1]) (by kernel_rfl) (by simp) ?_
          refine AllReadyH.cons (o := { dst := some 13, op := Op.call { callee := Callee.value (Operand.func 8), args := #[Operand.tmp 12], argTypes := #[35] }, type := 4, pos := "l06_links.go:62", after := #[{ on := 0, ground := Ground.data }], guard := none }) rfl (fun K hK => ?_) ?_
          · go_simp
            go_at_call 8
            refine (isValidLink_s ZA ZB ZP ZQ ZR (.slice a0 n0 c0) (.slice a1 n1 c1) (.slice a2 n2 c2) (.slice a3 n3 c3) (.slice a4 n4 c4) (.slice a5 n5 c5) _ (HR.out.below (((Below.refl _ _).alloc (Nat.le_refl _) _).drew))).mono ?_
            rintro e w1 ⟨rfl, hb⟩
            rw [HZK.out]
            have S_2 := Lib.hid (S_1.out.drew.call hb)
            have x0 := S_2.out.cell 0 0 rfl rfl
            have x1 := S_2.out.cell 0 1 rfl rfl
            have x2 := S_2.out.cell 0 2 rfl rfl
            have x3 := S_2.out.cell 0 3 rfl rfl
            have x4 := S_2.out.cell 0 4 rfl rfl
            have x5 := S_2.out.cell 0 5 rfl rfl
            have x6 := S_2.out.cell 0 6 rfl rfl
            have x7 := S_2.out.cell 0 7 rfl rfl
            have x8 := S_2.out.cell 0 8 rfl rfl
            have x9 := S_2.out.cell 0 9 rfl rfl
            have x10 := S_2.out.cell 0 10 rfl rfl
            clear hb
            refine hK.out _ _ ?_ (fun hHeld1 => ?_)
            · try dsimp only
              go_keep
            clear hK K
            try simp only [Act.put, List.setIfInBounds_toArray, List.set_cons_zero, List.set_cons_succ]
            refine wpAnyH_take (i := 2) (oi := { dst := some 14, op := Op.unOp UnOp.not 4 (Operand.tmp 13), type := 4, pos := "l06_links.go:62", after := #[{ on := 1, ground := Ground.data }], guard := none }) (v := ?_) rfl (by kernel_rfl) (by kernel_rfl) (by kernel_rfl) (fun _ _ _ h => h) (Or.inl ⟨by rfl, ?_⟩) (by assumption) ?_
            rotate_left
            · intro w9 hSw
              try dsimp only at hSw
              go_simp
              try with_reducible rfl
            try simp only [Act.put, List.setIfInBounds_toArray, List.set_cons_zero, List.set_cons_succ]
            refine wpAnyH_take (i := 3) (oi := { dst := some 15, op := Op.move (Operand.tmp 14), type := 4, pos := "l06_links.go:62", after := #[{ on := 2, ground := Ground.data }, { on := 1, ground := Ground.chain }], guard := none }) (v := ?_) rfl (by kernel_rfl) (by kernel_rfl) (by kernel_rfl) (fun _ _ _ h => h) (Or.inl ⟨by rfl, ?_⟩) (by assumption) ?_
            rotate_left
            · intro w9 hSw
              try dsimp only at hSw
              go_simp
              try with_reducible rfl
            try simp only [Act.put, List.setIfInBounds_toArray, List.set_cons_zero, List.set_cons_succ]
            refine wpAnyH_take (i := 4) (oi := { dst := some 16, op := Op.move (Operand.tmp 3), type := 3, pos := "l06_links.go:62", after := #[{ on := 3, ground := Ground.guard }], guard := some (3, false) }) (v := ?_) rfl (by kernel_rfl) (by kernel_rfl) (by kernel_rfl) (fun _ _ _ h => h) (Or.inl ⟨by rfl, ?_⟩) (by assumption) ?_
            rotate_left
            · intro w9 hSw
              try dsimp only at hSw
              go_simp
              try with_reducible rfl
            try simp only [Act.put, List.setIfInBounds_toArray, List.set_cons_zero, List.set_cons_succ]
            refine wpAnyH_take (i := 5) (oi := { dst := some 17, op := Op.binOp BinOp.gtr 3 (Operand.tmp 16) (Operand.const (Value.int IntKind.i64 0)) 3, type := 4, pos := "l06_links.go:62", after := #[{ on := 4, ground := Ground.data }, { on := 3, ground := Ground.guard }], guard := some (3, false) }) (v := ?_) rfl (by kernel_rfl) (by kernel_rfl) (by kernel_rfl) (fun _ _ _ h => h) (Or.inl ⟨by rfl, ?_⟩) (by assumption) ?_
            rotate_left
            · intro w9 hSw
              try dsimp only at hSw
              go_simp
              try with_reducible rfl
            try simp only [Act.put, List.setIfInBounds_toArray, List.set_cons_zero, List.set_cons_succ]
            refine wpAnyH_take (i := 6) (oi := { dst := some 18, op := Op.move (Operand.tmp 17), type := 4, pos := "l06_links.go:62", after := #[{ on := 5, ground := Ground.data }, { on := 3, ground := Ground.chain }, { on := 3, ground := Ground.guard }], guard := some (3, false) }) (v := ?_) rfl (by kernel_rfl) (by kernel_rfl) (by kernel_rfl) (fun _ _ _ h => h) (Or.inl ⟨by rfl, ?_⟩) (by assumption) ?_
            rotate_left
            · intro w9 hSw
              try dsimp only at hSw
              go_simp
              try with_reducible rfl
            try simp only [Act.put, List.setIfInBounds_toArray, List.set_cons_zero, List.set_cons_succ]
            refine wpAnyH_take (i := 7) (oi := { dst := some 19, op := Op.move (Operand.tmp 0), type := 46, pos := "l06_links.go:62", after := #[{ on := 6, ground := Ground.guard }], guard := some (6, true) }) (v := undef) rfl (by kernel_rfl) (by kernel_rfl) (by kernel_rfl) (fun _ _ _ h => h) (Or.inr ⟨by rfl, rfl⟩) (by assumption) ?_
            try simp only [Act.put, List.setIfInBounds_toArray, List.set_cons_zero, List.set_cons_succ]
            refine wpAnyH_take (i := 8) (oi := { dst := some 20, op := Op.move (Operand.tmp 3), type := 3, pos := "l06_links.go:62", after := #[{ on := 6, ground := Ground.guard }], guard := some (6, true) }) (v := undef) rfl (by kernel_rfl) (by kernel_rfl) (by kernel_rfl) (fun _ _ _ h => h) (Or.inr ⟨by rfl, rfl⟩) (by assumption) ?_
            try simp only [Act.put, List.setIfInBounds_toArray, List.set_cons_zero, List.set_cons_succ]
            refine wpAnyH_take (i := 12) (oi := { dst := some 24, op := Op.load 35 (Operand.tmp 4), type := 35, pos := "l06_links.go:62", after := #[{ on := 6, ground := Ground.guard }], guard := some (6, true) }) (v := undef) rfl (by kernel_rfl) (by kernel_rfl) (by kernel_rfl) (fun _ _ _ h => h) (Or.inr ⟨by rfl, rfl⟩) (by assumption) ?_
            try simp only [Act.put, List.setIfInBounds_toArray, List.set_cons_zero, List.set_cons_succ]
            refine wpAnyH_take (i := 9) (oi := { dst := some 21, op := Op.binOp BinOp.sub 3 (Operand.tmp 20) (Operand.const (Value.int IntKind.i64 1)) 3, type := 3, pos := "l06_links.go:62", after := #[{ on := 8, ground := Ground.data }, { on := 6, ground := Ground.guard }], guard := some (6, true) }) (v := undef) rfl (by kernel_rfl) (by kernel_rfl) (by kernel_rfl) (fun _ _ _ h => h) (Or.inr ⟨by rfl, rfl⟩) (by assumption) ?_
            try simp only [Act.put, List.setIfInBounds_toArray, List.set_cons_zero, List.set_cons_succ]
            refine wpAnyH_take (i := 10) (oi := { dst := some 22, op := Op.indexAddr 46 (Operand.tmp 19) (Operand.tmp 21), type := 0, pos := "l06_links.go:62", after := #[{ on := 7, ground := Ground.data }, { on := 9, ground := Ground.data }, { on := 6, ground := Ground.guard }], guard := some (6, true) }) (v := undef) rfl (by kernel_rfl) (by kernel_rfl) (by kernel_rfl) (fun _ _ _ h => h) (Or.inr ⟨by rfl, rfl⟩) (by assumption) ?_
            try simp only [Act.put, List.setIfInBounds_toArray, List.set_cons_zero, List.set_cons_succ]
            refine wpAnyH_take (i := 11) (oi := { dst := some 23, op := Op.load 35 (Operand.tmp 22), type := 35, pos := "l06_links.go:62", after := #[{ on := 10, ground := Ground.data }, { on := 6, ground := Ground.guard }], guard := some (6, true) }) (v := undef) rfl (by kernel_rfl) (by kernel_rfl) (by kernel_rfl) (fun _ _ _ h => h) (Or.inr ⟨by rfl, rfl⟩) (by assumption) ?_
            try simp only [Act.put, List.setIfInBounds_toArray, List.set_cons_zero, List.set_cons_succ]
            refine wpAnyH_ready (rs := [13]) (by kernel_rfl) (by simp) ?_
            refine AllReadyH.cons (o := { dst := some 25, op := Op.call { callee := Callee.value (Operand.func 38), args := #[Operand.tmp 23, Operand.tmp 24], argTypes := #[35, 35] }, type := 4, pos := "l06_links.go:62", after := #[{ on := 11, ground := Ground.data }, { on := 12, ground := Ground.data }, { on := 6, ground := Ground.chain }, { on := 6, ground := Ground.guard }], guard := some (6, true) }) rfl (fun K hK => ?_) ?_
            · go_simp
              refine hK.out _ _ ?_ (fun hHeld13 => ?_)
              · try dsimp only
                go_keep
              clear hK K
              try simp only [Act.put, List.setIfInBounds_toArray, List.set_cons_zero, List.set_cons_succ]
              refine wpAnyH_take (i := 14) (oi := { dst := some 26, op := Op.unOp UnOp.not 4 (Operand.tmp 25), type := 4, pos := "l06_links.go:62", after := #[{ on := 13, ground := Ground.data }, { on := 6, ground := Ground.guard }], guard := some (6, true) }) (v := undef) rfl (by kernel_rfl) (by kernel_rfl) (by kernel_rfl) (fun _ _ _ h => h) (Or.inr ⟨by rfl, rfl⟩) (by assumption) ?_
              try simp only [Act.put, List.setIfInBounds_toArray, List.set_cons_zero, List.set_cons_succ]
              refine wpAnyH_take (i := 15) (oi := { dst := some 27, op := Op.pick (Operand.tmp 18) (Operand.tmp 26) (Operand.const (Value.bool false)), type := 4, pos := "l06_links.go:62", after := #[{ on := 6, ground := Ground.data }, { on := 14, ground := Ground.data }, { on := 3, ground := Ground.guard }], guard := some (3, false) }) (v := ?_) rfl (by kernel_rfl) (by kernel_rfl) (by kernel_rfl) (fun _ _ _ h => h) (Or.inl ⟨by rfl, ?_⟩) (by assumption) ?_
              rotate_left
              · intro w9 hSw
                try dsimp only at hSw
                go_simp
                try with_reducible rfl
              try simp only [Act.put, List.setIfInBounds_toArray, List.set_cons_zero, List.set_cons_succ]
              refine wpAnyH_take (i := 16) (oi := { dst := some 28, op := Op.pick (Operand.tmp 15) (Operand.const (Value.bool true)) (Operand.tmp 27), type := 4, pos := "l06_links.go:62", after := #[{ on := 3, ground := Ground.data }, { on := 15, ground := Ground.data }], guard := none }) (v := ?_) rfl (by kernel_rfl) (by kernel_rfl) (by kernel_rfl) (fun _ _ _ h => h) (Or.inl ⟨by rfl, ?_⟩) (by assumption) ?_
              rotate_left
              · intro w9 hSw
                try dsimp only at hSw
                go_simp
                try with_reducible rfl
              try simp only [Act.put, List.setIfInBounds_toArray, List.set_cons_zero, List.set_cons_succ]
              refine wpAnyH_done (by kernel_rfl) ?_ _
              refine NoPanic.normal ?_
              go_wp2
              exact ⟨⟨1, by omega, by first | rfl | go_num, HV2.out, asc_le (Nat.le_refl _), HB.out.trans (S_2.out.below.mono HB.out.size)⟩, by simp [intOf]; omega⟩
            exact AllReadyH.nil
          exact AllReadyH.nil
        · rw [Bool.not_eq_true] at hzk
          have HZK := Lib.hid hzk
          have HE := Lib.hid (show false = ok by rw [← HOK.out]; exact (okSet_bad HZ.out hzk).symm)
          clear hzk
          go_wp2
          refine wp_region_noPanic ?_
          refine wp_region_held_drew (S := (fun w' => w'.cell? ⟨wr.heap.size, 0, none⟩ = some (.int .i64 ZA) ∧ w'.cell? ⟨wr.heap.size, 1, none⟩ = some (.int .i64 ZB) ∧ w'.cell? ⟨wr.heap.size, 2, none⟩ = some (.bool ZP.s) ∧ w'.cell? ⟨wr.heap.size, 3, none⟩ = some ((.slice a0 n0 c0)) ∧ w'.cell? ⟨wr.heap.size, 4, none⟩ = some ((.slice a1 n1 c1)) ∧ w'.cell? ⟨wr.heap.size, 5, none⟩ = some (.bool ZQ.s) ∧ w'.cell? ⟨wr.heap.size, 6, none⟩ = some ((.slice a2 n2 c2)) ∧ w'.cell? ⟨wr.heap.size, 7, none⟩ = some ((.slice a3 n3 c3)) ∧ w'.cell? ⟨wr.heap.size, 8, none⟩ = some (.bool ZR.s) ∧ w'.cell? ⟨wr.heap.size, 9, none⟩ = some ((.slice a4 n4 c4)) ∧ w'.cell? ⟨wr.heap.size, 10, none⟩ = some ((.slice a5 n5 c5)))) (by kernel_rfl) ?_ (fun hHeld => ?_)
          · try dsimp only
            go_keep
          refine wpAnyH_take (i := 0) (oi := { dst := some 12, op := Op.load 35 (Operand.tmp 4), type := 35, pos := "l06_links.go:62", after := #[], guard := none }) (v := ?_) rfl (by kernel_rfl) (by kernel_rfl) (by kernel_rfl) (fun _ _ _ h => h) (Or.inl ⟨by rfl, ?_⟩) (by assumption) ?_
          rotate_left
          · intro w9 hSw
            try dsimp only at hSw
            go_simp
            try with_reducible rfl
          try simp only [Act.put, List.setIfInBounds_toArray, List.set_cons_zero, List.set_cons_succ]
          refine wpAnyH_ready (rs := [1]) (by kernel_rfl) (by simp) ?_
          refine AllReadyH.cons (o := { dst := some 13, op := Op.call { callee := Callee.value (Operand.func 8), args := #[Operand.tmp 12], argTypes := #[35] }, type := 4, pos := "l06_links.go:62", after := #[{ on := 0, ground := Ground.data }], guard := none }) rfl (fun K hK => ?_) ?_
          · go_simp
            go_at_call 8
            refine (isValidLink_s ZA ZB ZP ZQ ZR (.slice a0 n0 c0) (.slice a1 n1 c1) (.slice a2 n2 c2) (.slice a3 n3 c3) (.slice a4 n4 c4) (.slice a5 n5 c5) _ (HR.out.below (((Below.refl _ _).alloc (Nat.le_refl _) _).drew))).mono ?_
            rintro e w1 ⟨rfl, hb⟩
            rw [HZK.out]
            have S_2 := Lib.hid (S_1.out.drew.call hb)
            have x0 := S_2.out.cell 0 0 rfl rfl
            have x1 := S_2.out.cell 0 1 rfl rfl
            have x2 := S_2.out.cell 0 2 rfl rfl
            have x3 := S_2.out.cell 0 3 rfl rfl
            have x4 := S_2.out.cell 0 4 rfl rfl
            have x5 := S_2.out.cell 0 5 rfl rfl
            have x6 := S_2.out.cell 0 6 rfl rfl
            have x7 := S_2.out.cell 0 7 rfl rfl
            have x8 := S_2.out.cell 0 8 rfl rfl
            have x9 := S_2.out.cell 0 9 rfl rfl
            have x10 := S_2.out.cell 0 10 rfl rfl
            clear hb
            refine hK.out _ _ ?_ (fun hHeld1 => ?_)
            · try dsimp only
              go_keep
            clear hK K
            try simp only [Act.put, List.setIfInBounds_toArray, List.set_cons_zero, List.set_cons_succ]
            refine wpAnyH_take (i := 2) (oi := { dst := some 14, op := Op.unOp UnOp.not 4 (Operand.tmp 13), type := 4, pos := "l06_links.go:62", after := #[{ on := 1, ground := Ground.data }], guard := none }) (v := ?_) rfl (by kernel_rfl) (by kernel_rfl) (by kernel_rfl) (fun _ _ _ h => h) (Or.inl ⟨by rfl, ?_⟩) (by assumption) ?_
            rotate_left
            · intro w9 hSw
              try dsimp only at hSw
              go_simp
              try with_reducible rfl
            try simp only [Act.put, List.setIfInBounds_toArray, List.set_cons_zero, List.set_cons_succ]
            refine wpAnyH_take (i := 3) (oi := { dst := some 15, op := Op.move (Operand.tmp 14), type := 4, pos := "l06_links.go:62", after := #[{ on := 2, ground := Ground.data }, { on := 1, ground := Ground.chain }], guard := none }) (v := ?_) rfl (by kernel_rfl) (by kernel_rfl) (by kernel_rfl) (fun _ _ _ h => h) (Or.inl ⟨by rfl, ?_⟩) (by assumption) ?_
            rotate_left
            · intro w9 hSw
              try dsimp only at hSw
              go_simp
              try with_reducible rfl
            try simp only [Act.put, List.setIfInBounds_toArray, List.set_cons_zero, List.set_cons_succ]
            refine wpAnyH_take (i := 4) (oi := { dst := some 16, op := Op.move (Operand.tmp 3), type := 3, pos := "l06_links.go:62", after := #[{ on := 3, ground := Ground.guard }], guard := some (3, false) }) (v := undef) rfl (by kernel_rfl) (by kernel_rfl) (by kernel_rfl) (fun _ _ _ h => h) (Or.inr ⟨by rfl, rfl⟩) (by assumption) ?_
            try simp only [Act.put, List.setIfInBounds_toArray, List.set_cons_zero, List.set_cons_succ]
            refine wpAnyH_take (i := 5) (oi := { dst := some 17, op := Op.binOp BinOp.gtr 3 (Operand.tmp 16) (Operand.const (Value.int IntKind.i64 0)) 3, type := 4, pos := "l06_links.go:62", after := #[{ on := 4, ground := Ground.data }, { on := 3, ground := Ground.guard }], guard := some (3, false) }) (v := undef) rfl (by kernel_rfl) (by kernel_rfl) (by kernel_rfl) (fun _ _ _ h => h) (Or.inr ⟨by rfl, rfl⟩) (by assumption) ?_
            try simp only [Act.put, List.setIfInBounds_toArray, List.set_cons_zero, List.set_cons_succ]
            refine wpAnyH_take (i := 6) (oi := { dst := some 18, op := Op.move (Operand.tmp 17), type := 4, pos := "l06_links.go:62", after := #[{ on := 5, ground := Ground.data }, { on := 3, ground := Ground.chain }, { on := 3, ground := Ground.guard }], guard := some (3, false) }) (v := undef) rfl (by kernel_rfl) (by kernel_rfl) (by kernel_rfl) (fun _ _ _ h => h) (Or.inr ⟨by rfl, rfl⟩) (by assumption) ?_
            try simp only [Act.put, List.setIfInBounds_toArray, List.set_cons_zero, List.set_cons_succ]
            refine wpAnyH_take (i := 7) (oi := { dst := some 19, op := Op.move (Operand.tmp 0), type := 46, pos := "l06_links.go:62", after := #[{ on := 6, ground := Ground.guard }], guard := some (6, true) }) (v := undef) rfl (by kernel_rfl) (by kernel_rfl) (by kernel_rfl) (fun _ _ _ h => h) (Or.inr ⟨by rfl, rfl⟩) (by assumption) ?_
            try simp only [Act.put, List.setIfInBounds_toArray, List.set_cons_zero, List.set_cons_succ]
            refine wpAnyH_take (i := 8) (oi := { dst := some 20, op := Op.move (Operand.tmp 3), type := 3, pos := "l06_links.go:62", after := #[{ on := 6, ground := Ground.guard }], guard := some (6, true) }) (v := undef) rfl (by kernel_rfl) (by kernel_rfl) (by kernel_rfl) (fun _ _ _ h => h) (Or.inr ⟨by rfl, rfl⟩) (by assumption) ?_
            try simp only [Act.put, List.setIfInBounds_toArray, List.set_cons_zero, List.set_cons_succ]
            refine wpAnyH_take (i := 12) (oi := { dst := some 24, op := Op.load 35 (Operand.tmp 4), type := 35, pos := "l06_links.go:62", after := #[{ on := 6, ground := Ground.guard }], guard := some (6, true) }) (v := undef) rfl (by kernel_rfl) (by kernel_rfl) (by kernel_rfl) (fun _ _ _ h => h) (Or.inr ⟨by rfl, rfl⟩) (by assumption) ?_
            try simp only [Act.put, List.setIfInBounds_toArray, List.set_cons_zero, List.set_cons_succ]
            refine wpAnyH_take (i := 9) (oi := { dst := some 21, op := Op.binOp BinOp.sub 3 (Operand.tmp 20) (Operand.const (Value.int IntKind.i64 1)) 3, type := 3, pos := "l06_links.go:62", after := #[{ on := 8, ground := Ground.data }, { on := 6, ground := Ground.guard }], guard := some (6, true) }) (v := undef) rfl (by kernel_rfl) (by kernel_rfl) (by kernel_rfl) (fun _ _ _ h => h) (Or.inr ⟨by rfl, rfl⟩) (by assumption) ?_
            try simp only [Act.put, List.setIfInBounds_toArray, List.set_cons_zero, List.set_cons_succ]
            refine wpAnyH_take (i := 10) (oi := { dst := some 22, op := Op.indexAddr 46 (Operand.tmp 19) (Operand.tmp 21), type := 0, pos := "l06_links.go:62", after := #[{ on := 7, ground := Ground.data }, { on := 9, ground := Ground.data }, { on := 6, ground := Ground.guard }], guard := some (6, true) }) (v := undef) rfl (by kernel_rfl) (by kernel_rfl) (by kernel_rfl) (fun _ _ _ h => h) (Or.inr ⟨by rfl, rfl⟩) (by assumption) ?_
            try simp only [Act.put, List.setIfInBounds_toArray, List.set_cons_zero, List.set_cons_succ]
            refine wpAnyH_take (i := 11) (oi := { dst := some 23, op := Op.load 35 (Operand.tmp 22), type := 35, pos := "l06_links.go:62", after := #[{ on := 10, ground := Ground.data }, { on := 6, ground := Ground.guard }], guard := some (6, true) }) (v := undef) rfl (by kernel_rfl) (by kernel_rfl) (by kernel_rfl) (fun _ _ _ h => h) (Or.inr ⟨by rfl, rfl⟩) (by assumption) ?_
            try simp only [Act.put, List.setIfInBounds_toArray, List.set_cons_zero, List.set_cons_succ]
            refine wpAnyH_ready (rs := [13]) (by kernel_rfl) (by simp) ?_
            refine AllReadyH.cons (o := { dst := some 25, op := Op.call { callee := Callee.value (Operand.func 38), args := #[Operand.tmp 23, Operand.tmp 24], argTypes := #[35, 35] }, type := 4, pos := "l06_links.go:62", after := #[{ on := 11, ground := Ground.data }, { on := 12, ground := Ground.data }, { on := 6, ground := Ground.chain }, { on := 6, ground := Ground.guard }], guard := some (6, true) }) rfl (fun K hK => ?_) ?_
            · go_simp
              refine hK.out _ _ ?_ (fun hHeld13 => ?_)
              · try dsimp only
                go_keep
              clear hK K
              try simp only [Act.put, List.setIfInBounds_toArray, List.set_cons_zero, List.set_cons_succ]
              refine wpAnyH_take (i := 14) (oi := { dst := some 26, op := Op.unOp UnOp.not 4 (Operand.tmp 25), type := 4, pos := "l06_links.go:62", after := #[{ on := 13, ground := Ground.data }, { on := 6, ground := Ground.guard }], guard := some (6, true) }) (v := undef) rfl (by kernel_rfl) (by kernel_rfl) (by kernel_rfl) (fun _ _ _ h => h) (Or.inr ⟨by rfl, rfl⟩) (by assumption) ?_
              try simp only [Act.put, List.setIfInBounds_toArray, List.set_cons_zero, List.set_cons_succ]
              refine wpAnyH_take (i := 15) (oi := { dst := some 27, op := Op.pick (Operand.tmp 18) (Operand.tmp 26) (Operand.const (Value.bool false)), type := 4, pos := "l06_links.go:62", after := #[{ on := 6, ground := Ground.data }, { on := 14, ground := Ground.data }, { on := 3, ground := Ground.guard }], guard := some (3, false) }) (v := undef) rfl (by kernel_rfl) (by kernel_rfl) (by kernel_rfl) (fun _ _ _ h => h) (Or.inr ⟨by rfl, rfl⟩) (by assumption) ?_
              try simp only [Act.put, List.setIfInBounds_toArray, List.set_cons_zero, List.set_cons_succ]
              refine wpAnyH_take (i := 16) (oi := { dst := some 28, op := Op.pick (Operand.tmp 15) (Operand.const (Value.bool true)) (Operand.tmp 27), type := 4, pos := "l06_links.go:62", after := #[{ on := 3, ground := Ground.data }, { on := 15, ground := Ground.data }], guard := none }) (v := ?_) rfl (by kernel_rfl) (by kernel_rfl) (by kernel_rfl) (fun _ _ _ h => h) (Or.inl ⟨by rfl, ?_⟩) (by assumption) ?_
              rotate_left
              · intro w9 hSw
                try dsimp only at hSw
                go_simp
                try with_reducible rfl
              try simp only [Act.put, List.setIfInBounds_toArray, List.set_cons_zero, List.set_cons_succ]
              refine wpAnyH_done (by kernel_rfl) ?_ _
              refine NoPanic.normal ?_
              go_wp2
              go_ret
              exact ⟨ret_bool HE.out, HB.out.trans (S_2.out.below.mono HB.out.size)⟩
            exact AllReadyH.nil
          exact AllReadyH.nil
      | succ k =>
        obtain ⟨g', o', y, hgo, _, hy, hry, hcy⟩ := (HA.out.below HB.out).at_ (show k < n by omega)
        obtain ⟨rfl, rfl⟩ : g = g' ∧ o = o' := by simpa using hgo
        obtain ⟨YA, YB, YP, YQ, YR, b0, m0, e0, b1, m1, e1, b2, m2, e2, b3, m3, e3, b4, m4, e4, b5, m5, e5, rfl⟩ := LArg.shapes hry
        have HY := Lib.hid hy
        have y0 : wr.cell? ⟨g, o + k * 11, none⟩ = some (.int .i64 YA) := hcy 0 _ rfl
        have y1 : wr.cell? ⟨g, o + k * 11 + 1, none⟩ = some (.int .i64 YB) := hcy 1 _ rfl
        have y2 : wr.cell? ⟨g, o + k * 11 + 2, none⟩ = some (.bool YP.s) := hcy 2 _ rfl
        have y3 : wr.cell? ⟨g, o + k * 11 + 3, none⟩ = some ((.slice b0 m0 e0)) := hcy 3 _ rfl
        have y4 : wr.cell? ⟨g, o + k * 11 + 4, none⟩ = some ((.slice b1 m1 e1)) := hcy 4 _ rfl
        have y5 : wr.cell? ⟨g, o + k * 11 + 5, none⟩ = some (.bool YQ.s) := hcy 5 _ rfl
        have y6 : wr.cell? ⟨g, o + k * 11 + 6, none⟩ = some ((.slice b2 m2 e2)) := hcy 6 _ rfl
        have y7 : wr.cell? ⟨g, o + k * 11 + 7, none⟩ = some ((.slice b3 m3 e3)) := hcy 7 _ rfl
        have y8 : wr.cell? ⟨g, o + k * 11 + 8, none⟩ = some (.bool YR.s) := hcy 8 _ rfl
        have y9 : wr.cell? ⟨g, o + k * 11 + 9, none⟩ = some ((.slice b4 m4 e4)) := hcy 9 _ rfl
        have y10 : wr.cell? ⟨g, o + k * 11 + 10, none⟩ = some ((.slice b5 m5 e5)) := hcy 10 _ rfl
        have d0 : wr.cell? ⟨g, o + (k + 1) * 11, none⟩ = some (.int .i64 ZA) := hc 0 _ rfl
        have d1 : wr.cell? ⟨g, o + (k + 1) * 11 + 1, none⟩ = some (.int .i64 ZB) := hc 1 _ rfl
        have d2 : wr.cell? ⟨g, o + (k + 1) * 11 + 2, none⟩ = some (.bool ZP.s) := hc 2 _ rfl
        have d3 : wr.cell? ⟨g, o + (k + 1) * 11 + 3, none⟩ = some ((.slice a0 n0 c0)) := hc 3 _ rfl
        have d4 : wr.cell? ⟨g, o + (k + 1) * 11 + 4, none⟩ = some ((.slice a1 n1 c1)) := hc 4 _ rfl
        have d5 : wr.cell? ⟨g, o + (k + 1) * 11 + 5, none⟩ = some (.bool ZQ.s) := hc 5 _ rfl
        have d6 : wr.cell? ⟨g, o + (k + 1) * 11 + 6, none⟩ = some ((.slice a2 n2 c2)) := hc 6 _ rfl
        have d7 : wr.cell? ⟨g, o + (k + 1) * 11 + 7, none⟩ = some ((.slice a3 n3 c3)) := hc 7 _ rfl
        have d8 : wr.cell? ⟨g, o + (k + 1) * 11 + 8, none⟩ = some (.bool ZR.s) := hc 8 _ rfl
        have d9 : wr.cell? ⟨g, o + (k + 1) * 11 + 9, none⟩ = some ((.slice a4 n4 c4)) := hc 9 _ rfl
        have d10 : wr.cell? ⟨g, o + (k + 1) * 11 + 10, none⟩ = some ((.slice a5 n5 c5)) := hc 10 _ rfl
        clear hz hr hc hy hry hcy hgo
        have hk0 : (0 : Int) ≤ (k : Int) := by omega
        have hk2 : (k : Int) < (n : Int) := by omega
        have hk6 : IntKind.i64.wrap (k : Int) = (k : Int) := by rw [IntKind.wrap_i64]; omega
        have hk7 : IntKind.i64.wrap ((k : Int) + 1 - 1) = (k : Int) := by rw [IntKind.wrap_i64]; omega
        have hk8 : (k : Int) + 1 < (n : Int) := by omega
        have hk9 : (0 : Int) < (k : Int) + 1 := by omega
        have hk5 : (0 : Int) ≤ (k : Int) + 1 := by omega
        by_cases hzk : okK ZA ZB ZP ZQ ZR = true
        · have HZK := Lib.hid hzk
          have HV2 := Lib.hid (valid_step HV.out HZ.out hzk)
          clear hzk
          by_cases hls : lessK YA YB ZA ZB = true
          · have HLS := Lib.hid hls
            have HA2 := Lib.hid (asc_step HAS.out HY.out HZ.out hls)
            clear hls
            go_wp2
            first | (go_region_held3 (fun w' => w'.cell? ⟨wr.heap.size, 0, none⟩ = some (.int .i64 ZA) ∧ w'.cell? ⟨wr.heap.size, 1, none⟩ = some (.int .i64 ZB) ∧ w'.cell? ⟨wr.heap.size, 2, none⟩ = some (.bool ZP.s) ∧ w'.cell? ⟨wr.heap.size, 3, none⟩ = some ((.slice a0 n0 c0)) ∧ w'.cell? ⟨wr.heap.size, 4, none⟩ = some ((.slice a1 n1 c1)) ∧ w'.cell? ⟨wr.heap.size, 5, none⟩ = some (.bool ZQ.s) ∧ w'.cell? ⟨wr.heap.size, 6, none⟩ = some ((.slice a2 n2 c2)) ∧ w'.cell? ⟨wr.heap.size, 7, none⟩ = some ((.slice a3 n3 c3)) ∧ w'.cell? ⟨wr.heap.size, 8, none⟩ = some (.bool ZR.s) ∧ w'.cell? ⟨wr.heap.size, 9, none⟩ = some ((.slice a4 n4 c4)) ∧ w'.cell? ⟨wr.heap.size, 10, none⟩ = some ((.slice a5 n5 c5)) ∧ w'.cell? ⟨g, o + k * 11, none⟩ = some (.int .i64 YA) ∧ w'.cell? ⟨g, o + k * 11 + 1, none⟩ = some (.int .i64 YB) ∧ w'.cell? ⟨g, o + k * 11 + 2, none⟩ = some (.bool YP.s) ∧ w'.cell? ⟨g, o + k * 11 + 3, none⟩ = some ((.slice b0 m0 e0)) ∧ w'.cell? ⟨g, o + k * 11 + 4, none⟩ = some ((.slice b1 m1 e1)) ∧ w'.cell? ⟨g, o + k * 11 + 5, none⟩ = some (.bool YQ.s) ∧ w'.cell? ⟨g, o + k * 11 + 6, none⟩ = some ((.slice b2 m2 e2)) ∧ w'.cell? ⟨g, o + k * 11 + 7, none⟩ = some ((.slice b3 m3 e3)) ∧ w'.cell? ⟨g, o + k * 11 + 8, none⟩ = some (.bool YR.s) ∧ w'.cell? ⟨g, o + k * 11 + 9, none⟩ = some ((.slice b4 m4 e4)) ∧ w'.cell? ⟨g, o + k * 11 + 10, none⟩ = some ((.slice b5 m5 e5))) (go_keep)
              (first
                | (go_at_call 8
                   refine (isValidLink_s ZA ZB ZP ZQ ZR (.slice a0 n0 c0) (.slice a1 n1 c1) (.slice a2 n2 c2) (.slice a3 n3 c3) (.slice a4 n4 c4) (.slice a5 n5 c5) _ (HR.out.below (((Below.refl _ _).alloc (Nat.le_refl _) _).drew))).mono ?_
                   rintro e w1 ⟨rfl, hb⟩
                   rw [HZK.out]
                   have S_2 := Lib.hid (S_1.out.drew.call hb)
                   have x0 := S_2.out.cell 0 0 rfl rfl
                   have x1 := S_2.out.cell 0 1 rfl rfl
                   have x2 := S_2.out.cell 0 2 rfl rfl
                   have x3 := S_2.out.cell 0 3 rfl rfl
                   have x4 := S_2.out.cell 0 4 rfl rfl
                   have x5 := S_2.out.cell 0 5 rfl rfl
                   have x6 := S_2.out.cell 0 6 rfl rfl
                   have x7 := S_2.out.cell 0 7 rfl rfl
                   have x8 := S_2.out.cell 0 8 rfl rfl
                   have x9 := S_2.out.cell 0 9 rfl rfl
                   have x10 := S_2.out.cell 0 10 rfl rfl
                   have v0 := (S_2.out.below.cell (p := ⟨g, o + k * 11, none⟩) hg).trans y0
                   have v1 := (S_2.out.below.cell (p := ⟨g, o + k * 11 + 1, none⟩) hg).trans y1
                   have v2 := (S_2.out.below.cell (p := ⟨g, o + k * 11 + 2, none⟩) hg).trans y2
                   have v3 := (S_2.out.below.cell (p := ⟨g, o + k * 11 + 3, none⟩) hg).trans y3
                   have v4 := (S_2.out.below.cell (p := ⟨g, o + k * 11 + 4, none⟩) hg).trans y4
                   have v5 := (S_2.out.below.cell (p := ⟨g, o + k * 11 + 5, none⟩) hg).trans y5
                   have v6 := (S_2.out.below.cell (p := ⟨g, o + k * 11 + 6, none⟩) hg).trans y6
                   have v7 := (S_2.out.below.cell (p := ⟨g, o + k * 11 + 7, none⟩) hg).trans y7
                   have v8 := (S_2.out.below.cell (p := ⟨g, o + k * 11 + 8, none⟩) hg).trans y8
                   have v9 := (S_2.out.below.cell (p := ⟨g, o + k * 11 + 9, none⟩) hg).trans y9
                   have v10 := (S_2.out.below.cell (p := ⟨g, o + k * 11 + 10, none⟩) hg).trans y10
                   clear hb)
                | (go_at_call 38
                   refine (l06Less_f YA YB YP YQ YR (.slice b0 m0 e0) (.slice b1 m1 e1) (.slice b2 m2 e2) (.slice b3 m3 e3) (.slice b4 m4 e4) (.slice b5 m5 e5) ZA ZB ZP ZQ ZR (.slice a0 n0 c0) (.slice a1 n1 c1) (.slice a2 n2 c2) (.slice a3 n3 c3) (.slice a4 n4 c4) (.slice a5 n5 c5) _).mono ?_
                   rintro e w2 ⟨rfl, hb⟩
                   rw [HLS.out]
                   have S_3 := Lib.hid (S_2.out.call hb)
                   have x20 := S_3.out.cell 0 0 rfl rfl
                   have x21 := S_3.out.cell 0 1 rfl rfl
                   have x22 := S_3.out.cell 0 2 rfl rfl
                   have x23 := S_3.out.cell 0 3 rfl rfl
                   have x24 := S_3.out.cell 0 4 rfl rfl
                   have x25 := S_3.out.cell 0 5 rfl rfl
                   have x26 := S_3.out.cell 0 6 rfl rfl
                   have x27 := S_3.out.cell 0 7 rfl rfl
                   have x28 := S_3.out.cell 0 8 rfl rfl
                   have x29 := S_3.out.cell 0 9 rfl rfl
                   have x210 := S_3.out.cell 0 10 rfl rfl
                   have u0 := (S_3.out.below.cell (p := ⟨g, o + k * 11, none⟩) hg).trans y0
                   have u1 := (S_3.out.below.cell (p := ⟨g, o + k * 11 + 1, none⟩) hg).trans y1
                   have u2 := (S_3.out.below.cell (p := ⟨g, o + k * 11 + 2, none⟩) hg).trans y2
                   have u3 := (S_3.out.below.cell (p := ⟨g, o + k * 11 + 3, none⟩) hg).trans y3
                   have u4 := (S_3.out.below.cell (p := ⟨g, o + k * 11 + 4, none⟩) hg).trans y4
                   have u5 := (S_3.out.below.cell (p := ⟨g, o + k * 11 + 5, none⟩) hg).trans y5
                   have u6 := (S_3.out.below.cell (p := ⟨g, o + k * 11 + 6, none⟩) hg).trans y6
                   have u7 := (S_3.out.below.cell (p := ⟨g, o + k * 11 + 7, none⟩) hg).trans y7
                   have u8 := (S_3.out.below.cell (p := ⟨g, o + k * 11 + 8, none⟩) hg).trans y8
                   have u9 := (S_3.out.below.cell (p := ⟨g, o + k * 11 + 9, none⟩) hg).trans y9
                   have u10 := (S_3.out.below.cell (p := ⟨g, o + k * 11 + 10, none⟩) hg).trans y10
                   clear hb))) | fail
            all_goals go_wp2
            all_goals exact ⟨⟨k + 2, by omega, by go_num, HV2.out, HA2.out, HB.out.trans (S_3.out.below.mono HB.out.size)⟩, by simp [intOf]; omega⟩
          · rw [Bool.not_eq_true] at hls
            have HLS := Lib.hid hls
            have HE := Lib.hid (show false = ok by rw [← HOK.out]; exact (okSet_no fun h => asc_bad HY.out HZ.out hls h.2).symm)
            clear hls
            go_wp2
            first | (go_region_held3 (fun w' => w'.cell? ⟨wr.heap.size, 0, none⟩ = some (.int .i64 ZA) ∧ w'.cell? ⟨wr.heap.size, 1, none⟩ = some (.int .i64 ZB) ∧ w'.cell? ⟨wr.heap.size, 2, none⟩ = some (.bool ZP.s) ∧ w'.cell? ⟨wr.heap.size, 3, none⟩ = some ((.slice a0 n0 c0)) ∧ w'.cell? ⟨wr.heap.size, 4, none⟩ = some ((.slice a1 n1 c1)) ∧ w'.cell? ⟨wr.heap.size, 5, none⟩ = some (.bool ZQ.s) ∧ w'.cell? ⟨wr.heap.size, 6, none⟩ = some ((.slice a2 n2 c2)) ∧ w'.cell? ⟨wr.heap.size, 7, none⟩ = some ((.slice a3 n3 c3)) ∧ w'.cell? ⟨wr.heap.size, 8, none⟩ = some (.bool ZR.s) ∧ w'.cell? ⟨wr.heap.size, 9, none⟩ = some ((.slice a4 n4 c4)) ∧ w'.cell? ⟨wr.heap.size, 10, none⟩ = some ((.slice a5 n5 c5)) ∧ w'.cell? ⟨g, o + k * 11, none⟩ = some (.int .i64 YA) ∧ w'.cell? ⟨g, o + k * 11 + 1, none⟩ = some (.int .i64 YB) ∧ w'.cell? ⟨g, o + k * 11 + 2, none⟩ = some (.bool YP.s) ∧ w'.cell? ⟨g, o + k * 11 + 3, none⟩ = some ((.slice b0 m0 e0)) ∧ w'.cell? ⟨g, o + k * 11 + 4, none⟩ = some ((.slice b1 m1 e1)) ∧ w'.cell? ⟨g, o + k * 11 + 5, none⟩ = some (.bool YQ.s) ∧ w'.cell? ⟨g, o + k * 11 + 6, none⟩ = some ((.slice b2 m2 e2)) ∧ w'.cell? ⟨g, o + k * 11 + 7, none⟩ = some ((.slice b3 m3 e3)) ∧ w'.cell? ⟨g, o + k * 11 + 8, none⟩ = some (.bool YR.s) ∧ w'.cell? ⟨g, o + k * 11 + 9, none⟩ = some ((.slice b4 m4 e4)) ∧ w'.cell? ⟨g, o + k * 11 + 10, none⟩ = some ((.slice b5 m5 e5))) (go_keep)
              (first
                | (go_at_call 8
                   refine (isValidLink_s ZA ZB ZP ZQ ZR (.slice a0 n0 c0) (.slice a1 n1 c1) (.slice a2 n2 c2) (.slice a3 n3 c3) (.slice a4 n4 c4) (.slice a5 n5 c5) _ (HR.out.below (((Below.refl _ _).alloc (Nat.le_refl _) _).drew))).mono ?_
                   rintro e w1 ⟨rfl, hb⟩
                   rw [HZK.out]
                   have S_2 := Lib.hid (S_1.out.drew.call hb)
                   have x0 := S_2.out.cell 0 0 rfl rfl
                   have x1 := S_2.out.cell 0 1 rfl rfl
                   have x2 := S_2.out.cell 0 2 rfl rfl
                   have x3 := S_2.out.cell 0 3 rfl rfl
                   have x4 := S_2.out.cell 0 4 rfl rfl
                   have x5 := S_2.out.cell 0 5 rfl rfl
                   have x6 := S_2.out.cell 0 6 rfl rfl
                   have x7 := S_2.out.cell 0 7 rfl rfl
                   have x8 := S_2.out.cell 0 8 rfl rfl
                   have x9 := S_2.out.cell 0 9 rfl rfl
                   have x10 := S_2.out.cell 0 10 rfl rfl
                   have v0 := (S_2.out.below.cell (p := ⟨g, o + k * 11, none⟩) hg).trans y0
                   have v1 := (S_2.out.below.cell (p := ⟨g, o + k * 11 + 1, none⟩) hg).trans y1
                   have v2 := (S_2.out.below.cell (p := ⟨g, o + k * 11 + 2, none⟩) hg).trans y2
                   have v3 := (S_2.out.below.cell (p := ⟨g, o + k * 11 + 3, none⟩) hg).trans y3
                   have v4 := (S_2.out.below.cell (p := ⟨g, o + k * 11 + 4, none⟩) hg).trans y4
                   have v5 := (S_2.out.below.cell (p := ⟨g, o + k * 11 + 5, none⟩) hg).trans y5
                   have v6 := (S_2.out.below.cell (p := ⟨g, o + k * 11 + 6, none⟩) hg).trans y6
                   have v7 := (S_2.out.below.cell (p := ⟨g, o + k * 11 + 7, none⟩) hg).trans y7
                   have v8 := (S_2.out.below.cell (p := ⟨g, o + k * 11 + 8, none⟩) hg).trans y8
                   have v9 := (S_2.out.below.cell (p := ⟨g, o + k * 11 + 9, none⟩) hg).trans y9
                   have v10 := (S_2.out.below.cell (p := ⟨g, o + k * 11 + 10, none⟩) hg).trans y10
                   clear hb)
                | (go_at_call 38
                   refine (l06Less_f YA YB YP YQ YR (.slice b0 m0 e0) (.slice b1 m1 e1) (.slice b2 m2 e2) (.slice b3 m3 e3) (.slice b4 m4 e4) (.slice b5 m5 e5) ZA ZB ZP ZQ ZR (.slice a0 n0 c0) (.slice a1 n1 c1) (.slice a2 n2 c2) (.slice a3 n3 c3) (.slice a4 n4 c4) (.slice a5 n5 c5) _).mono ?_
                   rintro e w2 ⟨rfl, hb⟩
                   rw [HLS.out]
                   have S_3 := Lib.hid (S_2.out.call hb)
                   have x20 := S_3.out.cell 0 0 rfl rfl
                   have x21 := S_3.out.cell 0 1 rfl rfl
                   have x22 := S_3.out.cell 0 2 rfl rfl
                   have x23 := S_3.out.cell 0 3 rfl rfl
                   have x24 := S_3.out.cell 0 4 rfl rfl
                   have x25 := S_3.out.cell 0 5 rfl rfl
                   have x26 := S_3.out.cell 0 6 rfl rfl
                   have x27 := S_3.out.cell 0 7 rfl rfl
                   have x28 := S_3.out.cell 0 8 rfl rfl
                   have x29 := S_3.out.cell 0 9 rfl rfl
                   have x210 := S_3.out.cell 0 10 rfl rfl
                   have u0 := (S_3.out.below.cell (p := ⟨g, o + k * 11, none⟩) hg).trans y0
                   have u1 := (S_3.out.below.cell (p := ⟨g, o + k * 11 + 1, none⟩) hg).trans y1
                   have u2 := (S_3.out.below.cell (p := ⟨g, o + k * 11 + 2, none⟩) hg).trans y2
                   have u3 := (S_3.out.below.cell (p := ⟨g, o + k * 11 + 3, none⟩) hg).trans y3
                   have u4 := (S_3.out.below.cell (p := ⟨g, o + k * 11 + 4, none⟩) hg).trans y4
                   have u5 := (S_3.out.below.cell (p := ⟨g, o + k * 11 + 5, none⟩) hg).trans y5
                   have u6 := (S_3.out.below.cell (p := ⟨g, o + k * 11 + 6, none⟩) hg).trans y6
                   have u7 := (S_3.out.below.cell (p := ⟨g, o + k * 11 + 7, none⟩) hg).trans y7
                   have u8 := (S_3.out.below.cell (p := ⟨g, o + k * 11 + 8, none⟩) hg).trans y8
                   have u9 := (S_3.out.below.cell (p := ⟨g, o + k * 11 + 9, none⟩) hg).trans y9
                   have u10 := (S_3.out.below.cell (p := ⟨g, o + k * 11 + 10, none⟩) hg).trans y10
                   clear hb))) | fail
            all_goals go_wp2
            all_goals go_ret
            all_goals exact ⟨ret_bool HE.out, HB.out.trans (S_3.out.below.mono HB.out.size)⟩
        · rw [Bool.not_eq_true] at hzk
          have HZK := Lib.hid hzk
          have HE := Lib.hid (show false = ok by rw [← HOK.out]; exact (okSet_bad HZ.out hzk).symm)
          clear hzk
          go_wp2
          refine wp_region_noPanic ?_
          refine wp_region_held_drew (S := (fun w' => w'.cell? ⟨wr.heap.size, 0, none⟩ = some (.int .i64 ZA) ∧ w'.cell? ⟨wr.heap.size, 1, none⟩ = some (.int .i64 ZB) ∧ w'.cell? ⟨wr.heap.size, 2, none⟩ = some (.bool ZP.s) ∧ w'.cell? ⟨wr.heap.size, 3, none⟩ = some ((.slice a0 n0 c0)) ∧ w'.cell? ⟨wr.heap.size, 4, none⟩ = some ((.slice a1 n1 c1)) ∧ w'.cell? ⟨wr.heap.size, 5, none⟩ = some (.bool ZQ.s) ∧ w'.cell? ⟨wr.heap.size, 6, none⟩ = some ((.slice a2 n2 c2)) ∧ w'.cell? ⟨wr.heap.size, 7, none⟩ = some ((.slice a3 n3 c3)) ∧ w'.cell? ⟨wr.heap.size, 8, none⟩ = some (.bool ZR.s) ∧ w'.cell? ⟨wr.heap.size, 9, none⟩ = some ((.slice a4 n4 c4)) ∧ w'.cell? ⟨wr.heap.size, 10, none⟩ = some ((.slice a5 n5 c5)))) (by kernel_rfl) ?_ (fun hHeld => ?_)
          · try dsimp only
            go_keep
          refine wpAnyH_take (i := 0) (oi := { dst := some 12, op := Op.load 35 (Operand.tmp 4), type := 35, pos := "l06_links.go:62", after := #[], guard := none }) (v := ?_) rfl (by kernel_rfl) (by kernel_rfl) (by kernel_rfl) (fun _ _ _ h => h) (Or.inl ⟨by rfl, ?_⟩) (by assumption) ?_
          rotate_left
          · intro w9 hSw
            try dsimp only at hSw
            go_simp
            try with_reducible rfl
          try simp only [Act.put, List.setIfInBounds_toArray, List.set_cons_zero, List.set_cons_succ]
          refine wpAnyH_ready (rs := [1]) (by kernel_rfl) (by simp) ?_
          refine AllReadyH.cons (o := { dst := some 13, op := Op.call { callee := Callee.value (Operand.func 8), args := #[Operand.tmp 12], argTypes := #[35] }, type := 4, pos := "l06_links.go:62", after := #[{ on := 0, ground := Ground.data }], guard := none }) rfl (fun K hK => ?_) ?_
          · go_simp
            go_at_call 8
            refine (isValidLink_s ZA ZB ZP ZQ ZR (.slice a0 n0 c0) (.slice a1 n1 c1) (.slice a2 n2 c2) (.slice a3 n3 c3) (.slice a4 n4 c4) (.slice a5 n5 c5) _ (HR.out.below (((Below.refl _ _).alloc (Nat.le_refl _) _).drew))).mono ?_
            rintro e w1 ⟨rfl, hb⟩
            rw [HZK.out]
            have S_2 := Lib.hid (S_1.out.drew.call hb)
            have x0 := S_2.out.cell 0 0 rfl rfl
            have x1 := S_2.out.cell 0 1 rfl rfl
            have x2 := S_2.out.cell 0 2 rfl rfl
            have x3 := S_2.out.cell 0 3 rfl rfl
            have x4 := S_2.out.cell 0 4 rfl rfl
            have x5 := S_2.out.cell 0 5 rfl rfl
            have x6 := S_2.out.cell 0 6 rfl rfl
            have x7 := S_2.out.cell 0 7 rfl rfl
            have x8 := S_2.out.cell 0 8 rfl rfl
            have x9 := S_2.out.cell 0 9 rfl rfl
            have x10 := S_2.out.cell 0 10 rfl rfl
            clear hb
            refine hK.out _ _ ?_ (fun hHeld1 => ?_)
            · try dsimp only
              go_keep
            clear hK K
            try simp only [Act.put, List.setIfInBounds_toArray, List.set_cons_zero, List.set_cons_succ]
            refine wpAnyH_take (i := 2) (oi := { dst := some 14, op := Op.unOp UnOp.not 4 (Operand.tmp 13), type := 4, pos := "l06_links.go:62", after := #[{ on := 1, ground := Ground.data }], guard := none }) (v := ?_) rfl (by kernel_rfl) (by kernel_rfl) (by kernel_rfl) (fun _ _ _ h => h) (Or.inl ⟨by rfl, ?_⟩) (by assumption) ?_
            rotate_left
            · intro w9 hSw
              try dsimp only at hSw
              go_simp
              try with_reducible rfl
            try simp only [Act.put, List.setIfInBounds_toArray, List.set_cons_zero, List.set_cons_succ]
            refine wpAnyH_take (i := 3) (oi := { dst := some 15, op := Op.move (Operand.tmp 14), type := 4, pos := "l06_links.go:62", after := #[{ on := 2, ground := Ground.data }, { on := 1, ground := Ground.chain }], guard := none }) (v := ?_) rfl (by kernel_rfl) (by kernel_rfl) (by kernel_rfl) (fun _ _ _ h => h) (Or.inl ⟨by rfl, ?_⟩) (by assumption) ?_
            rotate_left
            · intro w9 hSw
              try dsimp only at hSw
              go_simp
              try with_reducible rfl
            try simp only [Act.put, List.setIfInBounds_toArray, List.set_cons_zero, List.set_cons_succ]
            refine wpAnyH_take (i := 4) (oi := { dst := some 16, op := Op.move (Operand.tmp 3), type := 3, pos := "l06_links.go:62", after := #[{ on := 3, ground := Ground.guard }], guard := some (3, false) }) (v := undef) rfl (by kernel_rfl) (by kernel_rfl) (by kernel_rfl) (fun _ _ _ h => h) (Or.inr ⟨by rfl, rfl⟩) (by assumption) ?_
            try simp only [Act.put, List.setIfInBounds_toArray, List.set_cons_zero, List.set_cons_succ]
            refine wpAnyH_take (i := 5) (oi := { dst := some 17, op := Op.binOp BinOp.gtr 3 (Operand.tmp 16) (Operand.const (Value.int IntKind.i64 0)) 3, type := 4, pos := "l06_links.go:62", after := #[{ on := 4, ground := Ground.data }, { on := 3, ground := Ground.guard }], guard := some (3, false) }) (v := undef) rfl (by kernel_rfl) (by kernel_rfl) (by kernel_rfl) (fun _ _ _ h => h) (Or.inr ⟨by rfl, rfl⟩) (by assumption) ?_
            try simp only [Act.put, List.setIfInBounds_toArray, List.set_cons_zero, List.set_cons_succ]
            refine wpAnyH_take (i := 6) (oi := { dst := some 18, op := Op.move (Operand.tmp 17), type := 4, pos := "l06_links.go:62", after := #[{ on := 5, ground := Ground.data }, { on := 3, ground := Ground.chain }, { on := 3, ground := Ground.guard }], guard := some (3, false) }) (v := undef) rfl (by kernel_rfl) (by kernel_rfl) (by kernel_rfl) (fun _ _ _ h => h) (Or.inr ⟨by rfl, rfl⟩) (by assumption) ?_
            try simp only [Act.put, List.setIfInBounds_toArray, List.set_cons_zero, List.set_cons_succ]
            refine wpAnyH_take (i := 7) (oi := { dst := some 19, op := Op.move (Operand.tmp 0), type := 46, pos := "l06_links.go:62", after := #[{ on := 6, ground := Ground.guard }], guard := some (6, true) }) (v := undef) rfl (by kernel_rfl) (by kernel_rfl) (by kernel_rfl) (fun _ _ _ h => h) (Or.inr ⟨by rfl, rfl⟩) (by assumption) ?_
            try simp only [Act.put, List.setIfInBounds_toArray, List.set_cons_zero, List.set_cons_succ]
            refine wpAnyH_take (i := 8) (oi := { dst := some 20, op := Op.move (Operand.tmp 3), type := 3, pos := "l06_links.go:62", after := #[{ on := 6, ground := Ground.guard }], guard := some (6, true) }) (v := undef) rfl (by kernel_rfl) (by kernel_rfl) (by kernel_rfl) (fun _ _ _ h => h) (Or.inr ⟨by rfl, rfl⟩) (by assumption) ?_
            try simp only [Act.put, List.setIfInBounds_toArray, List.set_cons_zero, List.set_cons_succ]
            refine wpAnyH_take (i := 12) (oi := { dst := some 24, op := Op.load 35 (Operand.tmp 4), type := 35, pos := "l06_links.go:62", after := #[{ on := 6, ground := Ground.guard }], guard := some (6, true) }) (v := undef) rfl (by kernel_rfl) (by kernel_rfl) (by kernel_rfl) (fun _ _ _ h => h) (Or.inr ⟨by rfl, rfl⟩) (by assumption) ?_
            try simp only [Act.put, List.setIfInBounds_toArray, List.set_cons_zero, List.set_cons_succ]
            refine wpAnyH_take (i := 9) (oi := { dst := some 21, op := Op.binOp BinOp.sub 3 (Operand.tmp 20) (Operand.const (Value.int IntKind.i64 1)) 3, type := 3, pos := "l06_links.go:62", after := #[{ on := 8, ground := Ground.data }, { on := 6, ground := Ground.guard }], guard := some (6, true) }) (v := undef) rfl (by kernel_rfl) (by kernel_rfl) (by kernel_rfl) (fun _ _ _ h => h) (Or.inr ⟨by rfl, rfl⟩) (by assumption) ?_
            try simp only [Act.put, List.setIfInBounds_toArray, List.set_cons_zero, List.set_cons_succ]
            refine wpAnyH_take (i := 10) (oi := { dst := some 22, op := Op.indexAddr 46 (Operand.tmp 19) (Operand.tmp 21), type := 0, pos := "l06_links.go:62", after := #[{ on := 7, ground := Ground.data }, { on := 9, ground := Ground.data }, { on := 6, ground := Ground.guard }], guard := some (6, true) }) (v := undef) rfl (by kernel_rfl) (by kernel_rfl) (by kernel_rfl) (fun _ _ _ h => h) (Or.inr ⟨by rfl, rfl⟩) (by assumption) ?_
            try simp only [Act.put, List.setIfInBounds_toArray, List.set_cons_zero, List.set_cons_succ]
            refine wpAnyH_take (i := 11) (oi := { dst := some 23, op := Op.load 35 (Operand.tmp 22), type := 35, pos := "l06_links.go:62", after := #[{ on := 10, ground := Ground.data }, { on := 6, ground := Ground.guard }], guard := some (6, true) }) (v := undef) rfl (by kernel_rfl) (by kernel_rfl) (by kernel_rfl) (fun _ _ _ h => h) (Or.inr ⟨by rfl, rfl⟩) (by assumption) ?_
            try simp only [Act.put, List.setIfInBounds_toArray, List.set_cons_zero, List.set_cons_succ]
            refine wpAnyH_ready (rs := [13]) (by kernel_rfl) (by simp) ?_
            refine AllReadyH.cons (o := { dst := some 25, op := Op.call { callee := Callee.value (Operand.func 38), args := #[Operand.tmp 23, Operand.tmp 24], argTypes := #[35, 35] }, type := 4, pos := "l06_links.go:62", after := #[{ on := 11, ground := Ground.data }, { on := 12, ground := Ground.data }, { on := 6, ground := Ground.chain }, { on := 6, ground := Ground.guard }], guard := some (6, true) }) rfl (fun K hK => ?_) ?_
            · go_simp
              refine hK.out _ _ ?_ (fun hHeld13 => ?_)
              · try dsimp only
                go_keep
              clear hK K
              try simp only [Act.put, List.setIfInBounds_toArray, List.set_cons_zero, List.set_cons_succ]
              refine wpAnyH_take (i := 14) (oi := { dst := some 26, op := Op.unOp UnOp.not 4 (Operand.tmp 25), type := 4, pos := "l06_links.go:62", after := #[{ on := 13, ground := Ground.data }, { on := 6, ground := Ground.guard }], guard := some (6, true) }) (v := undef) rfl (by kernel_rfl) (by kernel_rfl) (by kernel_rfl) (fun _ _ _ h => h) (Or.inr ⟨by rfl, rfl⟩) (by assumption) ?_
              try simp only [Act.put, List.setIfInBounds_toArray, List.set_cons_zero, List.set_cons_succ]
              refine wpAnyH_take (i := 15) (oi := { dst := some 27, op := Op.pick (Operand.tmp 18) (Operand.tmp 26) (Operand.const (Value.bool false)), type := 4, pos := "l06_links.go:62", after := #[{ on := 6, ground := Ground.data }, { on := 14, ground := Ground.data }, { on := 3, ground := Ground.guard }], guard := some (3, false) }) (v := undef) rfl (by kernel_rfl) (by kernel_rfl) (by kernel_rfl) (fun _ _ _ h => h) (Or.inr ⟨by rfl, rfl⟩) (by assumption) ?_
              try simp only [Act.put, List.setIfInBounds_toArray, List.set_cons_zero, List.set_cons_succ]
              refine wpAnyH_take (i := 16) (oi := { dst := some 28, op := Op.pick (Operand.tmp 15) (Operand.const (Value.bool true)) (Operand.tmp 27), type := 4, pos := "l06_links.go:62", after := #[{ on := 3, ground := Ground.data }, { on := 15, ground := Ground.data }], guard := none }) (v := ?_) rfl (by kernel_rfl) (by kernel_rfl) (by kernel_rfl) (fun _ _ _ h => h) (Or.inl ⟨by rfl, ?_⟩) (by assumption) ?_
              rotate_left
              · intro w9 hSw
                try dsimp only at hSw
                go_simp
                try with_reducible rfl
              try simp only [Act.put, List.setIfInBounds_toArray, List.set_cons_zero, List.set_cons_succ]
              refine wpAnyH_done (by kernel_rfl) ?_ _
              refine NoPanic.normal ?_
              go_wp2
              go_ret
              exact ⟨ret_bool HE.out, HB.out.trans (S_2.out.below.mono HB.out.size)⟩
            exact AllReadyH.nil
          exact AllReadyH.nil
    · obtain rfl : k0 = n := by omega
      have HE := Lib.hid (show true = ok by rw [← HOK.out]; exact (okSet_iff.mpr (by rw [HL.out]; exact ⟨HV.out, HAS.out⟩)).symm)
      go_wp2
      go_ret
      exact ⟨ret_bool HE.out, HB.out⟩
end Go.Proofs.Ytdilbhkdkppodaa
namespace Go.Proofs.Ytdilbhkdkppodaa
open Go.RowKit Nt Fr
set_option linter.unusedVariables false

/-- Two stores one behind the other. -/
theorem St.comp {w0 w w' : World} {bs bs2 : List (Nat × List Value)} {cs cs2 : List Chunk} (h : St w0 w bs cs) (h2 : St w w' bs2 cs2) : St w0 w' (bs2 ++ bs) (cs2 ++ cs) := by
  have h' := h.call h2.below
  refine ⟨h'.below, fun p hp => ?_, fun l hl => ?_, List.pairwise_append.mpr ⟨h2.bb, h'.bb, fun p hp q hq => ?_⟩, List.pairwise_append.mpr ⟨h2.cc, h'.cc, fun l hl m hm => ?_⟩, fun p hp l hl q hq => ?_⟩
  · rcases List.mem_append.mp hp with a | a
    · exact ⟨(h2.box p a).1, Nat.le_trans h.size (h2.box p a).2⟩
    · exact h'.box p a
  · rcases List.mem_append.mp hl with a | a
    · exact (h2.row l a).based h.size
    · exact h'.row l a
  · have a := (h2.box p hp).2
    have b := (h.box q hq).1.lt
    omega
  · exact (h.row m hm).newer (h2.row l hl) (Nat.le_refl _)
  · rcases List.mem_append.mp hp with a | a
    · rcases List.mem_append.mp hl with c | c
      · exact h2.br p a l c q hq
      · intro k e1 e2
        have x := (h2.box p a).2
        have y := (((h.row l c).1 q hq).lt k e2).2
        obtain rfl : p.1 = k := by simpa using e1
        omega
    · rcases List.mem_append.mp hl with c | c
      · intro k e1 e2
        have x := (h.box p a).1.lt
        have y := (((h2.row l c).1 q hq).lt k e2).1
        obtain rfl : p.1 = k := by simpa using e1
        omega
      · exact h'.br p a l c q hq
theorem like_ok {y z : Lr} (h : y.like z) : y.ok = z.ok := by obtain ⟨h1, h2, h3, h4, h5⟩ := h; unfold Lr.ok; rw [h1, h2, h3, h4, h5]
theorem like_less {y z y2 z2 : Lr} (h : y.like z) (h' : y2.like z2) : y.less y2 = z.less z2 := by obtain ⟨h1, h2, _⟩ := h; obtain ⟨h3, h4, _⟩ := h'; unfold Lr.less; rw [h1, h2, h3, h4]
theorem okSet_like {ys zs : List Lr} {n : Nat} (hy : ys.length = n) (hz : zs.length = n) (h : ∀ (i : Nat) (y z : Lr), ys[i]? = some y → zs[i]? = some z → y.like z) : okSet ys = okSet zs := by
  have G : ∀ i, i < n → ∃ y z, ys[i]? = some y ∧ zs[i]? = some z ∧ y.like z := fun i hi => ⟨ys[i]'(by omega), zs[i]'(by omega), List.getElem?_eq_getElem _, List.getElem?_eq_getElem _, h i _ _ (List.getElem?_eq_getElem _) (List.getElem?_eq_getElem _)⟩
  rw [Bool.eq_iff_iff, okSet_iff, okSet_iff, hy, hz]
  constructor
  · rintro ⟨h1, h2⟩
    refine ⟨fun i z hi hz' => ?_, fun i a b hi ha hb => ?_⟩
    · obtain ⟨y, z', e1, e2, e3⟩ := G i hi
      obtain rfl := Option.some.inj (e2.symm.trans hz')
      rw [← like_ok e3]; exact h1 i y hi e1
    · obtain ⟨y, z', e1, e2, e3⟩ := G i (by omega)
      obtain ⟨y2, z2, f1, f2, f3⟩ := G (i + 1) hi
      obtain rfl := Option.some.inj (e2.symm.trans ha)
      obtain rfl := Option.some.inj (f2.symm.trans hb)
      rw [← like_less e3 f3]; exact h2 i y y2 hi e1 f1
  · rintro ⟨h1, h2⟩
    refine ⟨fun i z hi hz' => ?_, fun i a b hi ha hb => ?_⟩
    · obtain ⟨y, z', e1, e2, e3⟩ := G i hi
      obtain rfl := Option.some.inj (e1.symm.trans hz')
      rw [like_ok e3]; exact h1 i z' hi e2
    · obtain ⟨y, z', e1, e2, e3⟩ := G i (by omega)
      obtain ⟨y2, z2, f1, f2, f3⟩ := G (i + 1) hi
      obtain rfl := Option.some.inj (e1.symm.trans ha)
      obtain rfl := Option.some.inj (f1.symm.trans hb)
      rw [like_less e3 f3]; exact h2 i z' z2 hi e2 f2
theorem like_both {xs ys zs : List Lr} {n : Nat} (hx : xs.length = n) (hy : ys.length = n) (hz : zs.length = n) (h1 : ∀ (i : Nat) (y z : Lr), xs[i]? = some y → zs[i]? = some z → y.like z) (h2 : ∀ (i : Nat) (y z : Lr), ys[i]? = some y → zs[i]? = some z → y.like z) : ∀ (i : Nat) (x y : Lr), xs[i]? = some x → ys[i]? = some y → x.like y := by
  intro i x y ex ey
  have hi : i < n := by have := (List.getElem?_eq_some_iff.mp ex).1; omega
  have ez : zs[i]? = some (zs[i]'(by omega)) := List.getElem?_eq_getElem _
  obtain ⟨a1, a2, a3, a4, a5⟩ := h1 i x _ ex ez
  obtain ⟨b1, b2, b3, b4, b5⟩ := h2 i y _ ey ez
  exact ⟨a1.trans b1.symm, a2.trans b2.symm, a3.trans b3.symm, a4.trans b4.symm, a5.trans b5.symm⟩
end Go.Proofs.Ytdilbhkdkppodaa
namespace Go.Proofs.Ytdilbhkdkppodaa
open Go.ChangeShapes Go.WideShapes Go.ChangeAt Go.RowKit Go.Joins Go.Deep
set_option linter.unusedVariables false

theorem add_plainK (b off i : Nat) : (⟨b, off, none⟩ : Addr).add i = ⟨b, off + i, none⟩ := by unfold Addr.add; split <;> simp_all
section
variable {H : Type} {enc : TypeId × Value → H} {P : Program} {w : World}
theorem isLinks_of {t e tr : TypeId} {a : Option Addr} {len cap : Nat} {d : DataW H} {p : List MemPlace} (hr : LinkT P e tr) (ht : P.underlying t = some (.slice e))
    (h : DataW.Trod enc P w 0 (fun _ => true) true t (.slice a len cap) d p) : ∃ zs, IsLinks w a len cap zs := by
  have hC : P.cellsOf e = 11 := by obtain ⟨_, _, _, _, _, _, _, _, _, _, _, _, hC⟩ := hr; exact hC
  obtain ⟨fuel, hf⟩ := h
  rcases open_slice ht hf with ⟨hcs, _⟩ | ⟨x, l, c, m, n, D, Pl, hcs, _, hl, hm, hme, _, hall⟩
  · simp [Value.cells] at hcs
    obtain ⟨rfl, rfl, rfl⟩ := hcs
    exact ⟨[], ⟨rfl, fun h => absurd h (Nat.lt_irrefl 0), by simp⟩, Nat.le_refl _, by unfold maxLen; omega⟩
  · simp [Value.cells] at hcs
    obtain ⟨rfl, rfl, rfl⟩ := hcs
    have hmc : m = cap := by simpa using hme
    subst hmc
    have key : ∀ i, i < len → ∃ z : Lr, z.rd w ∧ ∀ (j : Nat) (v : Value), z.cells[j]? = some v → w.cell? (x.add (i * 11 + j)) = some v := by
      intro i hi
      obtain ⟨cs', hc, ht'⟩ := hall i (by omega)
      rw [hC] at hc
      obtain ⟨_, hlen, hcell⟩ := World.cells?_some hc
      obtain ⟨c0, c1, c2, c3, c4, c5, c6, c7, c8, c9, c10, rfl⟩ := list11 hlen
      obtain ⟨A, B, X, Y, Z, rfl, rfl, rfl, rfl, rfl, hL⟩ := link_cells hr ht'
      have hadd : ∀ (y : Addr) (i j : Nat), (y.add i).add j = y.add (i + j) := by
        intro y i j
        unfold Addr.add
        by_cases hi : i = 0 <;> by_cases hj : j = 0 <;> simp [hi, hj, Nat.add_assoc]
      refine ⟨⟨A, B, X, Y, Z, c3, c4, c6, c7, c9, c10⟩, hL, fun j v hj => ?_⟩
      have hj' : j < 11 := by have := (List.getElem?_eq_some_iff.mp hj).1; simpa [Lr.cells] using this
      have b := hcell j (by omega)
      rw [hadd] at b
      rw [b]
      simpa [Lr.cells] using hj
    have hF : ∃ F : Nat → Lr, ∀ i, i < len → (F i).rd w ∧ ∀ (j : Nat) (v : Value), (F i).cells[j]? = some v → w.cell? (x.add (i * 11 + j)) = some v := by
      refine ⟨fun i => if hi : i < len then Classical.choose (key i hi) else ⟨0, 0, Fr.zero, Fr.zero, Fr.zero, .nilIface, .nilIface, .nilIface, .nilIface, .nilIface, .nilIface⟩, fun i hi => ?_⟩
      simp only [dif_pos hi]
      exact Classical.choose_spec (key i hi)
    obtain ⟨F, hF⟩ := hF
    refine ⟨(List.range len).map F, ⟨by simp, fun hn => ?_, fun z hz => ?_⟩, hl, hm⟩
    · obtain ⟨b, off, spot⟩ := x
      have z0 := (hF 0 hn).2 0 _ rfl
      rw [Nat.zero_mul, Nat.zero_add] at z0
      have hspot : spot = none := by simpa [Addr.add] using World.cell?_spot z0
      subst hspot
      refine ⟨b, off, rfl, World.block_lt_of_cell? w _ z0, fun k hk j v hj => ?_⟩
      have hk' : k < len := by simpa using hk
      have e : ((List.range len).map F)[k] = F k := by simp
      rw [e] at hj
      have := (hF k hk').2 j v hj
      rw [add_plainK] at this
      rw [Nat.add_assoc]; exact this
    · obtain ⟨i, hi, rfl⟩ := List.mem_map.mp hz
      exact (hF i (List.mem_range.mp hi)).1
end
end Go.Proofs.Ytdilbhkdkppodaa
namespace Go.Proofs.Ytdilbhkdkppodaa.lawIsLinkSet
open Go.ChangeShapes Go.WideShapes Go.ChangeAt Go.RowKit
open Go.ChangeMaps (open_string shut_string)
set_option linter.unusedVariables false

theorem own : ownKnob Try.prog.godebug = none := by kernel_rfl
theorem laidOut : laidOutB Try.prog = true := by kernel_rfl
open Nt Fr

set_option maxRecDepth 100000 in
set_option maxHeartbeats 4000000 in
theorem walk (W : World) (a0 : Option Addr) (len0 cap0 : Nat) (z0 : List Lr) (w0 : IsLinks W a0 len0 cap0 z0) :
    Calls Try.prog 5 #[.slice a0 len0 cap0] W fun e w' => e = .returned (.bool true) ∧ Below W.heap.size W w' := by
  obtain ⟨hA, hcap, hcm⟩ := w0
  have hlm : len0 ≤ 9223372036854775807 := by unfold maxLen at hcm; omega
  have HZ := Lib.hid hA.1
  have HA := Lib.hid hA
  clear hA hcm
  obtain ⟨ok, hok⟩ : ∃ q, okSet z0 = q := ⟨_, rfl⟩
  have HOK := Lib.hid hok
  have S_0 := Lib.hid (St.start W)
  clear hok
  go_enter Try.func5, Try.ntmps5
  go_wp2_with fail
  refine (szLinkS_any a0 len0 cap0 z0 1048576 _ (by omega) (by omega) (HA.out.below S_0.out.below) hlm).mono ?_
  rintro e w1 ⟨rfl, hb⟩
  have S_1 := Lib.hid (S_0.out.call hb)
  clear hb S_0
  by_cases hs : (1048576 : Int) < ((len0 + lensL z0 : Nat) : Int)
  · rw [szOf_neg hs]
    go_wp2
    go_ret
    exact ⟨rfl, S_1.out.below⟩
  rw [szOf_pos hs]
  obtain ⟨left0, hq⟩ : ∃ q : Int, 1048576 - ((len0 + lensL z0 : Nat) : Int) = q := ⟨_, rfl⟩
  have hl0 : 0 ≤ left0 := by omega
  have HN := Lib.hid (show len0 + lensL z0 ≤ 1048576 by omega)
  have hl1 : len0 ≤ 1048576 := by omega
  rw [hq]
  clear hq hs
  go_wp2_with fail
  refine (toLinkS_any a0 len0 cap0 z0 _ (HA.out.below S_1.out.below) HN.out).mono ?_
  rintro e w2 ⟨bt, yt, rfl, hyl, hlk, hst⟩
  rw [HZ.out] at hyl ⊢
  have HYt := Lib.hid hyl
  have HKt := Lib.hid hlk
  have S_2 := Lib.hid (S_1.out.comp hst)
  clear hyl hlk hst S_1
  have HOt := Lib.hid ((okSet_like HYt.out HZ.out HKt.out).trans HOK.out)
  go_wp2_with fail
  refine (isLinkSet_s (some ⟨bt, 0, none⟩) len0 len0 yt _ (HYt.out ▸ S_2.out.larg 0 0 rfl rfl) hl1).mono ?_
  rintro e w3 ⟨rfl, hb⟩
  rw [HOt.out]
  have S_3 := Lib.hid (S_2.out.call hb)
  clear hb S_2
  go_wp2_with fail
  refine (toLinkS_any a0 len0 cap0 z0 _ (HA.out.below S_3.out.below) HN.out).mono ?_
  rintro e w4 ⟨bx, yx, rfl, hyl, hlk, hst⟩
  rw [HZ.out] at hyl ⊢
  have HYx := Lib.hid hyl
  have HKx := Lib.hid hlk
  have S_4 := Lib.hid (S_3.out.comp hst)
  clear hyl hlk hst S_3
  have HOx := Lib.hid ((okSet_like HYx.out HZ.out HKx.out).trans HOK.out)
  go_wp2_with fail
  refine (isLinkSet_i (some ⟨bx, 0, none⟩) len0 len0 yx _ (HYx.out ▸ S_4.out.larg 0 0 rfl rfl) hl1 (fun u h => isAscending_f _ len0 len0 yx u h hl1)).mono ?_
  rintro e w5 ⟨rfl, hb⟩
  rw [HOx.out]
  have S_5 := Lib.hid (S_4.out.call hb)
  clear hb S_4
  go_wp2_with fail
  refine (toLinkS_any a0 len0 cap0 z0 _ (HA.out.below S_5.out.below) HN.out).mono ?_
  rintro e w6 ⟨by0, yy, rfl, hyl, hlk, hst⟩
  rw [HZ.out] at hyl ⊢
  have HYy := Lib.hid hyl
  have HKy := Lib.hid hlk
  have S_6 := Lib.hid (S_5.out.comp hst)
  clear hyl hlk hst S_5
  go_wp2_with fail
  refine (eqLinkS_same (some ⟨bx, 0, none⟩) (some ⟨by0, 0, none⟩) len0 len0 len0 yx yy _ (HYx.out ▸ S_6.out.lrow 1 1 rfl rfl) (HYy.out ▸ S_6.out.lrow 0 0 rfl rfl) (like_both HYx.out HYy.out HZ.out HKx.out HKy.out) hl1).mono ?_
  rintro e w7 ⟨rfl, hb⟩
  have S_7 := Lib.hid (S_6.out.call hb)
  clear hb S_6
  go_wp2
  go_ret
  exact ⟨rfl, S_7.out.below⟩

set_option maxRecDepth 100000 in
theorem lifted (os : Os) (started : os.Started) (H : Type) (enc : TypeId × Value → H) :
    ReturnsInHanded {} Try.checked os 5 .any (Rows.fnExactIsLinkSetSpec.pre6 enc Try.prog Try.f5 Rows.fnExactIsLinkSetRow.domain false) (Rows.fnExactIsLinkSetSpec.post enc Try.prog Try.f5 false true false false) := by
  refine returnsInHanded_of_change (C := Try.checked) own started (by kernel_rfl) Try.func5
    (ChangeSpec.witness6 (enc := enc) (C := Try.checked) false ⟨#[], #[.slice none 0 0], []⟩ 8 (by kernel_rfl) (by kernel_rfl) (by kernel_rfl) (by kernel_rfl)) ?_
  intro W base args ds gs before hval0 hW hcnd _
  have hval : ∀ (j : Nat) t v, Try.f5.params[j]? = some t → args[j]? = some v → Value.okWide Try.prog W .any base t v := hval0
  have hW' := hW
  obtain ⟨p, q, hA0, hV, rfl, hfz, hnd⟩ := hW
  have hA : DataW.TrodAll enc Try.prog W 0 (fun _ => true) true Try.f5.params.toList args.toList ds p := hA0
  rw [Try.params5] at hA hval
  obtain ⟨v0, vs0, d0, ds0, p0, q0, hargs, rfl, rfl, h0, r0⟩ := trodAll_cons hA
  obtain ⟨rfl, rfl, rfl⟩ := trodAll_nil r0
  obtain rfl : args = #[v0] := by cases args; simp_all
  obtain ⟨rfl, rfl⟩ := trodVars_none hV
  obtain ⟨a0, len0, cap0, rfl⟩ := okWide_slice Try.underlying43 (hval 0 43 v0 rfl rfl)
  have k0 := h0
  have lt0 : ∀ x ∈ p0, x.block < W.heap.size := by obtain ⟨m, hm⟩ := k0; exact DataW.trod_lt m _ _ _ hm
  obtain ⟨z0, w0⟩ := isLinks_of linkT Try.underlying43 h0
  clear hA0 hval0
  refine (walk W a0 len0 cap0 z0 w0).mono fun e W' ⟨he, bel⟩ => ?_
  subst he
  exact ⟨_, rfl, _, _, _, [], _, [], hW', trodAll_mk1 (shut_bool Try.underlying4 _), (trodAll_cons_mk (Below.trod laidOut (by kernel_rfl) (of_decide_eq_true (by kernel_rfl)) k0 bel lt0) trodAll_mk0), rfl, bel.frame _, fun h => by cases h⟩

theorem over : Rows.fnExactIsLinkSetRow.holds Try.pinned (OpenSpec.ofChange Rows.fnExactIsLinkSetSpec) :=
  OpenClaim.holds_of_wide 5 Try.f5 rfl rfl rfl rfl rfl rfl rfl ⟨rfl, rfl, rfl, rfl, rfl⟩ rfl rfl rfl rfl rfl (by kernel_rfl) Try.func5 (by kernel_rfl)
    (of_decide_eq_true (by kernel_rfl)) (by unfold Func.isWrapper; first | (rw [if_pos (by decide +kernel)]; kernel_rfl) | (rw [if_neg (by decide +kernel)]; exact ⟨rfl, rfl⟩))
    (fun os started H enc _ => lifted os started H enc)

theorem proved : Rows.FnExactIsLinkSetSaid := over
#print axioms proved
end Go.Proofs.Ytdilbhkdkppodaa.lawIsLinkSet
