/- Contracts of the laws' own draws (the cursor over the code): l01New, l01Byte, l01Below, l01Str, l32New. -/
import Derived.Test.YtdilgjakodimbaaDoorProg
import Derived.Test.YtdilgjakodimbaaDoorMem
import Derived.IntWalk
namespace Go.Proofs.YtdilgjakodimbaaDoor
open Go.RowKit
set_option linter.unusedVariables false

/-- Block g is a cursor over the bytes zs, which lie below B or are none. -/
structure CurAt (B : Nat) (zs : List Int) (A : Option Addr) (n c g : Nat) (w : World) : Prop where
  ge : B ≤ g
  bytes : VRow w A n (zs.map (.int .u8))
  low : 0 < n → ∃ g0 o, A = some ⟨g0, o, none⟩ ∧ g0 < B
  len : n ≤ 1048576
  fits : ∀ z ∈ zs, 0 ≤ z ∧ z ≤ 255
  block : ∃ i h : Int, w.heap[g]? = some (.cells #[.slice A n c, .int .i64 i, .int .i64 h] 116 (0, 0)) ∧ 0 ≤ i ∧ i ≤ n

theorem CurAt.lt {B : Nat} {zs : List Int} {A : Option Addr} {n c g : Nat} {w : World} (hc : CurAt B zs A n c g w) : g < w.heap.size := by
  obtain ⟨i, h, hb, _⟩ := hc.block
  exact (Array.getElem?_eq_some_iff.1 hb).1
theorem CurAt.alloc {B : Nat} {zs : List Int} {A : Option Addr} {n c g : Nat} {w : World} (hc : CurAt B zs A n c g w) (o : Obj) : CurAt B zs A n c g (w.alloc o) := by
  have hl := hc.lt
  obtain ⟨i, h, hb, h0, h1⟩ := hc.block
  exact ⟨hc.ge, hc.bytes.below ((Below.refl w.heap.size w).alloc (Nat.le_refl _) o) (Nat.le_refl _), hc.low, hc.len, hc.fits, i, h, (Below.heap_alloc w o g hl).trans hb, h0, h1⟩
theorem vrow_new (w : World) (cs : List Value) (t : TypeId) : VRow (w.alloc (.cells cs.toArray t)) (some ⟨w.heap.size, 0, none⟩) cs.length cs := by
  refine ⟨rfl, fun _ => ⟨w.heap.size, 0, rfl, by simp, fun k hk => ?_⟩⟩
  rw [cell_of_row _ w.heap.size (0 + k) _ _ (0, 0) (heap_alloc_new w _)]
  simp
theorem and255 (n : Int) : bits .and .i64 n 255 = n % 256 := by
  have h255 : (BitVec.ofInt 64 255).toNat = 2 ^ 8 - 1 := by decide
  have key : (BitVec.ofInt 64 n &&& BitVec.ofInt 64 255).toNat = (n % ((2 ^ 64 : Nat) : Int)).toNat % 2 ^ 8 := by
    rw [BitVec.toNat_and, BitVec.toNat_ofInt, h255, Nat.and_two_pow_sub_one_eq_mod]
  show IntKind.i64.wrap ((BitVec.ofInt 64 n &&& BitVec.ofInt 64 255).toNat : Nat) = n % 256
  rw [key, IntKind.wrap_i64]
  omega
theorem and255_le (n : Int) : 0 ≤ bits .and .i64 n 255 ∧ bits .and .i64 n 255 ≤ 255 := by rw [and255]; omega
/-- What a draw of the cursor leaves: a byte, and the cursor again. -/
def Drawn (B : Nat) (zs : List Int) (A : Option Addr) (n c g : Nat) (hi : Int) (w : World) (e : Ending) (w' : World) : Prop :=
  ∃ x : Int, e = .returned (.int .i64 x) ∧ 0 ≤ x ∧ x ≤ hi ∧ CurAt B zs A n c g w' ∧ w.grownBy w' (some g)
theorem CurAt.keep {B : Nat} {zs : List Int} {A : Option Addr} {n c g : Nat} {w w' : World} {i h : Int} (hc : CurAt B zs A n c g w) (hg : w.grownBy w' (some g))
    (hb : w'.heap[g]? = some (.cells #[.slice A n c, .int .i64 i, .int .i64 h] 116 (0, 0))) (h0 : 0 ≤ i) (h1 : i ≤ n) : CurAt B zs A n c g w' := by
  refine ⟨hc.ge, ?_, hc.low, hc.len, hc.fits, i, h, hb, h0, h1⟩
  by_cases hn : 0 < n
  · obtain ⟨g0, o, rfl, hlt⟩ := hc.low hn
    exact hc.bytes.grown hg (fun a ha => by
      injection ha with ha
      subst ha
      intro e
      have e' : g0 = g := by simpa using e
      have := hc.ge
      omega)
  · obtain rfl : n = 0 := by omega
    have : zs.map (Value.int .u8) = [] := List.eq_nil_of_length_eq_zero hc.bytes.1
    rw [this]
    exact VRow.empty _ _
theorem grown_set {w : World} {g : Nat} (k : Nat) (u : Value) : w.grownBy (w.setCell ⟨g, k, none⟩ u) (some g) :=
  ⟨rfl, rfl, rfl, by simp [World.setCell], fun j _ hj => heap_setCell_other w ⟨g, k, none⟩ j u (fun e => hj (by simp [e]))⟩
theorem grown_drewN {w w' : World} {row : Option Nat} (h : w.grownBy w' row) (k : Nat) : w.grownBy (w'.drewN k) row := ⟨h.os, h.tape, h.output, h.size, h.block⟩
theorem cur_frame {w : World} {a0 a1 a2 v1 v2 : Value} {t : TypeId} {g : Nat} (hb : w.heap[g]? = some (.cells #[a0, a1, a2] t (0, 0))) :
    (w.setCell ⟨g, 2, none⟩ v2).heap[g]? = some (.cells #[a0, a1, v2] t (0, 0)) ∧ ((w.setCell ⟨g, 2, none⟩ v2).setCell ⟨g, 1, none⟩ v1).heap[g]? = some (.cells #[a0, v1, v2] t (0, 0)) := by
  have h1 := heap_setCell_same w g 2 _ t v2 hb
  have h2 := heap_setCell_same (w.setCell ⟨g, 2, none⟩ v2) g 1 _ t v1 h1
  exact ⟨h1, h2⟩

set_option maxHeartbeats 1000000 in
theorem l01Byte_any (B : Nat) (zs : List Int) (A : Option Addr) (n c g : Nat) (w : World) (hc : CurAt B zs A n c g w) :
    Calls Tryd.prog 70 #[.pointer (some ⟨g, 0, none⟩)] w (Drawn B zs A n c g 255 w) := by
  obtain ⟨i, h, hblk, hi0, hin⟩ := hc.block
  have hlen := hc.len
  have c0 : w.cell? ⟨g, 0, none⟩ = some (.slice A n c) := by rw [cell_of_row w g 0 _ _ (0, 0) hblk]; rfl
  have c1 : w.cell? ⟨g, 1, none⟩ = some (.int .i64 i) := by rw [cell_of_row w g 1 _ _ (0, 0) hblk]; rfl
  have c2 : w.cell? ⟨g, 2, none⟩ = some (.int .i64 h) := by rw [cell_of_row w g 2 _ _ (0, 0) hblk]; rfl
  have f1 : w.frozen? ⟨g, 1, none⟩ = false := frozen_of_row w g 1 _ _ hblk
  have f2 : w.frozen? ⟨g, 2, none⟩ = false := frozen_of_row w g 2 _ _ hblk
  have HC := Lib.hid hc
  have HK := Lib.hid hblk
  clear hc hblk
  by_cases hlt : i < n
  · obtain ⟨k, rfl⟩ : ∃ k : Nat, i = (k : Int) := ⟨i.toNat, by omega⟩
    have hkn : k < n := by omega
    obtain ⟨g0, o, rfl, hg0⟩ := HC.out.low (by omega)
    have hzl : zs.length = n := by simpa using HC.out.bytes.1
    obtain ⟨g1, o1, hgo, hg1, hcell⟩ := HC.out.bytes.at_ hkn
    obtain ⟨rfl, rfl⟩ : g0 = g1 ∧ o = o1 := by simpa using hgo
    have hz := HC.out.fits (zs[k]'(by omega)) (List.getElem_mem _)
    have hgg : g0 ≠ g := by have := HC.out.ge; omega
    simp only [List.getElem_map] at hcell
    obtain ⟨z, hze⟩ : ∃ z, zs[k]'(by omega) = z := ⟨_, rfl⟩
    rw [hze] at hcell hz
    obtain ⟨hz0, hz1⟩ := hz
    clear hze hgo hzl hi0 hin
    go_enter Tryd.func70, Tryd.ntmps70
    go_wp2
    go_quiet (fail)
    go_wp2
    have hx := and255_le (bits BinOp.xor IntKind.i64 (wrap64 (wrap64 (h * 6364136223846793005) + 1442695040888963407) / 8589934592) (wrap64 (wrap64 (h * 6364136223846793005) + 1442695040888963407) / 35184372088832))
    generalize bits BinOp.and IntKind.i64 (bits BinOp.xor IntKind.i64 (wrap64 (wrap64 (h * 6364136223846793005) + 1442695040888963407) / 8589934592) (wrap64 (wrap64 (h * 6364136223846793005) + 1442695040888963407) / 35184372088832)) 255 = x at hx ⊢
    generalize wrap64 (wrap64 (h * 6364136223846793005) + 1442695040888963407) = h' at *
    obtain ⟨hx0, hx1⟩ := hx
    have hcell' : (w.setCell ⟨g, 2, none⟩ (.int .i64 h')).cell? ⟨g0, o + k, none⟩ = some (.int .u8 z) := by
      rw [World.cell?_setCell_other w _ _ _ (fun e => hgg (by simpa using (congrArg Addr.block e).symm))]
      exact hcell
    have hw : IntKind.i64.wrap (x + z) = x + z := IntWalk.i64_in _ (by omega)
    have hb := and255_le (x + z)
    obtain ⟨y, hy⟩ : ∃ y, bits .and .i64 (x + z) 255 = y := ⟨_, rfl⟩
    rw [hy] at hb
    obtain ⟨hb0, hb1⟩ := hb
    go_quiet (fail)
    go_wp2
    go_quiet (fail)
    go_wp2
    go_ret
    have F := cur_frame (v1 := .int .i64 ((k : Int) + 1)) (v2 := .int .i64 h') HK.out
    have G := grown_grown (grown_set (w := w) (g := g) 2 (.int .i64 h')) (grown_set 1 (.int .i64 ((k : Int) + 1)))
    exact ⟨y, rfl, hb0, hb1, HC.out.keep (grown_drewN G _) F.2 (by omega) (by omega), grown_drewN G _⟩
  · have hlt' : decide (i < (n : Int)) = false := decide_eq_false hlt
    go_enter Tryd.func70, Tryd.ntmps70
    go_wp2
    go_quiet (fail)
    go_wp2
    have hx := and255_le (bits BinOp.xor IntKind.i64 (wrap64 (wrap64 (h * 6364136223846793005) + 1442695040888963407) / 8589934592) (wrap64 (wrap64 (h * 6364136223846793005) + 1442695040888963407) / 35184372088832))
    generalize bits BinOp.and IntKind.i64 (bits BinOp.xor IntKind.i64 (wrap64 (wrap64 (h * 6364136223846793005) + 1442695040888963407) / 8589934592) (wrap64 (wrap64 (h * 6364136223846793005) + 1442695040888963407) / 35184372088832)) 255 = x at hx ⊢
    generalize wrap64 (wrap64 (h * 6364136223846793005) + 1442695040888963407) = h' at *
    obtain ⟨hx0, hx1⟩ := hx
    go_quiet (fail)
    go_wp2
    go_ret
    have F := cur_frame (v1 := .int .i64 0) (v2 := .int .i64 h') HK.out
    have G := grown_set (w := w) (g := g) 2 (.int .i64 h')
    exact ⟨x, rfl, hx0, hx1, HC.out.keep (grown_drewN (grown_drewN G _) _) F.1 hi0 hin, grown_drewN (grown_drewN G _) _⟩

set_option maxHeartbeats 400000 in
theorem l01Below_any (B : Nat) (zs : List Int) (A : Option Addr) (n c g : Nat) (w : World) (m : Int) (hm0 : 0 < m) (hm1 : m ≤ 256) (hc : CurAt B zs A n c g w) :
    Calls Tryd.prog 68 #[.pointer (some ⟨g, 0, none⟩), .int .i64 m] w (Drawn B zs A n c g (m - 1) w) := by
  have HC := Lib.hid hc
  clear hc
  go_enter Tryd.func68, Tryd.ntmps68
  go_wp2_with fail
  refine (l01Byte_any B zs A n c g _ HC.out).mono ?_
  rintro e w1 ⟨x, rfl, hx0, hx1, hc1, hg1⟩
  have HC1 := Lib.hid hc1
  have HG1 := Lib.hid hg1
  clear hc1 hg1
  go_wp2
  go_ret
  refine ⟨_, rfl, ?_, ?_, HC1.out, HG1.out⟩
  · exact Int.emod_nonneg _ (by omega)
  · have := Int.emod_lt_of_pos x hm0
    omega

/-- What New leaves: a cursor at its beginning in a new block. -/
def Begun (zs : List Int) (A : Option Addr) (n c : Nat) (w : World) (e : Ending) (w' : World) : Prop :=
  ∃ g, e = .returned (.pointer (some ⟨g, 0, none⟩)) ∧ CurAt w.heap.size zs A n c g w' ∧ Below w.heap.size w w'

theorem begun_of {zs : List Int} {A : Option Addr} {n : Nat} (c : Nat) {w : World} (h : Int) (hA : VRow w A n (zs.map (.int .u8))) (hn : n ≤ 1048576) (hz : ∀ z ∈ zs, 0 ≤ z ∧ z ≤ 255) :
    Begun zs A n c w (.returned (.pointer (some ⟨w.heap.size, 0, none⟩))) (w.alloc (.cells #[.slice A n c, .int .i64 0, .int .i64 h] 116)) := by
  have hb : Below w.heap.size w (w.alloc (.cells #[.slice A n c, .int .i64 0, .int .i64 h] 116)) := (Below.refl _ _).alloc (Nat.le_refl _) _
  refine ⟨w.heap.size, rfl, ⟨Nat.le_refl _, hA.below hb (Nat.le_refl _), fun h0 => ?_, hn, hz, 0, h, heap_alloc_new w _, by omega, by omega⟩, hb⟩
  obtain ⟨g, o, e, hg, _⟩ := hA.2 h0
  exact ⟨g, o, e, hg⟩

set_option maxRecDepth 100000 in
set_option maxHeartbeats 1000000 in
theorem l01New_any (zs : List Int) (A : Option Addr) (n c : Nat) (w : World) (hA : VRow w A n (zs.map (.int .u8))) (hn : n ≤ 1048576) (hz : ∀ z ∈ zs, 0 ≤ z ∧ z ≤ 255) :
    Calls Tryd.prog 69 #[.slice A n c] w (Begun zs A n c w) := by
  have HL := Lib.hid (show zs.length = n by simpa using hA.1)
  have HZ := Lib.hid hz
  clear hz
  go_enter Tryd.func69, Tryd.ntmps69
  go_wp2
  go_loop [3, 4] (fun h i => ∃ (k : Nat) (z : Int), k ≤ n ∧ i = .int .i64 k ∧ h = .int .i64 z) (fun _ i => n - (intOf i).toNat)
  case atStart => exact ⟨0, _, Nat.zero_le _, rfl, rfl⟩
  case round =>
    obtain ⟨k, z, hk, rfl, rfl⟩ := hrel
    by_cases hlt : k < n
    · by_cases h4 : k < 4000
      · obtain ⟨g, o, rfl, hg, hc⟩ := hA.at_ hlt
        have hkz : k < zs.length := by have := HL.out; omega
        simp only [List.getElem_map] at hc
        have hb := HZ.out (zs[k]) (List.getElem_mem hkz)
        obtain ⟨b, hbe⟩ : ∃ b, zs[k] = b := ⟨_, rfl⟩
        rw [hbe] at hc hb
        obtain ⟨hb0, hb1⟩ := hb
        clear hbe
        go_wp2
        exact ⟨⟨k + 1, _, by omega, by go_num, rfl⟩, by simp [intOf]; omega⟩
      · have h4' : decide ((k : Int) < 4000) = false := by simp; omega
        go_wp2
        go_ret
        exact begun_of _ _ hA hn HZ.out
    · go_wp2
      go_ret
      exact begun_of _ _ hA hn HZ.out

set_option maxHeartbeats 400000 in
theorem l32New_any (zs : List Int) (A : Option Addr) (n c : Nat) (m : Int) (w : World) (hm0 : 0 ≤ m) (hm1 : m ≤ 1048576) (hA : VRow w A n (zs.map (.int .u8))) (hn : n ≤ 1048576) (hz : ∀ z ∈ zs, 0 ≤ z ∧ z ≤ 255) :
    Calls Tryd.prog 38 #[.slice A n c, .int .i64 m] w (Begun zs A n c w) := by
  have HA := Lib.hid hA
  have HZ := Lib.hid hz
  obtain ⟨m, rfl⟩ : ∃ k : Nat, m = (k : Int) := ⟨m.toNat, by omega⟩
  clear hz hA
  go_enter Tryd.func38, Tryd.ntmps38
  go_wp2_with fail
  refine (l01New_any zs A n c w HA.out hn HZ.out).mono ?_
  rintro e w1 ⟨g, rfl, hc1, hb1⟩
  have HC1 := Lib.hid hc1
  have HB1 := Lib.hid hb1
  clear hc1 hb1
  go_wp2
  go_loopw [6] (fun i wr => ∃ k : Nat, k ≤ m ∧ i = .int .i64 k ∧ CurAt w.heap.size zs A n c g wr ∧ Below w.heap.size w wr) (fun i _ => m - (intOf i).toNat)
  case atStart => exact ⟨0, Nat.zero_le _, rfl, HC1.out, HB1.out⟩
  case round =>
    obtain ⟨k, hk, rfl, hc, hb⟩ := hrel
    have HC := Lib.hid hc
    have HB := Lib.hid hb
    clear hc hb
    by_cases hlt : k < m
    · go_wp2_with fail
      refine (l01Byte_any _ zs A n c g _ HC.out).mono ?_
      rintro e w2 ⟨x, rfl, hx0, hx1, hc2, hg2⟩
      have HC2 := Lib.hid hc2
      have HG2 := Lib.hid hg2
      clear hc2 hg2
      go_wp2
      exact ⟨⟨k + 1, by omega, by go_num, HC2.out, HB.out.grown HG2.out HB.out.size (fun j hj => by injection hj with hj; rw [← hj]; exact HC.out.ge)⟩, by simp [intOf]; omega⟩
    · go_wp2
      go_ret
      exact ⟨g, rfl, HC.out, HB.out⟩
end Go.Proofs.YtdilgjakodimbaaDoor
