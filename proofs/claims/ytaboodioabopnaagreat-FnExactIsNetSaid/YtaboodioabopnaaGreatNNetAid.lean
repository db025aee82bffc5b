/- A slice of conditionals among a law's arguments, opened; how the law's conditionals are read. Conditions: none. -/
import Derived.Test.YtaboodioabopnaaGreatNNetMath
import Derived.Test.YtaboodioabopnaaGreatNOpenL
import Derived.Deep.Slices
namespace Go.Proofs.YtaboodioabopnaaGreat
open Go.ChangeShapes Go.WideShapes Go.ChangeAt Go.RowKit Go.Joins Go.Deep Nt Fr
set_option linter.unusedVariables false
theorem cond_cells {H : Type} {enc : TypeId × Value → H} {Pg : Program} {w : World} {t tr tp te : TypeId} {fuel : Nat} {l : List Value} {x : DataW H × List MemPlace} (hr : condT Pg t tr tp te) (hl : l.length = 5) (hf : DataW.trod enc Pg w 0 (fun _ => true) true fuel t l = some x) : ∃ m : Cd, m.rd w ∧ l = m.cells := by
 obtain ⟨hr, hp, htp, f0, f1, f2, hs, ⟨o0, o1, o2⟩, ⟨k0, k1, k2⟩, ⟨t1, t2⟩, u0, hC⟩ := hr
 obtain ⟨c0, c1, c2, c3, c4, rfl⟩ : ∃ c0 c1 c2 c3 c4, l = [c0, c1, c2, c3, c4] := by
   match l, hl with
   | [c0, c1, c2, c3, c4], _ => exact ⟨c0, c1, c2, c3, c4, rfl⟩
 obtain ⟨xs, n, _, hx, hl, hlen, hfs⟩ := DataW.trod_struct hs hf
 match xs, hlen with
 | [y0, y1, y2], _ =>
   have g0 := hfs 0 f0 rfl
   have g1 := hfs 1 f1 rfl
   have g2 := hfs 2 f2 rfl
   rw [t1] at g1
   rw [t2] at g2
   have g0' : DataW.trod enc Pg w 0 (fun _ => true) true n f0.type [c0] = some y0 := by simpa [Value.cells, o0, k0] using g0
   have g1' : DataW.trod enc Pg w 0 (fun _ => true) true n tr [c1, c2, c3] = some y1 := by simpa [Value.cells, o1, k1] using g1
   have g2' : DataW.trod enc Pg w 0 (fun _ => true) true n tp [c4] = some y2 := by simpa [Value.cells, o2, k2] using g2
   obtain ⟨N, e0, _⟩ := DataW.trod_int u0 g0'
   obtain ⟨T, rfl, hT⟩ := rat_cells hr g1'
   obtain ⟨a, len, cap, e4⟩ := slice_form htp g2'
   obtain rfl : c0 = .int .i64 N := by simpa using e0
   obtain rfl : c4 = .slice a len cap := by simpa using e4
   obtain ⟨zs, hz, h1, h2⟩ := isParentS_of hp htp (⟨n, by simpa [Value.cells] using g2'⟩ : DataW.Trod enc Pg w 0 (fun _ => true) true tp (.slice a len cap) y2.1 y2.2)
   exact ⟨⟨N, T, _, _, a, len, cap, zs⟩, ⟨hT, hz, h1, h2⟩, rfl⟩
theorem isCondS_of {H : Type} {enc : TypeId × Value → H} {Pg : Program} {w : World} {t e tr tp te : TypeId} {a : Option Addr} {len cap : Nat} {d : DataW H} {p : List MemPlace} (hr : condT Pg e tr tp te) (ht : Pg.underlying t = some (.slice e))
   (h : DataW.Trod enc Pg w 0 (fun _ => true) true t (.slice a len cap) d p) : ∃ ms, CRow w a len ms ∧ len ≤ cap ∧ cap ≤ maxLen := by
 have hC : Pg.cellsOf e = 5 := by obtain ⟨_, _, _, _, _, _, _, _, _, _, _, hC⟩ := hr; exact hC
 obtain ⟨fuel, hf⟩ := h
 rcases open_slice ht hf with ⟨hcs, _⟩ | ⟨x, l, c, m, n, D, Pl, hcs, _, hl, hm, hme, _, hall⟩
 · simp [Value.cells] at hcs
   obtain ⟨rfl, rfl, rfl⟩ := hcs
   exact ⟨[], CRow.nil, Nat.le_refl _, by unfold maxLen; omega⟩
 · simp [Value.cells] at hcs
   obtain ⟨rfl, rfl, rfl⟩ := hcs
   have hmc : m = cap := by simpa using hme
   subst hmc
   have key : ∀ i, i < len → ∃ z : Cd, z.rd w ∧ ∀ (j : Nat) (v : Value), z.cells[j]? = some v → w.cell? (x.add (i * 5 + j)) = some v := by
     intro i hi
     obtain ⟨cs', hc, ht'⟩ := hall i (by omega)
     rw [hC] at hc
     obtain ⟨_, hlen, hcell⟩ := World.cells?_some hc
     obtain ⟨z, hrd, rfl⟩ := cond_cells hr hlen ht'
     have hadd : ∀ (y : Addr) (i j : Nat), (y.add i).add j = y.add (i + j) := by
       intro y i j
       unfold Addr.add
       by_cases hi : i = 0 <;> by_cases hj : j = 0 <;> simp [hi, hj, Nat.add_assoc]
     refine ⟨z, hrd, fun j v hj => ?_⟩
     have hj' : j < 5 := by have := (List.getElem?_eq_some_iff.mp hj).1; simpa [Cd.cells] using this
     have b := hcell j (by omega)
     rw [hadd] at b
     rw [b]
     simpa using hj
   have hF : ∃ F : Nat → Cd, ∀ i, i < len → (F i).rd w ∧ ∀ (j : Nat) (v : Value), (F i).cells[j]? = some v → w.cell? (x.add (i * 5 + j)) = some v := by
     refine ⟨fun i => if hi : i < len then Classical.choose (key i hi) else ⟨0, Fr.zero, .nilIface, .nilIface, none, 0, 0, []⟩, fun i hi => ?_⟩
     simp only [dif_pos hi]
     exact Classical.choose_spec (key i hi)
   obtain ⟨F, hF⟩ := hF
   refine ⟨(List.range len).map F, ⟨by simp, fun hn => ?_, fun z hz => ?_⟩, hl, hm⟩
   · obtain ⟨b, off, spot⟩ := x
     have z0 := (hF 0 hn).2 0 _ rfl
     rw [Nat.zero_mul, Nat.zero_add] at z0
     have hspot : spot = none := by simpa [Addr.add] using World.cell?_spot z0
     subst hspot
     refine ⟨b, off, rfl, World.block_lt_of_cell? w _ z0, fun k m hk j v hj => ?_⟩
     obtain ⟨hk1, hk2⟩ := List.getElem?_eq_some_iff.mp hk
     have hk' : k < len := by simpa using hk1
     have e : ((List.range len).map F)[k] = F k := by simp
     rw [e] at hk2
     subst hk2
     have := (hF k hk').2 j v hj
     rw [add_plainK] at this
     rw [Nat.add_assoc]; exact this
   · obtain ⟨i, hi, rfl⟩ := List.mem_map.mp hz
     exact (hF i (List.mem_range.mp hi)).1
theorem datn_yc (ys : List Yc) : datn (ys.map Yc.cd) = datYc ys := by simp [datn, datYc, Yc.cd, Cd.dat, Function.comp_def]
theorem cds_small {w : World} {A : Option Addr} {n : Nat} {ys : List Yc} {ms : List Cd} (hA : CRow w A n ms) (h : datYc ys = datn ms) (hb : lensC ms ≤ 1048576) : ∀ m ∈ ys.map Yc.cd, m.n ≤ 1048576 := by
 intro m hm
 obtain ⟨y, hy, rfl⟩ := List.mem_map.mp hm
 obtain ⟨i, hi⟩ := List.mem_iff_getElem?.mp hy
 have h1 : (datYc ys)[i]? = some (y.N, y.T, dats y.zs) := by simp [datYc, hi]
 rw [h] at h1
 cases hm : ms[i]? with
 | none => simp [datn, hm] at h1
 | some m =>
   have e : m.dat = (y.N, y.T, dats y.zs) := by simpa [datn, hm] using h1
   have h2 := lenC_le hm
   have h3 := (hA.rd m (List.mem_of_getElem? hm)).2.1.len
   have h4 := congrArg (fun q => q.2.2.length) e
   simp only [Cd.dat, dats_len] at h4
   simp only [Cd.len] at h2
   show y.zs.length ≤ 1048576
   omega
theorem CSeq.row_ {w : World} {A : Option Addr} {n : Nat} {ys : List Yc} (h : CArg w A n (ys.map Yc.cd)) (hm : ∀ m ∈ ys.map Yc.cd, m.n ≤ 1048576) : CRow w A n (ys.map Yc.cd) := by
 refine ⟨h.len, h.cell, fun m hm' => ?_⟩
 have h1 := h.rd m hm'
 have h2 := hm m hm'
 obtain ⟨y, _, rfl⟩ := List.mem_map.mp hm'
 exact ⟨h1.1.i, h1.2.row, Nat.le_refl _, Nat.le_trans h2 (by unfold maxLen; omega)⟩
end Go.Proofs.YtaboodioabopnaaGreat
