/- IsNet: what both sides answer. Conditions: none. -/
import Derived.Test.YtaboodioabopnaaGreatNNet
import Derived.Test.YtaboodioabopnaaGreatNCondS
namespace Go.Proofs.YtaboodioabopnaaGreat
open Go.RowKit Nt Fr
set_option linter.unusedVariables false
def kn (r : List Dn) (x : Int) : Bool := decide (x = 0) || r.any fun e => decide (e.1 = x)
def dis (r : List Dn) (x : Int) : Bool := !(r.any fun e => decide (e.1 = x))
def netStep (d : Dn) (r : List Dn) : Bool := okC d.1 d.2.1 d.2.2 && (dis r d.1 && d.2.2.all fun p => kn r (paNode p))
def netOk : List Dn → Bool
 | [] => true
 | d :: r => netOk r && netStep d r
theorem netOk_iff (ds : List Dn) : netOk ds = true ↔ ∀ (k : Nat) (d : Dn), ds[k]? = some d → netStep d (ds.drop (k + 1)) = true := by
 induction ds with
 | nil => simp [netOk]
 | cons x r ih =>
   rw [netOk, Bool.and_eq_true, ih]
   constructor
   · rintro ⟨h1, h2⟩ k d hd
     cases k with
     | zero => simp at hd; subst hd; simpa using h2
     | succ k => simpa using h1 k d (by simpa using hd)
   · intro h
     exact ⟨fun k d hd => by simpa using h (k + 1) d (by simpa using hd), by simpa using h 0 x rfl⟩
theorem netOk_bad {ds : List Dn} {k : Nat} {d : Dn} (h1 : ds[k]? = some d) (h2 : netStep d (ds.drop (k + 1)) = false) : netOk ds = false := by
 rw [← Bool.not_eq_true, netOk_iff]
 intro h
 have := h k d h1
 rw [h2] at this
 cases this
theorem step_bad1 {d : Dn} {r : List Dn} (h : okC d.1 d.2.1 d.2.2 = false) : netStep d r = false := by unfold netStep; rw [h]; rfl
theorem step_bad2 {d : Dn} {r : List Dn} {i : Nat} {z : List Int × List Fr} (hz : d.2.2[i]? = some z) (h : kn r (paNode z) = false) : netStep d r = false := by
 have : (d.2.2.all fun p => kn r (paNode p)) = false := by
   rw [← Bool.not_eq_true, List.all_eq_true]
   intro h'
   have := h' z (List.mem_of_getElem? hz)
   rw [h] at this; cases this
 unfold netStep; rw [this]; simp
theorem step_bad3 {d : Dn} {r : List Dn} {i : Nat} {e : Dn} (he : r[i]? = some e) (h : e.1 = d.1) : netStep d r = false := by
 have : dis r d.1 = false := by
   unfold dis
   rw [List.any_eq_true.mpr ⟨e, List.mem_of_getElem? he, by simpa using h⟩]; rfl
 unfold netStep; rw [this]; simp
theorem step_good {d : Dn} {r : List Dn} (h1 : okC d.1 d.2.1 d.2.2 = true) (h2 : ∀ (i : Nat) (z : List Int × List Fr), d.2.2[i]? = some z → kn r (paNode z) = true) (h3 : ∀ (i : Nat) (e : Dn), r[i]? = some e → ¬ e.1 = d.1) : netStep d r = true := by
 unfold netStep dis
 rw [h1, Bool.true_and, Bool.and_eq_true]
 refine ⟨?_, List.all_eq_true.mpr fun z hz => ?_⟩
 · rw [Bool.not_eq_true', ← Bool.not_eq_true, List.any_eq_true]
   rintro ⟨e, he, h⟩
   obtain ⟨i, hi⟩ := List.mem_iff_getElem?.mp he
   exact h3 i e hi (by simpa using h)
 · obtain ⟨i, hi⟩ := List.mem_iff_getElem?.mp hz
   exact h2 i z hi
def knT (r : List Dn) (x : Int) (b : Nat) : Bool := decide (x = 0) || (r.take b).any fun e => decide (e.1 = x)
theorem knT_succ {r : List Dn} {x : Int} {b : Nat} {e : Dn} (h : r[b]? = some e) : knT r x (b + 1) = (knT r x b || decide (e.1 = x)) := by
 obtain ⟨hk, e2⟩ := List.getElem?_eq_some_iff.mp h
 unfold knT
 rw [List.take_succ_eq_append_getElem hk, e2, List.any_append]
 simp [Bool.or_assoc]
theorem knT_all {r : List Dn} {x : Int} {b : Nat} (h : r.length ≤ b) : knT r x b = kn r x := by unfold knT kn; rw [List.take_of_length_le h]
theorem CSeq.drop {Q : World → Cd → Prop} {w : World} {g o n : Nat} {ms : List Cd} (h : CSeq Q w (some ⟨g, o, none⟩) n ms) (k : Nat) (hk : k ≤ n) : CSeq Q w (some ⟨g, o + k * 5, none⟩) (n - k) (ms.drop k) := by
 refine ⟨by rw [List.length_drop, h.len], fun hn => ?_, fun m hm => h.rd m (List.mem_of_mem_drop hm)⟩
 obtain ⟨g', o', e, hg, hc⟩ := h.cell (by omega)
 cases e
 refine ⟨g, o + k * 5, rfl, hg, fun j m hj i v hi => ?_⟩
 rw [List.getElem?_drop] at hj
 have := hc (k + j) m hj i v hi
 rw [show o + k * 5 + j * 5 + i = o + (k + j) * 5 + i by omega]
 exact this
theorem datn_drop (ms : List Cd) (k : Nat) : datn (ms.drop k) = (datn ms).drop k := by simp [datn, List.map_drop]
end Go.Proofs.YtaboodioabopnaaGreat
