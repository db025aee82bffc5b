/- FormatConditional of the model and of the program. Conditions: none. -/
import Derived.Test.YtdchhkpkkfjibaaGreatDoorCondS
import Derived.Test.YtdchhkpkkfjibaaGreatDoorLkText
import Derived.Deep.RegionLawGrows
import Derived.Laws.AppendOwnNone
import Derived.Laws.OwnMore
namespace Go.Proofs.YtdchhkpkkfjibaaGreatDoor
open Go.RowKit Nt Fr Nu Jn
set_option linter.unusedVariables false

/-- One more parent in the text. -/
def parTxt (d : Da) : ByteArray := itoaB (paNode d) ++ ⟨#[58]⟩ ++ (paShare d).txt ++ ⟨#[58]⟩ ++ (paX d).txt ++ ⟨#[58]⟩ ++ (paY d).txt
def parStep (s : ByteArray) (d : Da) : ByteArray := s ++ ⟨#[32]⟩ ++ itoaB (paNode d) ++ ⟨#[58]⟩ ++ (paShare d).txt ++ ⟨#[58]⟩ ++ (paX d).txt ++ ⟨#[58]⟩ ++ (paY d).txt
def headTxt (N : Int) (T : Fr) : ByteArray := itoaB N ++ ⟨#[32]⟩ ++ T.txt
/-- What FormatConditional answers. -/
def fmtC (N : Int) (T : Fr) (ds : List Da) : ByteArray := if okC N T ds = true then ds.foldl parStep (headTxt N T) else ⟨#[]⟩
theorem fmtC_no {N : Int} {T : Fr} {ds : List Da} (h : okC N T ds = false) : fmtC N T ds = ⟨#[]⟩ := by simp [fmtC, h]
theorem fmtC_yes {N : Int} {T : Fr} {ds : List Da} (h : okC N T ds = true) : fmtC N T ds = ds.foldl parStep (headTxt N T) := by simp [fmtC, h]
def preT (N : Int) (T : Fr) (ds : List Da) (k : Nat) : ByteArray := (ds.take k).foldl parStep (headTxt N T)
theorem preT_succ {N : Int} {T : Fr} {ds : List Da} {k : Nat} {d : Da} (h : ds[k]? = some d) : preT N T ds (k + 1) = parStep (preT N T ds k) d := by
  obtain ⟨hk, e⟩ := List.getElem?_eq_some_iff.mp h
  unfold preT
  rw [List.take_succ_eq_append_getElem hk, List.foldl_append, e]; rfl
theorem okC_node {N : Int} {T : Fr} {ds : List Da} (h : okC N T ds = true) {k : Nat} {d : Da} (hd : ds[k]? = some d) : 0 ≤ paNode d ∧ paNode d < 10 := by
  have h' := h
  unfold okC at h'
  simp only [Bool.and_eq_true] at h'
  exact (paOk_parts.mp (okPa_iff.mp h'.2.2.2.1 k d (List.getElem?_eq_some_iff.mp hd).1 hd)).1
theorem okC_self {N : Int} {T : Fr} {ds : List Da} (h : okC N T ds = true) : 1 ≤ N ∧ N ≤ 9 := by
  by_cases h1 : 1 ≤ N ∧ N ≤ 9
  · exact h1
  · rw [okC_no (.inl h1)] at h; exact absurd h (by decide)
theorem okC_asc {N : Int} {T : Fr} {ds : List Da} (h : okC N T ds = true) : ascPa ds ds.length := by
  by_cases h1 : paAsc ds = true
  · exact paAsc_iff.mp h1
  · rw [Bool.not_eq_true] at h1
    rw [okC_no (.inr (.inr (.inl h1)))] at h; exact absurd h (by decide)
theorem okC_ge {N : Int} {T : Fr} {ds : List Da} (h : okC N T ds = true) (k : Nat) {d : Da} (hd : ds[k]? = some d) : (k : Int) ≤ paNode d := by
  induction k generalizing d with
  | zero => have := okC_node h hd; omega
  | succ k ih =>
    have hk := (List.getElem?_eq_some_iff.mp hd).1
    obtain ⟨y, hy⟩ : ∃ y, ds[k]? = some y := ⟨_, List.getElem?_eq_getElem (by omega)⟩
    have h1 := ih hy
    have h2 := okC_asc h k y d (by omega) hy hd
    omega
theorem okC_few {N : Int} {T : Fr} {ds : List Da} (h : okC N T ds = true) : ds.length ≤ 10 := by
  rcases Nat.lt_or_ge 10 ds.length with hl | hl
  · obtain ⟨d, hd⟩ : ∃ d, ds[10]? = some d := ⟨_, List.getElem?_eq_getElem hl⟩
    have h1 := okC_ge h 10 hd
    have h2 := okC_node h hd
    omega
  · exact hl
theorem txt_size (F : Fr) : F.txt.size ≤ 1202 := fmtR_size _ _ _
theorem one_byte (b : UInt8) : (⟨#[b]⟩ : ByteArray).size = 1 := rfl
theorem parTxt_size {d : Da} (h : 0 ≤ paNode d ∧ paNode d < 10) : (parTxt d).size ≤ 3629 := by
  have h1 := itoa_len (paNode d) (by omega) (by omega)
  have h2 := txt_size (paShare d)
  have h3 := txt_size (paX d)
  have h4 := txt_size (paY d)
  simp only [parTxt, ByteArray.size_append, one_byte]
  omega
theorem head_size {N : Int} {T : Fr} (h : 1 ≤ N ∧ N ≤ 9) : (headTxt N T).size ≤ 1223 := by
  have h1 := itoa_len N (by omega) (by omega)
  have h2 := txt_size T
  simp only [headTxt, ByteArray.size_append, one_byte]
  omega
theorem preT_size {N : Int} {T : Fr} {ds : List Da} (h : okC N T ds = true) (k : Nat) : (preT N T ds k).size ≤ 1223 + 3630 * k := by
  induction k with
  | zero => simpa [preT] using head_size (T := T) (okC_self h)
  | succ k ih =>
    cases e : ds[k]? with
    | none =>
      have hl : ds.length ≤ k := List.getElem?_eq_none_iff.mp e
      have : preT N T ds (k + 1) = preT N T ds k := by unfold preT; rw [List.take_of_length_le hl, List.take_of_length_le (by omega)]
      rw [this]; omega
    | some d =>
      rw [preT_succ e]
      have h1 := itoa_len (paNode d) (by have := okC_node h e; omega) (by have := okC_node h e; omega)
      have h2 := txt_size (paShare d)
      have h3 := txt_size (paX d)
      have h4 := txt_size (paY d)
      simp only [parStep, ByteArray.size_append, one_byte]
      omega
/-- The words that the program joins. -/
def wordsT (N : Int) (T : Fr) (ds : List Da) : List ByteArray := [itoaB N, T.txt] ++ ds.map parTxt
theorem words_join (N : Int) (T : Fr) (ds : List Da) (k : Nat) : join ⟨#[32]⟩ (wordsT N T (ds.take k)) = preT N T ds k := by
  induction k with
  | zero =>
    show join _ [itoaB N, T.txt] = _
    rw [join2]; rfl
  | succ k ih =>
    cases e : ds[k]? with
    | none =>
      have hl : ds.length ≤ k := List.getElem?_eq_none_iff.mp e
      have e1 : ds.take (k + 1) = ds.take k := by rw [List.take_of_length_le hl, List.take_of_length_le (by omega)]
      unfold preT at ih ⊢
      rw [e1]; exact ih
    | some d =>
      obtain ⟨hk, e2⟩ := List.getElem?_eq_some_iff.mp e
      rw [preT_succ e, ← ih, List.take_succ_eq_append_getElem hk, e2]
      have : wordsT N T (ds.take k ++ [d]) = wordsT N T (ds.take k) ++ [parTxt d] := by simp [wordsT]
      rw [this]
      apply bytes_ext
      unfold join
      rw [joinL_snoc _ _ _ (by simp [wordsT])]
      simp [parStep, parTxt]
theorem words_all {N : Int} {T : Fr} {ds : List Da} (h : okC N T ds = true) : join ⟨#[32]⟩ (wordsT N T ds) = fmtC N T ds := by
  have h1 := words_join N T ds ds.length
  rw [List.take_length] at h1
  rw [h1, fmtC_yes h]; unfold preT; rw [List.take_length]
theorem words_total {N : Int} {T : Fr} {ds : List Da} (h : okC N T ds = true) (k : Nat) : total (wordsT N T (ds.take k)) ≤ 1222 + 3630 * k := by
  induction k with
  | zero =>
    have h1 := itoa_len N (by have := okC_self h; omega) (by have := okC_self h; omega)
    have h2 := txt_size T
    simp [wordsT, total]; omega
  | succ k ih =>
    cases e : ds[k]? with
    | none =>
      have hl : ds.length ≤ k := List.getElem?_eq_none_iff.mp e
      have e1 : ds.take (k + 1) = ds.take k := by rw [List.take_of_length_le hl, List.take_of_length_le (by omega)]
      rw [e1]; omega
    | some d =>
      obtain ⟨hk, e2⟩ := List.getElem?_eq_some_iff.mp e
      rw [List.take_succ_eq_append_getElem hk, e2]
      have : wordsT N T (ds.take k ++ [d]) = wordsT N T (ds.take k) ++ [parTxt d] := by simp [wordsT]
      rw [this, total_snoc]
      have := parTxt_size (okC_node h e)
      omega
theorem words_len (N : Int) (T : Fr) (ds : List Da) : (wordsT N T ds).length = 2 + ds.length := by simp [wordsT]; omega
theorem words_step {N : Int} {T : Fr} {ds : List Da} {k : Nat} {d : Da} (h : ds[k]? = some d) : wordsT N T (ds.take (k + 1)) = wordsT N T (ds.take k) ++ [parTxt d] := by
  obtain ⟨hk, e2⟩ := List.getElem?_eq_some_iff.mp h
  rw [List.take_succ_eq_append_getElem hk, e2]; simp [wordsT]
/-- One string appended to strings of one's own, as one step of a region that draws its order. -/
theorem step_append_str {P : Program} {ops : Array Oper} {o : Oper} {a : Act} {w : World} {K : Act → World → Prop} {Q : Exit → Act → World → Prop} {E : Prop}
    (hg : o.guard = none) (s x : Operand) (t : TypeId) (hop : o.op = Op.call { callee := Callee.builtin Builtin.append, args := #[s, x], argTypes := #[t, t] })
    (base : Nat) (e : TypeId) (i : TypeInfo) (z : Value) (h1 : P.underlying t = some (.slice e)) (h2 : P.info? e = some i) (h3 : i.zero = some z) (h4 : i.size = 1) (h5 : i.bytes = 16) (h6 : z.cells.size = 1)
    (v : Value) (n : Nat) (xs : List Value) (hs : a.eval s = v) (hown : w.ownsRow base e 1 v n xs) (g c : Nat) (tx : ByteArray) (hx : a.eval x = .slice (some ⟨g, 0, none⟩) 1 c) (hc : w.cell? ⟨g, 0, none⟩ = some (.string tx)) (h63 : n ≤ 4194304) (hbase : base ≤ w.heap.size)
    (hK : ∀ v' w', w'.ownsRow base e 1 v' (n + 1) (xs ++ [.string tx]) → w.grownBy w' v.ownBlock → K (a.put o.dst v') w') :
    if Region.wanted o (yielded ops a.tmps) = true then Oper.wp P o a w K Q else E := by
  have hw : Region.wanted o (yielded ops a.tmps) = true := by simp [Region.wanted, hg]
  rw [if_pos hw]
  refine wp_append_own w s x t hop base e i z 1 16 h1 h2 h3 h4 h5 h6 (by decide) v n xs hs hown ⟨g, 0, none⟩ 1 c [.string tx] hx rfl ?_ (by simp [Value.oneCell']) (by unfold maxLen; omega) (by omega) hbase (fun v' w' h1 h2 _ => hK v' w' h1 h2)
  intro j u hj
  match j, hj with
  | 0, hj =>
    simp at hj
    subst hj
    exact hc
theorem own_made2 (w : World) (e : TypeId) (a b : Value) : (w.alloc (.cells #[a, b] e)).ownsRow w.heap.size e 1 (.slice (some ⟨w.heap.size, 0, none⟩) 2 2) 2 [a, b] := World.ownsRow_lit (base := w.heap.size) (e := e) (size := 1) w #[a, b] 2 (Nat.le_refl _) (by unfold maxLen; omega) rfl
theorem infoStr : (Tryz.prog.info? 9).map (fun i => (i.zero, i.size, i.bytes)) = some (some (.string ByteArray.empty), 1, 16) := by kernel_rfl
set_option maxRecDepth 100000 in
set_option maxHeartbeats 4000000 in
theorem formatConditional_s (N : Int) (T : Fr) (t0 t1 : Value) (A : Option Addr) (n c : Nat) (zs : List Rc) (w : World) (hT : FrA w T t0 t1) (hA : PaArg w A n zs) (hn : n ≤ 1048576) :
    Calls Tryz.prog 5 #[.agg #[.int .i64 N, .bool T.s, t0, t1, .slice A n c]] w fun e w' => e = .returned (.string (fmtC N T (dats zs))) ∧ Below w.heap.size w w' := by
  obtain ⟨Aa, na, ca, Ba, ma, da, rfl, rfl⟩ := hT.shape
  have HT := Lib.hid hT
  have HA := Lib.hid hA
  have HL := Lib.hid (show (dats zs).length = n by rw [dats_len]; exact hA.row.len)
  clear hT hA
  obtain ⟨R, hR⟩ : ∃ z, fmtC N T (dats zs) = z := ⟨_, rfl⟩
  rw [hR]
  have HR := Lib.hid hR
  clear hR
  have S_1 := Lib.hid (show St w (w.alloc (.cells #[.int .i64 N, .bool T.s, (.slice Aa na ca), (.slice Ba ma da), (.slice A n c)] 37)) [(w.heap.size, [.int .i64 N, .bool T.s, (.slice Aa na ca), (.slice Ba ma da), (.slice A n c)])] [] from ((St.start w).alloc_at (b := w.heap.size) [.int .i64 N, .bool T.s, (.slice Aa na ca), (.slice Ba ma da), (.slice A n c)] 37 (by first | rfl | simp)))
  go_enter Tryz.func5, Tryz.ntmps5
  go_wp2_with fail
  refine (isValidConditional_s N T (.slice Aa na ca) (.slice Ba ma da) A n c zs _ (S_1.out.frA HT.out) (HA.out.below S_1.out.below) hn).mono ?_
  rintro e w1 ⟨rfl, hb⟩
  have S_2 := Lib.hid (S_1.out.call hb)
  clear S_1
  clear hb
  by_cases hok : okC N T (dats zs) = true
  · rw [hok]
    have HOK := Lib.hid hok
    have hv := okC_self hok
    have hfew := okC_few hok
    rw [HL.out] at hfew
    clear hok
    obtain ⟨tn, htn⟩ : ∃ z, itoaB N = z := ⟨_, rfl⟩
    obtain ⟨tt, htt⟩ : ∃ z, T.txt = z := ⟨_, rfl⟩
    have hsn : tn.size ≤ 20 := by rw [← htn]; exact itoa_len N (by omega) (by omega)
    have hst9 : tt.size ≤ 1202 := by rw [← htt]; exact txt_size T
    have HTN := Lib.hid htn
    have HTT := Lib.hid htt
    have HV := Lib.hid hv
    clear htn htt hv
    have hz0 : ¬ (9223372036854775807 < tn.size + 1) := by omega
    have hz1 : ¬ (9223372036854775807 < tn.size + 1 + tt.size) := by omega
    have hk_c_0_2 := S_2.out.cell 0 0 rfl rfl
    have hk_c_1_2 := S_2.out.cell 0 1 rfl rfl
    have hk_c_2_2 := S_2.out.cell 0 2 rfl rfl
    have hk_c_3_2 := S_2.out.cell 0 3 rfl rfl
    have hk_c_4_2 := S_2.out.cell 0 4 rfl rfl
    go_wp2
    go_region_held3 (fun w' => w'.cell? ⟨w.heap.size, 0, none⟩ = some (.int .i64 N) ∧ w'.cell? ⟨w.heap.size, 1, none⟩ = some (.bool T.s) ∧ w'.cell? ⟨w.heap.size, 2, none⟩ = some ((.slice Aa na ca)) ∧ w'.cell? ⟨w.heap.size, 3, none⟩ = some ((.slice Ba ma da)) ∧ w'.cell? ⟨w.heap.size, 4, none⟩ = some ((.slice A n c))) (go_keep)
      (first
        | (go_at_call_of 12 (Value.int .i64 N)
           refine (format_any N _ (by have := HV.out; omega) (by have := HV.out; omega)).mono ?_
           rintro e wi ⟨rfl, hb⟩
           rw [HTN.out]
           have S_3 := Lib.hid (S_2.out.drew.call hb)
           clear S_2 hb
           have hk_c_0_3 := S_3.out.cell 0 0 rfl rfl
           have hk_c_1_3 := S_3.out.cell 0 1 rfl rfl
           have hk_c_2_3 := S_3.out.cell 0 2 rfl rfl
           have hk_c_3_3 := S_3.out.cell 0 3 rfl rfl
           have hk_c_4_3 := S_3.out.cell 0 4 rfl rfl)
        | (go_at_call_of 13 (Value.agg #[Value.bool T.s, (Value.slice Aa na ca), (Value.slice Ba ma da)])
           refine (formatRat_s T (.slice Aa na ca) (.slice Ba ma da) _ (S_3.out.frA HT.out)).mono ?_
           rintro e wr ⟨rfl, hb⟩
           rw [HTT.out]
           have S_4 := Lib.hid (S_3.out.call hb)
           clear S_3 hb
           have hk_c_0_4 := S_4.out.cell 0 0 rfl rfl
           have hk_c_1_4 := S_4.out.cell 0 1 rfl rfl
           have hk_c_2_4 := S_4.out.cell 0 2 rfl rfl
           have hk_c_3_4 := S_4.out.cell 0 3 rfl rfl
           have hk_c_4_4 := S_4.out.cell 0 4 rfl rfl))
    have hk_c_0_4 := S_4.out.cell 0 0 rfl rfl
    have hk_c_1_4 := S_4.out.cell 0 1 rfl rfl
    have hk_c_2_4 := S_4.out.cell 0 2 rfl rfl
    have hk_c_3_4 := S_4.out.cell 0 3 rfl rfl
    have hk_c_4_4 := S_4.out.cell 0 4 rfl rfl
    go_wp2
    clear hk_c_0_4 hk_c_1_4 hk_c_2_4 hk_c_3_4 hk_c_4_4
    clear hz0 hz1
    have B_0 := Lib.hid S_4.out.below
    clear S_4
    go_loopw [20, 3] (fun i s wx => ∃ k : Nat, k ≤ n ∧ i = .int .i64 k ∧ s = .string (preT N T (dats zs) k) ∧ Below w.heap.size w wx) (fun i _ _ => n - (intOf i).toNat)
    case atStart => exact ⟨0, Nat.zero_le _, rfl, by simp only [preT, List.take_zero, List.foldl_nil, headTxt, HTN.out, HTT.out], B_0.out⟩
    case round =>
      obtain ⟨k, hk, rfl, rfl, hb⟩ := hrel
      have HB := Lib.hid hb
      clear hb
      obtain ⟨s, hs9⟩ : ∃ z, preT N T (dats zs) k = z := ⟨_, rfl⟩
      have hss : s.size ≤ 1223 + 3630 * k := by rw [← hs9]; exact preT_size HOK.out k
      rw [hs9]
      have HS := Lib.hid hs9
      clear hs9
      by_cases hlt : k < n
      · obtain ⟨g, o, z, rfl, hg, hz, hr, hs, hc⟩ := (HA.out.below HB.out).at_ hlt
        obtain ⟨ZA, ZP, ZQ, ZR, a0, n0, c0, a1, n1, c1, a2, n2, c2, a3, n3, c3, a4, n4, c4, a5, n5, c5, rfl⟩ := Rc.shapes13 hs hr
        have hd := dats_get hz
        have hnd := okC_node HOK.out hd
        have HD := Lib.hid hd
        have HND := Lib.hid hnd
        have HRA := Lib.hid hr
        obtain ⟨ti, hti⟩ : ∃ z, itoaB ZA = z := ⟨_, rfl⟩
        obtain ⟨tp, htp⟩ : ∃ z, ZP.txt = z := ⟨_, rfl⟩
        obtain ⟨tq, htq⟩ : ∃ z, ZQ.txt = z := ⟨_, rfl⟩
        obtain ⟨tr, htr⟩ : ∃ z, ZR.txt = z := ⟨_, rfl⟩
        have hza : 0 ≤ ZA ∧ ZA < 10 := hnd
        have hsi : ti.size ≤ 20 := by rw [← hti]; exact itoa_len ZA (by omega) (by omega)
        have hsp : tp.size ≤ 1202 := by rw [← htp]; exact txt_size _
        have hsq : tq.size ≤ 1202 := by rw [← htq]; exact txt_size _
        have hsr : tr.size ≤ 1202 := by rw [← htr]; exact txt_size _
        have HTI := Lib.hid hti
        have HTp := Lib.hid htp
        have HTq := Lib.hid htq
        have HTr := Lib.hid htr
        have HZA := Lib.hid hza
        clear hti htp htq htr hza hnd hd hz hr hs
        have e0 : wr.cell? ⟨g, o + k * 10, none⟩ = some (.int .i64 ZA) := hc 0 _ rfl
        have e1 : wr.cell? ⟨g, o + k * 10 + 1, none⟩ = some (.bool ZP.s) := hc 1 _ rfl
        have e2 : wr.cell? ⟨g, o + k * 10 + 2, none⟩ = some ((.slice a0 n0 c0)) := hc 2 _ rfl
        have e3 : wr.cell? ⟨g, o + k * 10 + 3, none⟩ = some ((.slice a1 n1 c1)) := hc 3 _ rfl
        have e4 : wr.cell? ⟨g, o + k * 10 + 4, none⟩ = some (.bool ZQ.s) := hc 4 _ rfl
        have e5 : wr.cell? ⟨g, o + k * 10 + 5, none⟩ = some ((.slice a2 n2 c2)) := hc 5 _ rfl
        have e6 : wr.cell? ⟨g, o + k * 10 + 6, none⟩ = some ((.slice a3 n3 c3)) := hc 6 _ rfl
        have e7 : wr.cell? ⟨g, o + k * 10 + 7, none⟩ = some (.bool ZR.s) := hc 7 _ rfl
        have e8 : wr.cell? ⟨g, o + k * 10 + 8, none⟩ = some ((.slice a4 n4 c4)) := hc 8 _ rfl
        have e9 : wr.cell? ⟨g, o + k * 10 + 9, none⟩ = some ((.slice a5 n5 c5)) := hc 9 _ rfl
        clear hc
        have S_5 := Lib.hid (show St wr (wr.alloc (.cells #[.int .i64 ZA, .bool ZP.s, (.slice a0 n0 c0), (.slice a1 n1 c1), .bool ZQ.s, (.slice a2 n2 c2), (.slice a3 n3 c3), .bool ZR.s, (.slice a4 n4 c4), (.slice a5 n5 c5)] 47)) [(wr.heap.size, [.int .i64 ZA, .bool ZP.s, (.slice a0 n0 c0), (.slice a1 n1 c1), .bool ZQ.s, (.slice a2 n2 c2), (.slice a3 n3 c3), .bool ZR.s, (.slice a4 n4 c4), (.slice a5 n5 c5)])] [] from (St.start wr).alloc [.int .i64 ZA, .bool ZP.s, (.slice a0 n0 c0), (.slice a1 n1 c1), .bool ZQ.s, (.slice a2 n2 c2), (.slice a3 n3 c3), .bool ZR.s, (.slice a4 n4 c4), (.slice a5 n5 c5)] 47)
        have hz0 : ¬ (9223372036854775807 < s.size + 1) := by omega
        have hz1 : ¬ (9223372036854775807 < s.size + 1 + ti.size) := by omega
        have hz2 : ¬ (9223372036854775807 < s.size + 1 + ti.size + 1) := by omega
        have hz3 : ¬ (9223372036854775807 < s.size + 1 + ti.size + 1 + tp.size) := by omega
        have hz4 : ¬ (9223372036854775807 < s.size + 1 + ti.size + 1 + tp.size + 1) := by omega
        have hz5 : ¬ (9223372036854775807 < s.size + 1 + ti.size + 1 + tp.size + 1 + tq.size) := by omega
        have hz6 : ¬ (9223372036854775807 < s.size + 1 + ti.size + 1 + tp.size + 1 + tq.size + 1) := by omega
        have hz7 : ¬ (9223372036854775807 < s.size + 1 + ti.size + 1 + tp.size + 1 + tq.size + 1 + tr.size) := by omega
        have hk_p_0_5 := S_5.out.cell 0 0 rfl rfl
        have hk_p_1_5 := S_5.out.cell 0 1 rfl rfl
        have hk_p_2_5 := S_5.out.cell 0 2 rfl rfl
        have hk_p_3_5 := S_5.out.cell 0 3 rfl rfl
        have hk_p_4_5 := S_5.out.cell 0 4 rfl rfl
        have hk_p_5_5 := S_5.out.cell 0 5 rfl rfl
        have hk_p_6_5 := S_5.out.cell 0 6 rfl rfl
        have hk_p_7_5 := S_5.out.cell 0 7 rfl rfl
        have hk_p_8_5 := S_5.out.cell 0 8 rfl rfl
        have hk_p_9_5 := S_5.out.cell 0 9 rfl rfl
        go_wp2
        go_region_held3 (fun w' => w'.cell? ⟨wr.heap.size, 0, none⟩ = some (.int .i64 ZA) ∧ w'.cell? ⟨wr.heap.size, 1, none⟩ = some (.bool ZP.s) ∧ w'.cell? ⟨wr.heap.size, 2, none⟩ = some ((.slice a0 n0 c0)) ∧ w'.cell? ⟨wr.heap.size, 3, none⟩ = some ((.slice a1 n1 c1)) ∧ w'.cell? ⟨wr.heap.size, 4, none⟩ = some (.bool ZQ.s) ∧ w'.cell? ⟨wr.heap.size, 5, none⟩ = some ((.slice a2 n2 c2)) ∧ w'.cell? ⟨wr.heap.size, 6, none⟩ = some ((.slice a3 n3 c3)) ∧ w'.cell? ⟨wr.heap.size, 7, none⟩ = some (.bool ZR.s) ∧ w'.cell? ⟨wr.heap.size, 8, none⟩ = some ((.slice a4 n4 c4)) ∧ w'.cell? ⟨wr.heap.size, 9, none⟩ = some ((.slice a5 n5 c5))) (go_keep)
          (first
            | (go_at_call_of 12 (Value.int .i64 ZA)
               refine (format_any ZA _ (by have := HZA.out; omega) (by have := HZA.out; omega)).mono ?_
               rintro e vi ⟨rfl, hb⟩
               rw [HTI.out]
               have S_6 := Lib.hid (S_5.out.drew.call hb)
               clear S_5 hb
               have hk_p_0_6 := S_6.out.cell 0 0 rfl rfl
               have hk_p_1_6 := S_6.out.cell 0 1 rfl rfl
               have hk_p_2_6 := S_6.out.cell 0 2 rfl rfl
               have hk_p_3_6 := S_6.out.cell 0 3 rfl rfl
               have hk_p_4_6 := S_6.out.cell 0 4 rfl rfl
               have hk_p_5_6 := S_6.out.cell 0 5 rfl rfl
               have hk_p_6_6 := S_6.out.cell 0 6 rfl rfl
               have hk_p_7_6 := S_6.out.cell 0 7 rfl rfl
               have hk_p_8_6 := S_6.out.cell 0 8 rfl rfl
               have hk_p_9_6 := S_6.out.cell 0 9 rfl rfl)
            | (go_at_call_of 13 (Value.agg #[Value.bool ZP.s, (Value.slice a0 n0 c0), (Value.slice a1 n1 c1)])
               refine (formatRat_s ZP (.slice a0 n0 c0) (.slice a1 n1 c1) _ (show FrA _ _ _ _ from (HRA.out (ZP, .slice a0 n0 c0, .slice a1 n1 c1) (by simp)).below S_6.out.below)).mono ?_
               rintro e vZP ⟨rfl, hb⟩
               rw [HTp.out]
               have S_7 := Lib.hid (S_6.out.call hb)
               clear S_6 hb
               have hk_p_0_7 := S_7.out.cell 0 0 rfl rfl
               have hk_p_1_7 := S_7.out.cell 0 1 rfl rfl
               have hk_p_2_7 := S_7.out.cell 0 2 rfl rfl
               have hk_p_3_7 := S_7.out.cell 0 3 rfl rfl
               have hk_p_4_7 := S_7.out.cell 0 4 rfl rfl
               have hk_p_5_7 := S_7.out.cell 0 5 rfl rfl
               have hk_p_6_7 := S_7.out.cell 0 6 rfl rfl
               have hk_p_7_7 := S_7.out.cell 0 7 rfl rfl
               have hk_p_8_7 := S_7.out.cell 0 8 rfl rfl
               have hk_p_9_7 := S_7.out.cell 0 9 rfl rfl)
            | (go_at_call_of 13 (Value.agg #[Value.bool ZQ.s, (Value.slice a2 n2 c2), (Value.slice a3 n3 c3)])
               refine (formatRat_s ZQ (.slice a2 n2 c2) (.slice a3 n3 c3) _ (show FrA _ _ _ _ from (HRA.out (ZQ, .slice a2 n2 c2, .slice a3 n3 c3) (by simp)).below S_7.out.below)).mono ?_
               rintro e vZQ ⟨rfl, hb⟩
               rw [HTq.out]
               have S_8 := Lib.hid (S_7.out.call hb)
               clear S_7 hb
               have hk_p_0_8 := S_8.out.cell 0 0 rfl rfl
               have hk_p_1_8 := S_8.out.cell 0 1 rfl rfl
               have hk_p_2_8 := S_8.out.cell 0 2 rfl rfl
               have hk_p_3_8 := S_8.out.cell 0 3 rfl rfl
               have hk_p_4_8 := S_8.out.cell 0 4 rfl rfl
               have hk_p_5_8 := S_8.out.cell 0 5 rfl rfl
               have hk_p_6_8 := S_8.out.cell 0 6 rfl rfl
               have hk_p_7_8 := S_8.out.cell 0 7 rfl rfl
               have hk_p_8_8 := S_8.out.cell 0 8 rfl rfl
               have hk_p_9_8 := S_8.out.cell 0 9 rfl rfl)
            | (go_at_call_of 13 (Value.agg #[Value.bool ZR.s, (Value.slice a4 n4 c4), (Value.slice a5 n5 c5)])
               refine (formatRat_s ZR (.slice a4 n4 c4) (.slice a5 n5 c5) _ (show FrA _ _ _ _ from (HRA.out (ZR, .slice a4 n4 c4, .slice a5 n5 c5) (by simp)).below S_8.out.below)).mono ?_
               rintro e vZR ⟨rfl, hb⟩
               rw [HTr.out]
               have S_9 := Lib.hid (S_8.out.call hb)
               clear S_8 hb
               have hk_p_0_9 := S_9.out.cell 0 0 rfl rfl
               have hk_p_1_9 := S_9.out.cell 0 1 rfl rfl
               have hk_p_2_9 := S_9.out.cell 0 2 rfl rfl
               have hk_p_3_9 := S_9.out.cell 0 3 rfl rfl
               have hk_p_4_9 := S_9.out.cell 0 4 rfl rfl
               have hk_p_5_9 := S_9.out.cell 0 5 rfl rfl
               have hk_p_6_9 := S_9.out.cell 0 6 rfl rfl
               have hk_p_7_9 := S_9.out.cell 0 7 rfl rfl
               have hk_p_8_9 := S_9.out.cell 0 8 rfl rfl
               have hk_p_9_9 := S_9.out.cell 0 9 rfl rfl))
        all_goals have HBN := Lib.hid (HB.out.trans (S_9.out.below.mono HB.out.size))
        all_goals go_wp2
        all_goals refine ⟨⟨k + 1, by omega, by go_num, ?_, HBN.out⟩, by simp [intOf]; omega⟩
        all_goals rw [preT_succ HD.out, HS.out]
        all_goals show Value.string _ = Value.string (s ++ ⟨#[32]⟩ ++ itoaB ZA ++ ⟨#[58]⟩ ++ ZP.txt ++ ⟨#[58]⟩ ++ ZQ.txt ++ ⟨#[58]⟩ ++ ZR.txt)
        all_goals rw [HTI.out, HTp.out, HTq.out, HTr.out]
      · obtain rfl : k = n := by omega
        have HE := Lib.hid (show s = R by rw [← HR.out, fmtC_yes HOK.out, ← HS.out]; unfold preT; rw [List.take_of_length_le (by rw [HL.out]; exact Nat.le_refl _)])
        go_wp2
        go_ret
        exact ⟨by rw [← HE.out]; rfl, HB.out⟩
  · rw [Bool.not_eq_true] at hok
    rw [hok]
    have HE := Lib.hid (show ⟨#[]⟩ = R by rw [← HR.out, fmtC_no hok])
    clear hok
    go_wp2
    go_ret
    exact ⟨by rw [← HE.out]; rfl, S_2.out.below⟩
end Go.Proofs.YtdchhkpkkfjibaaGreatDoor
