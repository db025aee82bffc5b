/- FormatLink of the model and of the program. Conditions: none. -/
import Derived.Test.YtljlibigphgffaaGreatDoorLkBase
import Derived.Test.YtljlibigphgffaaGreatDoorRatText
import Derived.Test.YtljlibigphgffaaGreatDoorJoinImpl
import Derived.Test.YtljlibigphgffaaGreatDoorStrconv
namespace Go.Proofs.YtljlibigphgffaaGreatDoor
open Go.RowKit Nt Fr Nu Jn
set_option linter.unusedVariables false

/-- The text of a fraction, in one word. -/
def Fr.txt (F : Fr) : ByteArray := fmtR F.s F.xs F.ys
theorem fmtR_size (s : Bool) (xs ys : List Int) : (fmtR s xs ys).size ≤ 1202 := by
  have h1 := fmtB_size s xs
  have h2 := fmtN_size ys
  unfold fmtR
  split
  · split
    · omega
    · rw [ByteArray.size_append, ByteArray.size_append]
      have : (⟨#[47]⟩ : ByteArray).size = 1 := rfl
      omega
  · exact Nat.zero_le _
/-- What FormatLink answers. -/
def fmtK (A B : Int) (P Q R : Fr) : ByteArray := if okK A B P Q R = true then itoaB A ++ ⟨#[45]⟩ ++ itoaB B ++ ⟨#[32]⟩ ++ P.txt ++ ⟨#[32]⟩ ++ Q.txt ++ ⟨#[32]⟩ ++ R.txt else ⟨#[]⟩
theorem fmtK_no {A B : Int} {P Q R : Fr} (h : okK A B P Q R = false) : fmtK A B P Q R = ⟨#[]⟩ := by simp [fmtK, h]
theorem fmtK_yes {A B : Int} {P Q R : Fr} {ta tb tp tq tr : ByteArray} (h : okK A B P Q R = true) (h1 : itoaB A = ta) (h2 : itoaB B = tb) (h3 : P.txt = tp) (h4 : Q.txt = tq) (h5 : R.txt = tr) : fmtK A B P Q R = ta ++ ⟨#[45]⟩ ++ tb ++ ⟨#[32]⟩ ++ tp ++ ⟨#[32]⟩ ++ tq ++ ⟨#[32]⟩ ++ tr := by
  unfold fmtK; rw [if_pos h, h1, h2, h3, h4, h5]
theorem join2 (b x y : ByteArray) : join b [x, y] = x ++ b ++ y := by
  apply bytes_ext
  simp [join, joinL]
theorem join4 (b x y z u : ByteArray) : join b [x, y, z, u] = x ++ b ++ y ++ b ++ z ++ b ++ u := by
  apply bytes_ext
  simp [join, joinL]
theorem vrow2 (u : World) (a b : ByteArray) (t : TypeId) : VRow (u.alloc (.cells #[.string a, .string b] t)) (some ⟨u.heap.size, 0, none⟩) 2 ([a, b].map .string) := by
  refine ⟨rfl, fun _ => ⟨u.heap.size, 0, rfl, by simp, fun j hj => ?_⟩⟩
  match j, hj with
  | 0, _ => simp
  | 1, _ => simp
theorem vrow4 (u : World) (a b c d : ByteArray) (t : TypeId) : VRow (u.alloc (.cells #[.string a, .string b, .string c, .string d] t)) (some ⟨u.heap.size, 0, none⟩) 4 ([a, b, c, d].map .string) := by
  refine ⟨rfl, fun _ => ⟨u.heap.size, 0, rfl, by simp, fun j hj => ?_⟩⟩
  match j, hj with
  | 0, _ => simp
  | 1, _ => simp
  | 2, _ => simp
  | 3, _ => simp
theorem formatRat_s (F : Fr) (a b : Value) (w : World) (h1 : FrA w F a b) :
    Calls Tryz.prog 12 #[.agg #[.bool F.s, a, b]] w fun e w' => e = .returned (.string F.txt) ∧ Below w.heap.size w w' := by
  obtain ⟨⟨A, n, k, rfl, hA⟩, ⟨B, m, l, rfl, hB⟩⟩ := h1
  exact formatRat_spec F.s A n k F.xs B m l F.ys w hA hB
theorem formatRat_i (F : Fr) (a b : Value) (w : World) (h1 : FrA w F a b) (hl : Laid1 w) :
    Calls Tryz.prog 17 #[.agg #[.bool F.s, a, b]] w fun e w' => e = .returned (.string F.txt) ∧ Below w.heap.size w w' := by
  obtain ⟨⟨A, n, k, rfl, hA⟩, ⟨B, m, l, rfl, hB⟩⟩ := h1
  exact formatRat_impl F.s A n k F.xs B m l F.ys w hA hB hl
set_option maxRecDepth 100000 in
set_option maxHeartbeats 4000000 in
theorem formatLink_s (A B : Int) (P Q R : Fr) (p0 p1 q0 q1 r0 r1 : Value) (w : World) (hL : LkA w P Q R p0 p1 q0 q1 r0 r1) :
    Calls Tryz.prog 5 #[.agg #[.int .i64 A, .int .i64 B, .bool P.s, p0, p1, .bool Q.s, q0, q1, .bool R.s, r0, r1]] w fun e w' => e = .returned (.string (fmtK A B P Q R)) ∧ Below w.heap.size w w' := by
  have HL := Lib.hid hL
  clear hL
  obtain ⟨ta, hta⟩ : ∃ z, itoaB A = z := ⟨_, rfl⟩
  obtain ⟨tb, htb⟩ : ∃ z, itoaB B = z := ⟨_, rfl⟩
  obtain ⟨tp, htp⟩ : ∃ z, P.txt = z := ⟨_, rfl⟩
  obtain ⟨tq, htq⟩ : ∃ z, Q.txt = z := ⟨_, rfl⟩
  obtain ⟨tr, htr⟩ : ∃ z, R.txt = z := ⟨_, rfl⟩
  obtain ⟨T, hT⟩ : ∃ z, fmtK A B P Q R = z := ⟨_, rfl⟩
  rw [hT]
  have HT := Lib.hid hT
  have hsp : tp.size ≤ 1202 := by rw [← htp]; exact fmtR_size _ _ _
  have hsq : tq.size ≤ 1202 := by rw [← htq]; exact fmtR_size _ _ _
  have hsr : tr.size ≤ 1202 := by rw [← htr]; exact fmtR_size _ _ _
  have Hta := Lib.hid hta
  clear hta
  have Htb := Lib.hid htb
  clear htb
  have Htp := Lib.hid htp
  clear htp
  have Htq := Lib.hid htq
  clear htq
  have Htr := Lib.hid htr
  clear htr
  clear hT
  have S_1 := Lib.hid (show St w (w.alloc (.cells #[.int .i64 A, .int .i64 B, .bool P.s, p0, p1, .bool Q.s, q0, q1, .bool R.s, r0, r1] 35)) [(w.heap.size, [.int .i64 A, .int .i64 B, .bool P.s, p0, p1, .bool Q.s, q0, q1, .bool R.s, r0, r1])] [] from ((St.start w).alloc_at (b := w.heap.size) [.int .i64 A, .int .i64 B, .bool P.s, p0, p1, .bool Q.s, q0, q1, .bool R.s, r0, r1] 35 (by first | rfl | simp)))
  go_enter Tryz.func5, Tryz.ntmps5
  go_wp2_with fail
  refine (isValidLink_s A B P Q R p0 p1 q0 q1 r0 r1 _ (S_1.out.lkA HL.out)).mono ?_
  rintro e w1 ⟨rfl, hb⟩
  have S_2 := Lib.hid (S_1.out.call hb)
  clear S_1
  clear hb
  by_cases hok : okK A B P Q R = true
  · rw [hok]
    have HE := Lib.hid (show ta ++ ⟨#[45]⟩ ++ tb ++ ⟨#[32]⟩ ++ tp ++ ⟨#[32]⟩ ++ tq ++ ⟨#[32]⟩ ++ tr = T by rw [← HT.out, fmtK_yes hok Hta.out Htb.out Htp.out Htq.out Htr.out])
    have hv := okK_parts hok
    have HVA := Lib.hid hv.1
    have HVB := Lib.hid hv.2.1
    clear hv hok
    have hsa : ta.size ≤ 20 := by rw [← Hta.out]; exact itoa_len A (by have := HVA.out; omega) (by have := HVA.out; omega)
    have hsb : tb.size ≤ 20 := by rw [← Htb.out]; exact itoa_len B (by have := HVB.out; omega) (by have := HVB.out; omega)
    have hz0 : ¬ (9223372036854775807 < ta.size + 1) := by omega
    have hz1 : ¬ (9223372036854775807 < ta.size + 1 + tb.size) := by omega
    have hz2 : ¬ (9223372036854775807 < ta.size + 1 + tb.size + 1) := by omega
    have hz3 : ¬ (9223372036854775807 < ta.size + 1 + tb.size + 1 + tp.size) := by omega
    have hz4 : ¬ (9223372036854775807 < ta.size + 1 + tb.size + 1 + tp.size + 1) := by omega
    have hz5 : ¬ (9223372036854775807 < ta.size + 1 + tb.size + 1 + tp.size + 1 + tq.size) := by omega
    have hz6 : ¬ (9223372036854775807 < ta.size + 1 + tb.size + 1 + tp.size + 1 + tq.size + 1) := by omega
    have hz7 : ¬ (9223372036854775807 < ta.size + 1 + tb.size + 1 + tp.size + 1 + tq.size + 1 + tr.size) := by omega
    have hk_l_0_2 := S_2.out.cell 0 0 rfl rfl
    have hk_l_1_2 := S_2.out.cell 0 1 rfl rfl
    have hk_l_2_2 := S_2.out.cell 0 2 rfl rfl
    have hk_l_3_2 := S_2.out.cell 0 3 rfl rfl
    have hk_l_4_2 := S_2.out.cell 0 4 rfl rfl
    have hk_l_5_2 := S_2.out.cell 0 5 rfl rfl
    have hk_l_6_2 := S_2.out.cell 0 6 rfl rfl
    have hk_l_7_2 := S_2.out.cell 0 7 rfl rfl
    have hk_l_8_2 := S_2.out.cell 0 8 rfl rfl
    have hk_l_9_2 := S_2.out.cell 0 9 rfl rfl
    have hk_l_10_2 := S_2.out.cell 0 10 rfl rfl
    go_wp2
    go_region_held3 (fun w' => w'.cell? ⟨w.heap.size, 0, none⟩ = some (.int .i64 A) ∧ w'.cell? ⟨w.heap.size, 1, none⟩ = some (.int .i64 B) ∧ w'.cell? ⟨w.heap.size, 2, none⟩ = some (.bool P.s) ∧ w'.cell? ⟨w.heap.size, 3, none⟩ = some (p0) ∧ w'.cell? ⟨w.heap.size, 4, none⟩ = some (p1) ∧ w'.cell? ⟨w.heap.size, 5, none⟩ = some (.bool Q.s) ∧ w'.cell? ⟨w.heap.size, 6, none⟩ = some (q0) ∧ w'.cell? ⟨w.heap.size, 7, none⟩ = some (q1) ∧ w'.cell? ⟨w.heap.size, 8, none⟩ = some (.bool R.s) ∧ w'.cell? ⟨w.heap.size, 9, none⟩ = some (r0) ∧ w'.cell? ⟨w.heap.size, 10, none⟩ = some (r1)) (go_keep)
      (first
        | (go_at_call_of 11 (Value.int .i64 A)
           refine (format_any A _ (by have := HVA.out; omega) (by have := HVA.out; omega)).mono ?_
           rintro e wiA ⟨rfl, hb⟩
           rw [Hta.out]
           have S_3 := Lib.hid (S_2.out.drew.call hb)
           clear S_2 hb
           have hk_l_0_3 := S_3.out.cell 0 0 rfl rfl
           have hk_l_1_3 := S_3.out.cell 0 1 rfl rfl
           have hk_l_2_3 := S_3.out.cell 0 2 rfl rfl
           have hk_l_3_3 := S_3.out.cell 0 3 rfl rfl
           have hk_l_4_3 := S_3.out.cell 0 4 rfl rfl
           have hk_l_5_3 := S_3.out.cell 0 5 rfl rfl
           have hk_l_6_3 := S_3.out.cell 0 6 rfl rfl
           have hk_l_7_3 := S_3.out.cell 0 7 rfl rfl
           have hk_l_8_3 := S_3.out.cell 0 8 rfl rfl
           have hk_l_9_3 := S_3.out.cell 0 9 rfl rfl
           have hk_l_10_3 := S_3.out.cell 0 10 rfl rfl)
        | (go_at_call_of 11 (Value.int .i64 B)
           refine (format_any B _ (by have := HVB.out; omega) (by have := HVB.out; omega)).mono ?_
           rintro e wiB ⟨rfl, hb⟩
           rw [Htb.out]
           have S_4 := Lib.hid (S_3.out.call hb)
           clear S_3 hb
           have hk_l_0_4 := S_4.out.cell 0 0 rfl rfl
           have hk_l_1_4 := S_4.out.cell 0 1 rfl rfl
           have hk_l_2_4 := S_4.out.cell 0 2 rfl rfl
           have hk_l_3_4 := S_4.out.cell 0 3 rfl rfl
           have hk_l_4_4 := S_4.out.cell 0 4 rfl rfl
           have hk_l_5_4 := S_4.out.cell 0 5 rfl rfl
           have hk_l_6_4 := S_4.out.cell 0 6 rfl rfl
           have hk_l_7_4 := S_4.out.cell 0 7 rfl rfl
           have hk_l_8_4 := S_4.out.cell 0 8 rfl rfl
           have hk_l_9_4 := S_4.out.cell 0 9 rfl rfl
           have hk_l_10_4 := S_4.out.cell 0 10 rfl rfl)
        | (go_at_call_of 12 (Value.agg #[Value.bool P.s, p0, p1])
           refine (formatRat_s P p0 p1 _ (S_4.out.lkA HL.out).p).mono ?_
           rintro e wrP ⟨rfl, hb⟩
           rw [Htp.out]
           have S_5 := Lib.hid (S_4.out.call hb)
           clear S_4 hb
           have hk_l_0_5 := S_5.out.cell 0 0 rfl rfl
           have hk_l_1_5 := S_5.out.cell 0 1 rfl rfl
           have hk_l_2_5 := S_5.out.cell 0 2 rfl rfl
           have hk_l_3_5 := S_5.out.cell 0 3 rfl rfl
           have hk_l_4_5 := S_5.out.cell 0 4 rfl rfl
           have hk_l_5_5 := S_5.out.cell 0 5 rfl rfl
           have hk_l_6_5 := S_5.out.cell 0 6 rfl rfl
           have hk_l_7_5 := S_5.out.cell 0 7 rfl rfl
           have hk_l_8_5 := S_5.out.cell 0 8 rfl rfl
           have hk_l_9_5 := S_5.out.cell 0 9 rfl rfl
           have hk_l_10_5 := S_5.out.cell 0 10 rfl rfl)
        | (go_at_call_of 12 (Value.agg #[Value.bool Q.s, q0, q1])
           refine (formatRat_s Q q0 q1 _ (S_5.out.lkA HL.out).q).mono ?_
           rintro e wrQ ⟨rfl, hb⟩
           rw [Htq.out]
           have S_6 := Lib.hid (S_5.out.call hb)
           clear S_5 hb
           have hk_l_0_6 := S_6.out.cell 0 0 rfl rfl
           have hk_l_1_6 := S_6.out.cell 0 1 rfl rfl
           have hk_l_2_6 := S_6.out.cell 0 2 rfl rfl
           have hk_l_3_6 := S_6.out.cell 0 3 rfl rfl
           have hk_l_4_6 := S_6.out.cell 0 4 rfl rfl
           have hk_l_5_6 := S_6.out.cell 0 5 rfl rfl
           have hk_l_6_6 := S_6.out.cell 0 6 rfl rfl
           have hk_l_7_6 := S_6.out.cell 0 7 rfl rfl
           have hk_l_8_6 := S_6.out.cell 0 8 rfl rfl
           have hk_l_9_6 := S_6.out.cell 0 9 rfl rfl
           have hk_l_10_6 := S_6.out.cell 0 10 rfl rfl)
        | (go_at_call_of 12 (Value.agg #[Value.bool R.s, r0, r1])
           refine (formatRat_s R r0 r1 _ (S_6.out.lkA HL.out).r).mono ?_
           rintro e wrR ⟨rfl, hb⟩
           rw [Htr.out]
           have S_7 := Lib.hid (S_6.out.call hb)
           clear S_6 hb
           have hk_l_0_7 := S_7.out.cell 0 0 rfl rfl
           have hk_l_1_7 := S_7.out.cell 0 1 rfl rfl
           have hk_l_2_7 := S_7.out.cell 0 2 rfl rfl
           have hk_l_3_7 := S_7.out.cell 0 3 rfl rfl
           have hk_l_4_7 := S_7.out.cell 0 4 rfl rfl
           have hk_l_5_7 := S_7.out.cell 0 5 rfl rfl
           have hk_l_6_7 := S_7.out.cell 0 6 rfl rfl
           have hk_l_7_7 := S_7.out.cell 0 7 rfl rfl
           have hk_l_8_7 := S_7.out.cell 0 8 rfl rfl
           have hk_l_9_7 := S_7.out.cell 0 9 rfl rfl
           have hk_l_10_7 := S_7.out.cell 0 10 rfl rfl))
    all_goals go_wp2
    all_goals go_ret
    all_goals exact ⟨by rw [← HE.out]; rfl, S_7.out.below⟩
  · rw [Bool.not_eq_true] at hok
    rw [hok]
    have HE := Lib.hid (show ⟨#[]⟩ = T by rw [← HT.out, fmtK_no hok])
    clear hok
    go_wp2
    go_ret
    exact ⟨by rw [← HE.out]; rfl, S_2.out.below⟩
set_option maxRecDepth 100000 in
set_option maxHeartbeats 4000000 in
theorem formatLink_i (A B : Int) (P Q R : Fr) (p0 p1 q0 q1 r0 r1 : Value) (w : World) (hL : LkA w P Q R p0 p1 q0 q1 r0 r1) (hl : Laid1 w) :
    Calls Tryz.prog 7 #[.agg #[.int .i64 A, .int .i64 B, .bool P.s, p0, p1, .bool Q.s, q0, q1, .bool R.s, r0, r1]] w fun e w' => e = .returned (.string (fmtK A B P Q R)) ∧ Below w.heap.size w w' := by
  have HL := Lib.hid hL
  clear hL
  have HLD := Lib.hid hl
  clear hl
  obtain ⟨ta, hta⟩ : ∃ z, itoaB A = z := ⟨_, rfl⟩
  obtain ⟨tb, htb⟩ : ∃ z, itoaB B = z := ⟨_, rfl⟩
  obtain ⟨tp, htp⟩ : ∃ z, P.txt = z := ⟨_, rfl⟩
  obtain ⟨tq, htq⟩ : ∃ z, Q.txt = z := ⟨_, rfl⟩
  obtain ⟨tr, htr⟩ : ∃ z, R.txt = z := ⟨_, rfl⟩
  obtain ⟨T, hT⟩ : ∃ z, fmtK A B P Q R = z := ⟨_, rfl⟩
  rw [hT]
  have HT := Lib.hid hT
  have hsp : tp.size ≤ 1202 := by rw [← htp]; exact fmtR_size _ _ _
  have hsq : tq.size ≤ 1202 := by rw [← htq]; exact fmtR_size _ _ _
  have hsr : tr.size ≤ 1202 := by rw [← htr]; exact fmtR_size _ _ _
  have Hta := Lib.hid hta
  clear hta
  have Htb := Lib.hid htb
  clear htb
  have Htp := Lib.hid htp
  clear htp
  have Htq := Lib.hid htq
  clear htq
  have Htr := Lib.hid htr
  clear htr
  clear hT
  have S_1 := Lib.hid (show St w (w.alloc (.cells #[.int .i64 A, .int .i64 B, .bool P.s, p0, p1, .bool Q.s, q0, q1, .bool R.s, r0, r1] 35)) [(w.heap.size, [.int .i64 A, .int .i64 B, .bool P.s, p0, p1, .bool Q.s, q0, q1, .bool R.s, r0, r1])] [] from ((St.start w).alloc_at (b := w.heap.size) [.int .i64 A, .int .i64 B, .bool P.s, p0, p1, .bool Q.s, q0, q1, .bool R.s, r0, r1] 35 (by first | rfl | simp)))
  go_enter Tryz.func7, Tryz.ntmps7
  go_wp2_with fail
  refine (isValidLink_i A B P Q R p0 p1 q0 q1 r0 r1 _ (S_1.out.lkA HL.out)).mono ?_
  rintro e w1 ⟨rfl, hb⟩
  have S_2 := Lib.hid (S_1.out.call hb)
  clear S_1
  clear hb
  by_cases hok : okK A B P Q R = true
  · rw [hok]
    have HE := Lib.hid (show ta ++ ⟨#[45]⟩ ++ tb ++ ⟨#[32]⟩ ++ tp ++ ⟨#[32]⟩ ++ tq ++ ⟨#[32]⟩ ++ tr = T by rw [← HT.out, fmtK_yes hok Hta.out Htb.out Htp.out Htq.out Htr.out])
    have hv := okK_parts hok
    have HVA := Lib.hid hv.1
    have HVB := Lib.hid hv.2.1
    clear hv hok
    have hsa : ta.size ≤ 20 := by rw [← Hta.out]; exact itoa_len A (by have := HVA.out; omega) (by have := HVA.out; omega)
    have hsb : tb.size ≤ 20 := by rw [← Htb.out]; exact itoa_len B (by have := HVB.out; omega) (by have := HVB.out; omega)
    obtain ⟨te, hte⟩ : ∃ z, ta ++ ⟨#[45]⟩ ++ tb = z := ⟨_, rfl⟩
    have hse : te.size ≤ 41 := by rw [← hte, ByteArray.size_append, ByteArray.size_append]; have : (⟨#[45]⟩ : ByteArray).size = 1 := rfl; omega
    have HTE := Lib.hid hte
    clear hte
    have hk_l_0_2 := S_2.out.cell 0 0 rfl rfl
    have hk_l_1_2 := S_2.out.cell 0 1 rfl rfl
    have hk_l_2_2 := S_2.out.cell 0 2 rfl rfl
    have hk_l_3_2 := S_2.out.cell 0 3 rfl rfl
    have hk_l_4_2 := S_2.out.cell 0 4 rfl rfl
    have hk_l_5_2 := S_2.out.cell 0 5 rfl rfl
    have hk_l_6_2 := S_2.out.cell 0 6 rfl rfl
    have hk_l_7_2 := S_2.out.cell 0 7 rfl rfl
    have hk_l_8_2 := S_2.out.cell 0 8 rfl rfl
    have hk_l_9_2 := S_2.out.cell 0 9 rfl rfl
    have hk_l_10_2 := S_2.out.cell 0 10 rfl rfl
    go_wp2
    go_region_held3 (fun w' => w'.cell? ⟨w.heap.size, 0, none⟩ = some (.int .i64 A) ∧ w'.cell? ⟨w.heap.size, 1, none⟩ = some (.int .i64 B) ∧ w'.cell? ⟨w.heap.size, 2, none⟩ = some (.bool P.s) ∧ w'.cell? ⟨w.heap.size, 3, none⟩ = some (p0) ∧ w'.cell? ⟨w.heap.size, 4, none⟩ = some (p1) ∧ w'.cell? ⟨w.heap.size, 5, none⟩ = some (.bool Q.s) ∧ w'.cell? ⟨w.heap.size, 6, none⟩ = some (q0) ∧ w'.cell? ⟨w.heap.size, 7, none⟩ = some (q1) ∧ w'.cell? ⟨w.heap.size, 8, none⟩ = some (.bool R.s) ∧ w'.cell? ⟨w.heap.size, 9, none⟩ = some (r0) ∧ w'.cell? ⟨w.heap.size, 10, none⟩ = some (r1)) (go_keep)
      (first
        | (go_at_call_of 16 (Value.int .i64 A)
           refine (formatInt_impl A _ (by have := HVA.out; omega) (by have := HVA.out; omega) (HLD.out.below S_2.out.drew.below)).mono ?_
           rintro e wiA ⟨rfl, hb⟩
           rw [Hta.out]
           have S_3 := Lib.hid (S_2.out.drew.call hb)
           clear S_2 hb
           have hk_l_0_3 := S_3.out.cell 0 0 rfl rfl
           have hk_l_1_3 := S_3.out.cell 0 1 rfl rfl
           have hk_l_2_3 := S_3.out.cell 0 2 rfl rfl
           have hk_l_3_3 := S_3.out.cell 0 3 rfl rfl
           have hk_l_4_3 := S_3.out.cell 0 4 rfl rfl
           have hk_l_5_3 := S_3.out.cell 0 5 rfl rfl
           have hk_l_6_3 := S_3.out.cell 0 6 rfl rfl
           have hk_l_7_3 := S_3.out.cell 0 7 rfl rfl
           have hk_l_8_3 := S_3.out.cell 0 8 rfl rfl
           have hk_l_9_3 := S_3.out.cell 0 9 rfl rfl
           have hk_l_10_3 := S_3.out.cell 0 10 rfl rfl)
        | (go_at_call_of 16 (Value.int .i64 B)
           refine (formatInt_impl B _ (by have := HVB.out; omega) (by have := HVB.out; omega) (HLD.out.below S_3.out.below)).mono ?_
           rintro e wiB ⟨rfl, hb⟩
           rw [Htb.out]
           have S_4 := Lib.hid (S_3.out.call hb)
           clear S_3 hb
           have hk_l_0_4 := S_4.out.cell 0 0 rfl rfl
           have hk_l_1_4 := S_4.out.cell 0 1 rfl rfl
           have hk_l_2_4 := S_4.out.cell 0 2 rfl rfl
           have hk_l_3_4 := S_4.out.cell 0 3 rfl rfl
           have hk_l_4_4 := S_4.out.cell 0 4 rfl rfl
           have hk_l_5_4 := S_4.out.cell 0 5 rfl rfl
           have hk_l_6_4 := S_4.out.cell 0 6 rfl rfl
           have hk_l_7_4 := S_4.out.cell 0 7 rfl rfl
           have hk_l_8_4 := S_4.out.cell 0 8 rfl rfl
           have hk_l_9_4 := S_4.out.cell 0 9 rfl rfl
           have hk_l_10_4 := S_4.out.cell 0 10 rfl rfl)
        | (go_at_call 15
           refine (joinAll_any _ 2 2 ⟨#[45]⟩ [ta, tb] _ (vrow2 wiB _ _ _) (by omega) (by decide) (by show 2 + (ta.size + (tb.size + 0)) ≤ _; omega) (by omega)).mono ?_
           rintro e wj1 ⟨rfl, hb⟩
           rw [join2, HTE.out]
           have S_5 := Lib.hid ((S_4.out.alloc [.string ta, .string tb] 9).call hb)
           clear S_4 hb
           have hk_l_0_5 := S_5.out.cell 1 0 rfl rfl
           have hk_l_1_5 := S_5.out.cell 1 1 rfl rfl
           have hk_l_2_5 := S_5.out.cell 1 2 rfl rfl
           have hk_l_3_5 := S_5.out.cell 1 3 rfl rfl
           have hk_l_4_5 := S_5.out.cell 1 4 rfl rfl
           have hk_l_5_5 := S_5.out.cell 1 5 rfl rfl
           have hk_l_6_5 := S_5.out.cell 1 6 rfl rfl
           have hk_l_7_5 := S_5.out.cell 1 7 rfl rfl
           have hk_l_8_5 := S_5.out.cell 1 8 rfl rfl
           have hk_l_9_5 := S_5.out.cell 1 9 rfl rfl
           have hk_l_10_5 := S_5.out.cell 1 10 rfl rfl))
    have hk_l_0_5 := S_5.out.cell 1 0 rfl rfl
    have hk_l_1_5 := S_5.out.cell 1 1 rfl rfl
    have hk_l_2_5 := S_5.out.cell 1 2 rfl rfl
    have hk_l_3_5 := S_5.out.cell 1 3 rfl rfl
    have hk_l_4_5 := S_5.out.cell 1 4 rfl rfl
    have hk_l_5_5 := S_5.out.cell 1 5 rfl rfl
    have hk_l_6_5 := S_5.out.cell 1 6 rfl rfl
    have hk_l_7_5 := S_5.out.cell 1 7 rfl rfl
    have hk_l_8_5 := S_5.out.cell 1 8 rfl rfl
    have hk_l_9_5 := S_5.out.cell 1 9 rfl rfl
    have hk_l_10_5 := S_5.out.cell 1 10 rfl rfl
    go_wp2
    go_region_held3 (fun w' => w'.cell? ⟨w.heap.size, 0, none⟩ = some (.int .i64 A) ∧ w'.cell? ⟨w.heap.size, 1, none⟩ = some (.int .i64 B) ∧ w'.cell? ⟨w.heap.size, 2, none⟩ = some (.bool P.s) ∧ w'.cell? ⟨w.heap.size, 3, none⟩ = some (p0) ∧ w'.cell? ⟨w.heap.size, 4, none⟩ = some (p1) ∧ w'.cell? ⟨w.heap.size, 5, none⟩ = some (.bool Q.s) ∧ w'.cell? ⟨w.heap.size, 6, none⟩ = some (q0) ∧ w'.cell? ⟨w.heap.size, 7, none⟩ = some (q1) ∧ w'.cell? ⟨w.heap.size, 8, none⟩ = some (.bool R.s) ∧ w'.cell? ⟨w.heap.size, 9, none⟩ = some (r0) ∧ w'.cell? ⟨w.heap.size, 10, none⟩ = some (r1)) (go_keep)
      (first
        | (go_at_call_of 17 (Value.agg #[Value.bool P.s, p0, p1])
           refine (formatRat_i P p0 p1 _ (S_5.out.drew.lkA HL.out).p (HLD.out.below S_5.out.drew.below)).mono ?_
           rintro e wrP ⟨rfl, hb⟩
           rw [Htp.out]
           have S_6 := Lib.hid (S_5.out.drew.call hb)
           clear S_5 hb
           have hk_l_0_6 := S_6.out.cell 1 0 rfl rfl
           have hk_l_1_6 := S_6.out.cell 1 1 rfl rfl
           have hk_l_2_6 := S_6.out.cell 1 2 rfl rfl
           have hk_l_3_6 := S_6.out.cell 1 3 rfl rfl
           have hk_l_4_6 := S_6.out.cell 1 4 rfl rfl
           have hk_l_5_6 := S_6.out.cell 1 5 rfl rfl
           have hk_l_6_6 := S_6.out.cell 1 6 rfl rfl
           have hk_l_7_6 := S_6.out.cell 1 7 rfl rfl
           have hk_l_8_6 := S_6.out.cell 1 8 rfl rfl
           have hk_l_9_6 := S_6.out.cell 1 9 rfl rfl
           have hk_l_10_6 := S_6.out.cell 1 10 rfl rfl)
        | (go_at_call_of 17 (Value.agg #[Value.bool Q.s, q0, q1])
           refine (formatRat_i Q q0 q1 _ (S_6.out.lkA HL.out).q (HLD.out.below S_6.out.below)).mono ?_
           rintro e wrQ ⟨rfl, hb⟩
           rw [Htq.out]
           have S_7 := Lib.hid (S_6.out.call hb)
           clear S_6 hb
           have hk_l_0_7 := S_7.out.cell 1 0 rfl rfl
           have hk_l_1_7 := S_7.out.cell 1 1 rfl rfl
           have hk_l_2_7 := S_7.out.cell 1 2 rfl rfl
           have hk_l_3_7 := S_7.out.cell 1 3 rfl rfl
           have hk_l_4_7 := S_7.out.cell 1 4 rfl rfl
           have hk_l_5_7 := S_7.out.cell 1 5 rfl rfl
           have hk_l_6_7 := S_7.out.cell 1 6 rfl rfl
           have hk_l_7_7 := S_7.out.cell 1 7 rfl rfl
           have hk_l_8_7 := S_7.out.cell 1 8 rfl rfl
           have hk_l_9_7 := S_7.out.cell 1 9 rfl rfl
           have hk_l_10_7 := S_7.out.cell 1 10 rfl rfl)
        | (go_at_call_of 17 (Value.agg #[Value.bool R.s, r0, r1])
           refine (formatRat_i R r0 r1 _ (S_7.out.lkA HL.out).r (HLD.out.below S_7.out.below)).mono ?_
           rintro e wrR ⟨rfl, hb⟩
           rw [Htr.out]
           have S_8 := Lib.hid (S_7.out.call hb)
           clear S_7 hb
           have hk_l_0_8 := S_8.out.cell 1 0 rfl rfl
           have hk_l_1_8 := S_8.out.cell 1 1 rfl rfl
           have hk_l_2_8 := S_8.out.cell 1 2 rfl rfl
           have hk_l_3_8 := S_8.out.cell 1 3 rfl rfl
           have hk_l_4_8 := S_8.out.cell 1 4 rfl rfl
           have hk_l_5_8 := S_8.out.cell 1 5 rfl rfl
           have hk_l_6_8 := S_8.out.cell 1 6 rfl rfl
           have hk_l_7_8 := S_8.out.cell 1 7 rfl rfl
           have hk_l_8_8 := S_8.out.cell 1 8 rfl rfl
           have hk_l_9_8 := S_8.out.cell 1 9 rfl rfl
           have hk_l_10_8 := S_8.out.cell 1 10 rfl rfl)
        | (go_at_call 15
           refine (joinAll_any _ 4 4 ⟨#[32]⟩ [te, tp, tq, tr] _ (vrow4 wrR _ _ _ _ _) (by omega) (by decide) (by show 4 + (te.size + (tp.size + (tq.size + (tr.size + 0)))) ≤ _; omega) (by omega)).mono ?_
           rintro e wj2 ⟨rfl, hb⟩
           rw [join4]
           have S_9 := Lib.hid ((S_8.out.alloc [.string te, .string tp, .string tq, .string tr] 9).call hb)
           clear S_8 hb
           have hk_l_0_9 := S_9.out.cell 2 0 rfl rfl
           have hk_l_1_9 := S_9.out.cell 2 1 rfl rfl
           have hk_l_2_9 := S_9.out.cell 2 2 rfl rfl
           have hk_l_3_9 := S_9.out.cell 2 3 rfl rfl
           have hk_l_4_9 := S_9.out.cell 2 4 rfl rfl
           have hk_l_5_9 := S_9.out.cell 2 5 rfl rfl
           have hk_l_6_9 := S_9.out.cell 2 6 rfl rfl
           have hk_l_7_9 := S_9.out.cell 2 7 rfl rfl
           have hk_l_8_9 := S_9.out.cell 2 8 rfl rfl
           have hk_l_9_9 := S_9.out.cell 2 9 rfl rfl
           have hk_l_10_9 := S_9.out.cell 2 10 rfl rfl))
    all_goals go_wp2
    all_goals go_ret
    all_goals exact ⟨by rw [← HE.out, ← HTE.out]; rfl, S_9.out.below⟩
  · rw [Bool.not_eq_true] at hok
    rw [hok]
    have HE := Lib.hid (show ⟨#[]⟩ = T by rw [← HT.out, fmtK_no hok])
    clear hok
    go_wp2
    go_ret
    exact ⟨by rw [← HE.out]; rfl, S_2.out.below⟩
end Go.Proofs.YtljlibigphgffaaGreatDoor
