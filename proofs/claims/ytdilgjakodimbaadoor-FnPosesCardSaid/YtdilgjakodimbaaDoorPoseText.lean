/- Poses: FormatPose of the model and of the program. Conditions: the listed variables of strconv hold what the program's text lays (the program's side). -/
import Derived.Test.YtdilgjakodimbaaDoorPose2
import Derived.Test.YtdilgjakodimbaaDoorStrconv
import Derived.Test.YtdilgjakodimbaaDoorJoinImpl
namespace Go.Proofs.YtdilgjakodimbaaDoor
open Go.RowKit Po Nu Jn
set_option linter.unusedVariables false

namespace Po
/-- The letter of a heading. -/
def ltr (t : Int) : ByteArray := if t = 0 then ⟨#[101]⟩ else if t = 1 then ⟨#[110]⟩ else if t = 2 then ⟨#[119]⟩ else ⟨#[115]⟩
/-- What FormatPose answers. -/
def fmtP (t x y : Int) : ByteArray := if ok t x y = true then itoaB x ++ ⟨#[44]⟩ ++ itoaB y ++ ⟨#[44]⟩ ++ ltr t else ⟨#[]⟩
theorem fmtP_no {t x y : Int} (h : ok t x y = false) : fmtP t x y = ⟨#[]⟩ := by simp [fmtP, h]
theorem fmtP_yes {t x y : Int} (h : ok t x y = true) : fmtP t x y = itoaB x ++ ⟨#[44]⟩ ++ itoaB y ++ ⟨#[44]⟩ ++ ltr t := by simp [fmtP, h]
theorem ltr_size (t : Int) : (ltr t).size = 1 := by unfold ltr; split; rfl; split; rfl; split <;> rfl
theorem join3 (b x y z : ByteArray) : join b [x, y, z] = x ++ b ++ y ++ b ++ z := by
  apply bytes_ext
  simp [join, joinL]
end Po
theorem vrow3 (u : World) (a b c : ByteArray) (t : TypeId) : VRow (u.alloc (.cells #[.string a, .string b, .string c] t)) (some ⟨u.heap.size, 0, none⟩) 3 ([a, b, c].map .string) := by
  refine ⟨rfl, fun _ => ⟨u.heap.size, 0, rfl, by simp, fun j hj => ?_⟩⟩
  match j, hj with
  | 0, _ => simp
  | 1, _ => simp
  | 2, _ => simp
/-- The letter's cell in a row of the four letters. -/
theorem letterAt {u : World} {b : Nat} {t : Int} (h : HeldL u b [.string ⟨#[101]⟩, .string ⟨#[110]⟩, .string ⟨#[119]⟩, .string ⟨#[115]⟩]) (h0 : 0 ≤ t) (h1 : t ≤ 3) : u.cell? ⟨b, t.toNat, none⟩ = some (.string (ltr t)) := by
  rcases four h0 h1 with rfl | rfl | rfl | rfl
  · exact h.cell 0 _ rfl
  · exact h.cell 1 _ rfl
  · exact h.cell 2 _ rfl
  · exact h.cell 3 _ rfl
set_option maxRecDepth 100000 in
set_option maxHeartbeats 4000000 in
theorem formatPose_spec (t x y : Int) (w : World) :
    Calls Tryd.prog 35 #[.agg #[.int .i64 t, .int .i64 x, .int .i64 y]] w fun e w' => e = .returned (.string (fmtP t x y)) ∧ Below w.heap.size w w' := by
  obtain ⟨R, hR⟩ : ∃ z, fmtP t x y = z := ⟨_, rfl⟩
  rw [hR]
  have HR := Lib.hid hR
  clear hR
  go_enter Tryd.func35, Tryd.ntmps35
  have HB_0 := Lib.hid ((Below.refl w.heap.size w).alloc (Nat.le_refl _) (.cells #[.int .i64 t, .int .i64 x, .int .i64 y] 24))
  have K_p_0 := Lib.hid (HeldL.new_at w (w.heap.size) [.int .i64 t, .int .i64 x, .int .i64 y] 24 (by first | rfl | simp))
  go_wp2_with fail
  refine (validP_spec t x y _).mono ?_
  rintro e w1 ⟨rfl, hb⟩
  have K_p_1 := Lib.hid (K_p_0.out.after hb)
  have HB_1 := Lib.hid (HB_0.out.trans (hb.mono HB_0.out.size))
  clear hb
  by_cases hp : ok t x y = true
  · rw [hp]
    obtain ⟨⟨ht0, ht1⟩, hx, hy⟩ := ok_iff.mp hp
    have hr := HR.out
    rw [fmtP_yes hp] at hr
    have hsx := itoa_len x (by omega) (by omega)
    have hsy := itoa_len y (by omega) (by omega)
    obtain ⟨sx, ex⟩ : ∃ z, itoaB x = z := ⟨_, rfl⟩
    obtain ⟨sy, ey⟩ : ∃ z, itoaB y = z := ⟨_, rfl⟩
    rw [ex] at hsx
    rw [ey] at hsy
    rw [ex, ey] at hr
    have EX := Lib.hid ex
    have EY := Lib.hid ey
    have HX := Lib.hid hx
    have HY := Lib.hid hy
    clear ex ey hp HR hx hy
    have HSX := Lib.hid hsx
    have HSY := Lib.hid hsy
    have hz1 : ¬ (9223372036854775807 < sx.size + 1) := by omega
    have hz2 : ¬ (9223372036854775807 < sx.size + 1 + sy.size) := by omega
    have hz3 : ¬ (9223372036854775807 < sx.size + 1 + sy.size + 1) := by omega
    have hz4 : ¬ (9223372036854775807 < sx.size + 1 + sy.size + 1 + 1) := by omega
    clear hsx hsy
    have hlz := ltr_size t
    obtain ⟨L, hL⟩ : ∃ z, ltr t = z := ⟨_, rfl⟩
    rw [hL] at hr hlz
    have HL_ := Lib.hid hL
    have HE := Lib.hid hr
    have ht4 : t < 4 := by omega
    clear hL hr
    have hk_p_0_1 := K_p_1.out.cell 0 _ rfl
    have hk_p_1_1 := K_p_1.out.cell 1 _ rfl
    have hk_p_2_1 := K_p_1.out.cell 2 _ rfl
    go_wp2
    have hn0 : ∀ (u : World), (u.alloc (.cells #[.string ⟨#[101]⟩, .string ⟨#[110]⟩, .string ⟨#[119]⟩, .string ⟨#[115]⟩] 9)).cell? ⟨u.heap.size, t.toNat, none⟩ = some (.string L) := fun u => by rw [letterAt (HeldL.new u [.string ⟨#[101]⟩, .string ⟨#[110]⟩, .string ⟨#[119]⟩, .string ⟨#[115]⟩] _) ht0 ht1, HL_.out]
    refine wp_region_noPanic ?_
    refine wp_region_held_drew (S := (fun w' => w'.cell? ⟨w.heap.size, 0, none⟩ = some (.int .i64 t) ∧ w'.cell? ⟨w.heap.size, 1, none⟩ = some (.int .i64 x) ∧ w'.cell? ⟨w.heap.size, 2, none⟩ = some (.int .i64 y))) (by kernel_rfl) ?_ (fun hHeld => ?_)
    · try dsimp only
      go_keep
    refine wpAnyH_take (i := 0) (oi := { dst := some 6, op := Op.fieldAddr 24 (Operand.tmp 1) 1, type := 0, pos := "l05_pose.go:63", after := #[], guard := none }) (v := ?_) rfl (by kernel_rfl) (by kernel_rfl) (by kernel_rfl) (fun _ _ _ h => h) (Or.inl ⟨by rfl, ?_⟩) (by assumption) ?_
    rotate_left
    · intro w9 hSw
      try dsimp only at hSw
      go_simp
      try with_reducible rfl
    try simp only [Act.put, List.setIfInBounds_toArray, List.set_cons_zero, List.set_cons_succ]
    refine wpAnyH_take (i := 1) (oi := { dst := some 7, op := Op.load 3 (Operand.tmp 6), type := 3, pos := "l05_pose.go:63", after := #[{ on := 0, ground := Ground.data }], guard := none }) (v := ?_) rfl (by kernel_rfl) (by kernel_rfl) (by kernel_rfl) (fun _ _ _ h => h) (Or.inl ⟨by rfl, ?_⟩) (by assumption) ?_
    rotate_left
    · intro w9 hSw
      try dsimp only at hSw
      go_simp
      try with_reducible rfl
    try simp only [Act.put, List.setIfInBounds_toArray, List.set_cons_zero, List.set_cons_succ]
    refine wpAnyH_take (i := 4) (oi := { dst := some 10, op := Op.fieldAddr 24 (Operand.tmp 1) 2, type := 0, pos := "l05_pose.go:63", after := #[], guard := none }) (v := ?_) rfl (by kernel_rfl) (by kernel_rfl) (by kernel_rfl) (fun _ _ _ h => h) (Or.inl ⟨by rfl, ?_⟩) (by assumption) ?_
    rotate_left
    · intro w9 hSw
      try dsimp only at hSw
      go_simp
      try with_reducible rfl
    try simp only [Act.put, List.setIfInBounds_toArray, List.set_cons_zero, List.set_cons_succ]
    refine wpAnyH_take (i := 5) (oi := { dst := some 11, op := Op.load 3 (Operand.tmp 10), type := 3, pos := "l05_pose.go:63", after := #[{ on := 4, ground := Ground.data }], guard := none }) (v := ?_) rfl (by kernel_rfl) (by kernel_rfl) (by kernel_rfl) (fun _ _ _ h => h) (Or.inl ⟨by rfl, ?_⟩) (by assumption) ?_
    rotate_left
    · intro w9 hSw
      try dsimp only at hSw
      go_simp
      try with_reducible rfl
    try simp only [Act.put, List.setIfInBounds_toArray, List.set_cons_zero, List.set_cons_succ]
    refine wpAnyH_take (i := 10) (oi := { dst := some 16, op := Op.fieldAddr 24 (Operand.tmp 1) 0, type := 0, pos := "l05_pose.go:63", after := #[], guard := none }) (v := ?_) rfl (by kernel_rfl) (by kernel_rfl) (by kernel_rfl) (fun _ _ _ h => h) (Or.inl ⟨by rfl, ?_⟩) (by assumption) ?_
    rotate_left
    · intro w9 hSw
      try dsimp only at hSw
      go_simp
      try with_reducible rfl
    try simp only [Act.put, List.setIfInBounds_toArray, List.set_cons_zero, List.set_cons_succ]
    refine wpAnyH_take (i := 11) (oi := { dst := some 17, op := Op.load 3 (Operand.tmp 16), type := 3, pos := "l05_pose.go:63", after := #[{ on := 10, ground := Ground.data }], guard := none }) (v := ?_) rfl (by kernel_rfl) (by kernel_rfl) (by kernel_rfl) (fun _ _ _ h => h) (Or.inl ⟨by rfl, ?_⟩) (by assumption) ?_
    rotate_left
    · intro w9 hSw
      try dsimp only at hSw
      go_simp
      try with_reducible rfl
    try simp only [Act.put, List.setIfInBounds_toArray, List.set_cons_zero, List.set_cons_succ]
    refine wpAnyH_ready (rs := [2, 9]) (by kernel_rfl) (by simp) ?_
    refine AllReadyH.cons (o := { dst := some 8, op := Op.call { callee := Callee.value (Operand.func 65), args := #[Operand.tmp 7], argTypes := #[3] }, type := 9, pos := "l05_pose.go:63", after := #[{ on := 1, ground := Ground.data }], guard := none }) rfl (fun K hK => ?_) ?_
    · go_simp
      first
        | ((go_at_call_of 65 (Value.int .i64 x)); (refine (format_any x _ (by have := HX.out; omega) (by have := HX.out; omega)).mono ?_); (rintro e u1 ⟨rfl, hb⟩); (rw [EX.out]); (first | (have KN1 := Lib.hid ((HeldL.new w1 [.string ⟨#[101]⟩, .string ⟨#[110]⟩, .string ⟨#[119]⟩, .string ⟨#[115]⟩] 9).drew.after hb)) | skip); (try have hn1 := letterAt KN1.out ht0 ht1); (try rw [HL_.out] at hn1); (have T9 : HeldL u1 w.heap.size [.int .i64 t, .int .i64 x, .int .i64 y] := by first | exact K_p_1.out.drew.after hb | exact (K_p_1.out.alloc (.cells #[.string ⟨#[101]⟩, .string ⟨#[110]⟩, .string ⟨#[119]⟩, .string ⟨#[115]⟩] 9)).drew.after hb); (have KK1 := Lib.hid T9); (clear T9); (have T9 : Below w.heap.size w u1 := by first | exact (HB_1.out.drew).trans (hb.mono (HB_1.out.drew).size) | exact ((HB_1.out.alloc HB_1.out.size (.cells #[.string ⟨#[101]⟩, .string ⟨#[110]⟩, .string ⟨#[119]⟩, .string ⟨#[115]⟩] 9)).drew).trans (hb.mono ((HB_1.out.alloc HB_1.out.size (.cells #[.string ⟨#[101]⟩, .string ⟨#[110]⟩, .string ⟨#[119]⟩, .string ⟨#[115]⟩] 9)).drew).size)); (have HHB1 := Lib.hid T9); (clear T9 hb); (have hq0_1 := KK1.out.cell 0 _ rfl); (have hq1_1 := KK1.out.cell 1 _ rfl); (have hq2_1 := KK1.out.cell 2 _ rfl))
        | ((go_at_call_of 65 (Value.int .i64 y)); (refine (format_any y _ (by have := HY.out; omega) (by have := HY.out; omega)).mono ?_); (rintro e u2 ⟨rfl, hb⟩); (rw [EY.out]); (first | (have KN2 := Lib.hid (KN1.out.after hb)) | (have KN2 := Lib.hid ((HeldL.new u1 [.string ⟨#[101]⟩, .string ⟨#[110]⟩, .string ⟨#[119]⟩, .string ⟨#[115]⟩] 9).after hb)) | skip); (try have hn2 := letterAt KN2.out ht0 ht1); (try rw [HL_.out] at hn2); (have T9 : HeldL u2 w.heap.size [.int .i64 t, .int .i64 x, .int .i64 y] := by first | exact KK1.out.after hb | exact (KK1.out.alloc (.cells #[.string ⟨#[101]⟩, .string ⟨#[110]⟩, .string ⟨#[119]⟩, .string ⟨#[115]⟩] 9)).after hb); (have KK2 := Lib.hid T9); (clear T9); (have T9 : Below w.heap.size w u2 := by first | exact (HHB1.out).trans (hb.mono (HHB1.out).size) | exact ((HHB1.out.alloc HHB1.out.size (.cells #[.string ⟨#[101]⟩, .string ⟨#[110]⟩, .string ⟨#[119]⟩, .string ⟨#[115]⟩] 9))).trans (hb.mono ((HHB1.out.alloc HHB1.out.size (.cells #[.string ⟨#[101]⟩, .string ⟨#[110]⟩, .string ⟨#[119]⟩, .string ⟨#[115]⟩] 9))).size)); (have HHB2 := Lib.hid T9); (clear T9 hb); (have hq0_2 := KK2.out.cell 0 _ rfl); (have hq1_2 := KK2.out.cell 1 _ rfl); (have hq2_2 := KK2.out.cell 2 _ rfl))
      go_wp2_with fail
      refine hK.out _ _ ?_ (fun hHeld2 => ?_)
      · try dsimp only
        go_keep
      clear hK K
      try simp only [Act.put, List.setIfInBounds_toArray, List.set_cons_zero, List.set_cons_succ]
      refine wpAnyH_take (i := 3) (oi := { dst := some 9, op := Op.binOp BinOp.add 9 (Operand.tmp 8) (Operand.const (Value.string { data := #[44] })) 9, type := 9, pos := "l05_pose.go:63", after := #[{ on := 2, ground := Ground.data }], guard := none }) (v := ?_) rfl (by kernel_rfl) (by kernel_rfl) (by kernel_rfl) (fun _ _ _ h => h) (Or.inl ⟨by rfl, ?_⟩) (by assumption) ?_
      rotate_left
      · intro w9 hSw
        try dsimp only at hSw
        go_simp
        try with_reducible rfl
      try simp only [Act.put, List.setIfInBounds_toArray, List.set_cons_zero, List.set_cons_succ]
      refine wpAnyH_ready (rs := [6, 9]) (by kernel_rfl) (by simp) ?_
      refine AllReadyH.cons (o := { dst := some 12, op := Op.call { callee := Callee.value (Operand.func 65), args := #[Operand.tmp 11], argTypes := #[3] }, type := 9, pos := "l05_pose.go:63", after := #[{ on := 5, ground := Ground.data }, { on := 2, ground := Ground.chain }], guard := none }) rfl (fun K hK => ?_) ?_
      · go_simp
        first
          | ((go_at_call_of 65 (Value.int .i64 x)); (refine (format_any x _ (by have := HX.out; omega) (by have := HX.out; omega)).mono ?_); (rintro e u1 ⟨rfl, hb⟩); (rw [EX.out]); (first | (have KN1 := Lib.hid ((HeldL.new w1 [.string ⟨#[101]⟩, .string ⟨#[110]⟩, .string ⟨#[119]⟩, .string ⟨#[115]⟩] 9).drew.after hb)) | skip); (try have hn1 := letterAt KN1.out ht0 ht1); (try rw [HL_.out] at hn1); (have T9 : HeldL u1 w.heap.size [.int .i64 t, .int .i64 x, .int .i64 y] := by first | exact K_p_1.out.drew.after hb | exact (K_p_1.out.alloc (.cells #[.string ⟨#[101]⟩, .string ⟨#[110]⟩, .string ⟨#[119]⟩, .string ⟨#[115]⟩] 9)).drew.after hb); (have KK1 := Lib.hid T9); (clear T9); (have T9 : Below w.heap.size w u1 := by first | exact (HB_1.out.drew).trans (hb.mono (HB_1.out.drew).size) | exact ((HB_1.out.alloc HB_1.out.size (.cells #[.string ⟨#[101]⟩, .string ⟨#[110]⟩, .string ⟨#[119]⟩, .string ⟨#[115]⟩] 9)).drew).trans (hb.mono ((HB_1.out.alloc HB_1.out.size (.cells #[.string ⟨#[101]⟩, .string ⟨#[110]⟩, .string ⟨#[119]⟩, .string ⟨#[115]⟩] 9)).drew).size)); (have HHB1 := Lib.hid T9); (clear T9 hb); (have hq0_1 := KK1.out.cell 0 _ rfl); (have hq1_1 := KK1.out.cell 1 _ rfl); (have hq2_1 := KK1.out.cell 2 _ rfl))
          | ((go_at_call_of 65 (Value.int .i64 y)); (refine (format_any y _ (by have := HY.out; omega) (by have := HY.out; omega)).mono ?_); (rintro e u2 ⟨rfl, hb⟩); (rw [EY.out]); (first | (have KN2 := Lib.hid (KN1.out.after hb)) | (have KN2 := Lib.hid ((HeldL.new u1 [.string ⟨#[101]⟩, .string ⟨#[110]⟩, .string ⟨#[119]⟩, .string ⟨#[115]⟩] 9).after hb)) | skip); (try have hn2 := letterAt KN2.out ht0 ht1); (try rw [HL_.out] at hn2); (have T9 : HeldL u2 w.heap.size [.int .i64 t, .int .i64 x, .int .i64 y] := by first | exact KK1.out.after hb | exact (KK1.out.alloc (.cells #[.string ⟨#[101]⟩, .string ⟨#[110]⟩, .string ⟨#[119]⟩, .string ⟨#[115]⟩] 9)).after hb); (have KK2 := Lib.hid T9); (clear T9); (have T9 : Below w.heap.size w u2 := by first | exact (HHB1.out).trans (hb.mono (HHB1.out).size) | exact ((HHB1.out.alloc HHB1.out.size (.cells #[.string ⟨#[101]⟩, .string ⟨#[110]⟩, .string ⟨#[119]⟩, .string ⟨#[115]⟩] 9))).trans (hb.mono ((HHB1.out.alloc HHB1.out.size (.cells #[.string ⟨#[101]⟩, .string ⟨#[110]⟩, .string ⟨#[119]⟩, .string ⟨#[115]⟩] 9))).size)); (have HHB2 := Lib.hid T9); (clear T9 hb); (have hq0_2 := KK2.out.cell 0 _ rfl); (have hq1_2 := KK2.out.cell 1 _ rfl); (have hq2_2 := KK2.out.cell 2 _ rfl))
        go_wp2_with fail
        refine hK.out _ _ ?_ (fun hHeld2 => ?_)
        · try dsimp only
          go_keep
        clear hK K
        try simp only [Act.put, List.setIfInBounds_toArray, List.set_cons_zero, List.set_cons_succ]
        refine wpAnyH_take (i := 7) (oi := { dst := some 13, op := Op.binOp BinOp.add 9 (Operand.tmp 9) (Operand.tmp 12) 9, type := 9, pos := "l05_pose.go:63", after := #[{ on := 3, ground := Ground.data }, { on := 6, ground := Ground.data }], guard := none }) (v := ?_) rfl (by kernel_rfl) (by kernel_rfl) (by kernel_rfl) (fun _ _ _ h => h) (Or.inl ⟨by rfl, ?_⟩) (by assumption) ?_
        rotate_left
        · intro w9 hSw
          try dsimp only at hSw
          go_simp
          try with_reducible rfl
        try simp only [Act.put, List.setIfInBounds_toArray, List.set_cons_zero, List.set_cons_succ]
        refine wpAnyH_take (i := 8) (oi := { dst := some 14, op := Op.binOp BinOp.add 9 (Operand.tmp 13) (Operand.const (Value.string { data := #[44] })) 9, type := 9, pos := "l05_pose.go:63", after := #[{ on := 7, ground := Ground.data }], guard := none }) (v := ?_) rfl (by kernel_rfl) (by kernel_rfl) (by kernel_rfl) (fun _ _ _ h => h) (Or.inl ⟨by rfl, ?_⟩) (by assumption) ?_
        rotate_left
        · intro w9 hSw
          try dsimp only at hSw
          go_simp
          try with_reducible rfl
        try simp only [Act.put, List.setIfInBounds_toArray, List.set_cons_zero, List.set_cons_succ]
        refine wpAnyH_ready (rs := [9]) (by kernel_rfl) (by simp) ?_
        refine AllReadyH.cons (o := { dst := some 15, op := Op.buildSlice 64 4 #[(0, Operand.const (Value.string { data := #[101] })), (1, Operand.const (Value.string { data := #[110] })), (2, Operand.const (Value.string { data := #[119] })), (3, Operand.const (Value.string { data := #[115] }))], type := 64, pos := "l05_pose.go:63", after := #[], guard := none }) rfl (fun K hK => ?_) ?_
        · go_simp
          refine hK.out _ _ ?_ (fun hHeld2 => ?_)
          · try dsimp only
            go_keep
          clear hK K
          try simp only [Act.put, List.setIfInBounds_toArray, List.set_cons_zero, List.set_cons_succ]
          refine wpAnyH_take (i := 12) (oi := { dst := some 18, op := Op.indexAddr 64 (Operand.tmp 15) (Operand.tmp 17), type := 0, pos := "l05_pose.go:63", after := #[{ on := 9, ground := Ground.data }, { on := 11, ground := Ground.data }], guard := none }) (v := ?_) rfl (by kernel_rfl) (by kernel_rfl) (by kernel_rfl) (fun _ _ _ h => h) (Or.inl ⟨by rfl, ?_⟩) (by assumption) ?_
          rotate_left
          · intro w9 hSw
            try dsimp only at hSw
            go_simp
            try with_reducible rfl
          try simp only [Act.put, List.setIfInBounds_toArray, List.set_cons_zero, List.set_cons_succ]
          refine wpAnyH_ready (rs := [13]) (by kernel_rfl) (by simp) ?_
          refine AllReadyH.cons (o := { dst := some 19, op := Op.load 9 (Operand.tmp 18), type := 9, pos := "l05_pose.go:63", after := #[{ on := 12, ground := Ground.data }], guard := none }) rfl (fun K hK => ?_) ?_
          · go_simp
            refine hK.out _ _ ?_ (fun hHeld2 => ?_)
            · try dsimp only
              go_keep
            clear hK K
            try simp only [Act.put, List.setIfInBounds_toArray, List.set_cons_zero, List.set_cons_succ]
            refine wpAnyH_take (i := 14) (oi := { dst := some 20, op := Op.binOp BinOp.add 9 (Operand.tmp 14) (Operand.tmp 19) 9, type := 9, pos := "l05_pose.go:63", after := #[{ on := 8, ground := Ground.data }, { on := 13, ground := Ground.data }], guard := none }) (v := ?_) rfl (by kernel_rfl) (by kernel_rfl) (by kernel_rfl) (fun _ _ _ h => h) (Or.inl ⟨by rfl, ?_⟩) (by assumption) ?_
            rotate_left
            · intro w9 hSw
              try dsimp only at hSw
              go_simp
              try with_reducible rfl
            try simp only [Act.put, List.setIfInBounds_toArray, List.set_cons_zero, List.set_cons_succ]
            refine wpAnyH_take (i := 15) (oi := { dst := some 2, op := Op.assign (Operand.tmp 20), type := 9, pos := "l05_pose.go:63", after := #[{ on := 14, ground := Ground.data }, { on := 6, ground := Ground.chain }, { on := 0, ground := Ground.phase }, { on := 1, ground := Ground.phase }, { on := 2, ground := Ground.phase }, { on := 3, ground := Ground.phase }, { on := 4, ground := Ground.phase }, { on := 5, ground := Ground.phase }, { on := 6, ground := Ground.phase }, { on := 7, ground := Ground.phase }, { on := 8, ground := Ground.phase }, { on := 9, ground := Ground.phase }, { on := 10, ground := Ground.phase }, { on := 11, ground := Ground.phase }, { on := 12, ground := Ground.phase }, { on := 13, ground := Ground.phase }, { on := 14, ground := Ground.phase }], guard := none }) (v := ?_) rfl (by kernel_rfl) (by kernel_rfl) (by kernel_rfl) (fun _ _ _ h => h) (Or.inl ⟨by rfl, ?_⟩) (by assumption) ?_
            rotate_left
            · intro w9 hSw
              try dsimp only at hSw
              go_simp
              try with_reducible rfl
            try simp only [Act.put, List.setIfInBounds_toArray, List.set_cons_zero, List.set_cons_succ]
            refine wpAnyH_done (by kernel_rfl) ?_ _
            refine NoPanic.normal ?_
            go_wp2
            go_ret
            first
              | exact ⟨by rw [← HE.out]; rfl, HHB2.out⟩
              | exact ⟨by rw [← HE.out]; rfl, HHB2.out.alloc HHB2.out.size _⟩
          exact AllReadyH.nil
        exact AllReadyH.nil
      refine AllReadyH.cons (o := { dst := some 15, op := Op.buildSlice 64 4 #[(0, Operand.const (Value.string { data := #[101] })), (1, Operand.const (Value.string { data := #[110] })), (2, Operand.const (Value.string { data := #[119] })), (3, Operand.const (Value.string { data := #[115] }))], type := 64, pos := "l05_pose.go:63", after := #[], guard := none }) rfl (fun K hK => ?_) ?_
      · go_simp
        refine hK.out _ _ ?_ (fun hHeld2 => ?_)
        · try dsimp only
          go_keep
        clear hK K
        try simp only [Act.put, List.setIfInBounds_toArray, List.set_cons_zero, List.set_cons_succ]
        refine wpAnyH_take (i := 12) (oi := { dst := some 18, op := Op.indexAddr 64 (Operand.tmp 15) (Operand.tmp 17), type := 0, pos := "l05_pose.go:63", after := #[{ on := 9, ground := Ground.data }, { on := 11, ground := Ground.data }], guard := none }) (v := ?_) rfl (by kernel_rfl) (by kernel_rfl) (by kernel_rfl) (fun _ _ _ h => h) (Or.inl ⟨by rfl, ?_⟩) (by assumption) ?_
        rotate_left
        · intro w9 hSw
          try dsimp only at hSw
          go_simp
          try with_reducible rfl
        try simp only [Act.put, List.setIfInBounds_toArray, List.set_cons_zero, List.set_cons_succ]
        refine wpAnyH_ready (rs := [6, 13]) (by kernel_rfl) (by simp) ?_
        refine AllReadyH.cons (o := { dst := some 12, op := Op.call { callee := Callee.value (Operand.func 65), args := #[Operand.tmp 11], argTypes := #[3] }, type := 9, pos := "l05_pose.go:63", after := #[{ on := 5, ground := Ground.data }, { on := 2, ground := Ground.chain }], guard := none }) rfl (fun K hK => ?_) ?_
        · go_simp
          first
            | ((go_at_call_of 65 (Value.int .i64 x)); (refine (format_any x _ (by have := HX.out; omega) (by have := HX.out; omega)).mono ?_); (rintro e u1 ⟨rfl, hb⟩); (rw [EX.out]); (first | (have KN1 := Lib.hid ((HeldL.new w1 [.string ⟨#[101]⟩, .string ⟨#[110]⟩, .string ⟨#[119]⟩, .string ⟨#[115]⟩] 9).drew.after hb)) | skip); (try have hn1 := letterAt KN1.out ht0 ht1); (try rw [HL_.out] at hn1); (have T9 : HeldL u1 w.heap.size [.int .i64 t, .int .i64 x, .int .i64 y] := by first | exact K_p_1.out.drew.after hb | exact (K_p_1.out.alloc (.cells #[.string ⟨#[101]⟩, .string ⟨#[110]⟩, .string ⟨#[119]⟩, .string ⟨#[115]⟩] 9)).drew.after hb); (have KK1 := Lib.hid T9); (clear T9); (have T9 : Below w.heap.size w u1 := by first | exact (HB_1.out.drew).trans (hb.mono (HB_1.out.drew).size) | exact ((HB_1.out.alloc HB_1.out.size (.cells #[.string ⟨#[101]⟩, .string ⟨#[110]⟩, .string ⟨#[119]⟩, .string ⟨#[115]⟩] 9)).drew).trans (hb.mono ((HB_1.out.alloc HB_1.out.size (.cells #[.string ⟨#[101]⟩, .string ⟨#[110]⟩, .string ⟨#[119]⟩, .string ⟨#[115]⟩] 9)).drew).size)); (have HHB1 := Lib.hid T9); (clear T9 hb); (have hq0_1 := KK1.out.cell 0 _ rfl); (have hq1_1 := KK1.out.cell 1 _ rfl); (have hq2_1 := KK1.out.cell 2 _ rfl))
            | ((go_at_call_of 65 (Value.int .i64 y)); (refine (format_any y _ (by have := HY.out; omega) (by have := HY.out; omega)).mono ?_); (rintro e u2 ⟨rfl, hb⟩); (rw [EY.out]); (first | (have KN2 := Lib.hid (KN1.out.after hb)) | (have KN2 := Lib.hid ((HeldL.new u1 [.string ⟨#[101]⟩, .string ⟨#[110]⟩, .string ⟨#[119]⟩, .string ⟨#[115]⟩] 9).after hb)) | skip); (try have hn2 := letterAt KN2.out ht0 ht1); (try rw [HL_.out] at hn2); (have T9 : HeldL u2 w.heap.size [.int .i64 t, .int .i64 x, .int .i64 y] := by first | exact KK1.out.after hb | exact (KK1.out.alloc (.cells #[.string ⟨#[101]⟩, .string ⟨#[110]⟩, .string ⟨#[119]⟩, .string ⟨#[115]⟩] 9)).after hb); (have KK2 := Lib.hid T9); (clear T9); (have T9 : Below w.heap.size w u2 := by first | exact (HHB1.out).trans (hb.mono (HHB1.out).size) | exact ((HHB1.out.alloc HHB1.out.size (.cells #[.string ⟨#[101]⟩, .string ⟨#[110]⟩, .string ⟨#[119]⟩, .string ⟨#[115]⟩] 9))).trans (hb.mono ((HHB1.out.alloc HHB1.out.size (.cells #[.string ⟨#[101]⟩, .string ⟨#[110]⟩, .string ⟨#[119]⟩, .string ⟨#[115]⟩] 9))).size)); (have HHB2 := Lib.hid T9); (clear T9 hb); (have hq0_2 := KK2.out.cell 0 _ rfl); (have hq1_2 := KK2.out.cell 1 _ rfl); (have hq2_2 := KK2.out.cell 2 _ rfl))
          go_wp2_with fail
          refine hK.out _ _ ?_ (fun hHeld2 => ?_)
          · try dsimp only
            go_keep
          clear hK K
          try simp only [Act.put, List.setIfInBounds_toArray, List.set_cons_zero, List.set_cons_succ]
          refine wpAnyH_take (i := 7) (oi := { dst := some 13, op := Op.binOp BinOp.add 9 (Operand.tmp 9) (Operand.tmp 12) 9, type := 9, pos := "l05_pose.go:63", after := #[{ on := 3, ground := Ground.data }, { on := 6, ground := Ground.data }], guard := none }) (v := ?_) rfl (by kernel_rfl) (by kernel_rfl) (by kernel_rfl) (fun _ _ _ h => h) (Or.inl ⟨by rfl, ?_⟩) (by assumption) ?_
          rotate_left
          · intro w9 hSw
            try dsimp only at hSw
            go_simp
            try with_reducible rfl
          try simp only [Act.put, List.setIfInBounds_toArray, List.set_cons_zero, List.set_cons_succ]
          refine wpAnyH_take (i := 8) (oi := { dst := some 14, op := Op.binOp BinOp.add 9 (Operand.tmp 13) (Operand.const (Value.string { data := #[44] })) 9, type := 9, pos := "l05_pose.go:63", after := #[{ on := 7, ground := Ground.data }], guard := none }) (v := ?_) rfl (by kernel_rfl) (by kernel_rfl) (by kernel_rfl) (fun _ _ _ h => h) (Or.inl ⟨by rfl, ?_⟩) (by assumption) ?_
          rotate_left
          · intro w9 hSw
            try dsimp only at hSw
            go_simp
            try with_reducible rfl
          try simp only [Act.put, List.setIfInBounds_toArray, List.set_cons_zero, List.set_cons_succ]
          refine wpAnyH_ready (rs := [13]) (by kernel_rfl) (by simp) ?_
          refine AllReadyH.cons (o := { dst := some 19, op := Op.load 9 (Operand.tmp 18), type := 9, pos := "l05_pose.go:63", after := #[{ on := 12, ground := Ground.data }], guard := none }) rfl (fun K hK => ?_) ?_
          · go_simp
            refine hK.out _ _ ?_ (fun hHeld2 => ?_)
            · try dsimp only
              go_keep
            clear hK K
            try simp only [Act.put, List.setIfInBounds_toArray, List.set_cons_zero, List.set_cons_succ]
            refine wpAnyH_take (i := 14) (oi := { dst := some 20, op := Op.binOp BinOp.add 9 (Operand.tmp 14) (Operand.tmp 19) 9, type := 9, pos := "l05_pose.go:63", after := #[{ on := 8, ground := Ground.data }, { on := 13, ground := Ground.data }], guard := none }) (v := ?_) rfl (by kernel_rfl) (by kernel_rfl) (by kernel_rfl) (fun _ _ _ h => h) (Or.inl ⟨by rfl, ?_⟩) (by assumption) ?_
            rotate_left
            · intro w9 hSw
              try dsimp only at hSw
              go_simp
              try with_reducible rfl
            try simp only [Act.put, List.setIfInBounds_toArray, List.set_cons_zero, List.set_cons_succ]
            refine wpAnyH_take (i := 15) (oi := { dst := some 2, op := Op.assign (Operand.tmp 20), type := 9, pos := "l05_pose.go:63", after := #[{ on := 14, ground := Ground.data }, { on := 6, ground := Ground.chain }, { on := 0, ground := Ground.phase }, { on := 1, ground := Ground.phase }, { on := 2, ground := Ground.phase }, { on := 3, ground := Ground.phase }, { on := 4, ground := Ground.phase }, { on := 5, ground := Ground.phase }, { on := 6, ground := Ground.phase }, { on := 7, ground := Ground.phase }, { on := 8, ground := Ground.phase }, { on := 9, ground := Ground.phase }, { on := 10, ground := Ground.phase }, { on := 11, ground := Ground.phase }, { on := 12, ground := Ground.phase }, { on := 13, ground := Ground.phase }, { on := 14, ground := Ground.phase }], guard := none }) (v := ?_) rfl (by kernel_rfl) (by kernel_rfl) (by kernel_rfl) (fun _ _ _ h => h) (Or.inl ⟨by rfl, ?_⟩) (by assumption) ?_
            rotate_left
            · intro w9 hSw
              try dsimp only at hSw
              go_simp
              try with_reducible rfl
            try simp only [Act.put, List.setIfInBounds_toArray, List.set_cons_zero, List.set_cons_succ]
            refine wpAnyH_done (by kernel_rfl) ?_ _
            refine NoPanic.normal ?_
            go_wp2
            go_ret
            first
              | exact ⟨by rw [← HE.out]; rfl, HHB2.out⟩
              | exact ⟨by rw [← HE.out]; rfl, HHB2.out.alloc HHB2.out.size _⟩
          exact AllReadyH.nil
        refine AllReadyH.cons (o := { dst := some 19, op := Op.load 9 (Operand.tmp 18), type := 9, pos := "l05_pose.go:63", after := #[{ on := 12, ground := Ground.data }], guard := none }) rfl (fun K hK => ?_) ?_
        · go_simp
          refine hK.out _ _ ?_ (fun hHeld2 => ?_)
          · try dsimp only
            go_keep
          clear hK K
          try simp only [Act.put, List.setIfInBounds_toArray, List.set_cons_zero, List.set_cons_succ]
          refine wpAnyH_ready (rs := [6]) (by kernel_rfl) (by simp) ?_
          refine AllReadyH.cons (o := { dst := some 12, op := Op.call { callee := Callee.value (Operand.func 65), args := #[Operand.tmp 11], argTypes := #[3] }, type := 9, pos := "l05_pose.go:63", after := #[{ on := 5, ground := Ground.data }, { on := 2, ground := Ground.chain }], guard := none }) rfl (fun K hK => ?_) ?_
          · go_simp
            first
              | ((go_at_call_of 65 (Value.int .i64 x)); (refine (format_any x _ (by have := HX.out; omega) (by have := HX.out; omega)).mono ?_); (rintro e u1 ⟨rfl, hb⟩); (rw [EX.out]); (first | (have KN1 := Lib.hid ((HeldL.new w1 [.string ⟨#[101]⟩, .string ⟨#[110]⟩, .string ⟨#[119]⟩, .string ⟨#[115]⟩] 9).drew.after hb)) | skip); (try have hn1 := letterAt KN1.out ht0 ht1); (try rw [HL_.out] at hn1); (have T9 : HeldL u1 w.heap.size [.int .i64 t, .int .i64 x, .int .i64 y] := by first | exact K_p_1.out.drew.after hb | exact (K_p_1.out.alloc (.cells #[.string ⟨#[101]⟩, .string ⟨#[110]⟩, .string ⟨#[119]⟩, .string ⟨#[115]⟩] 9)).drew.after hb); (have KK1 := Lib.hid T9); (clear T9); (have T9 : Below w.heap.size w u1 := by first | exact (HB_1.out.drew).trans (hb.mono (HB_1.out.drew).size) | exact ((HB_1.out.alloc HB_1.out.size (.cells #[.string ⟨#[101]⟩, .string ⟨#[110]⟩, .string ⟨#[119]⟩, .string ⟨#[115]⟩] 9)).drew).trans (hb.mono ((HB_1.out.alloc HB_1.out.size (.cells #[.string ⟨#[101]⟩, .string ⟨#[110]⟩, .string ⟨#[119]⟩, .string ⟨#[115]⟩] 9)).drew).size)); (have HHB1 := Lib.hid T9); (clear T9 hb); (have hq0_1 := KK1.out.cell 0 _ rfl); (have hq1_1 := KK1.out.cell 1 _ rfl); (have hq2_1 := KK1.out.cell 2 _ rfl))
              | ((go_at_call_of 65 (Value.int .i64 y)); (refine (format_any y _ (by have := HY.out; omega) (by have := HY.out; omega)).mono ?_); (rintro e u2 ⟨rfl, hb⟩); (rw [EY.out]); (first | (have KN2 := Lib.hid (KN1.out.after hb)) | (have KN2 := Lib.hid ((HeldL.new u1 [.string ⟨#[101]⟩, .string ⟨#[110]⟩, .string ⟨#[119]⟩, .string ⟨#[115]⟩] 9).after hb)) | skip); (try have hn2 := letterAt KN2.out ht0 ht1); (try rw [HL_.out] at hn2); (have T9 : HeldL u2 w.heap.size [.int .i64 t, .int .i64 x, .int .i64 y] := by first | exact KK1.out.after hb | exact (KK1.out.alloc (.cells #[.string ⟨#[101]⟩, .string ⟨#[110]⟩, .string ⟨#[119]⟩, .string ⟨#[115]⟩] 9)).after hb); (have KK2 := Lib.hid T9); (clear T9); (have T9 : Below w.heap.size w u2 := by first | exact (HHB1.out).trans (hb.mono (HHB1.out).size) | exact ((HHB1.out.alloc HHB1.out.size (.cells #[.string ⟨#[101]⟩, .string ⟨#[110]⟩, .string ⟨#[119]⟩, .string ⟨#[115]⟩] 9))).trans (hb.mono ((HHB1.out.alloc HHB1.out.size (.cells #[.string ⟨#[101]⟩, .string ⟨#[110]⟩, .string ⟨#[119]⟩, .string ⟨#[115]⟩] 9))).size)); (have HHB2 := Lib.hid T9); (clear T9 hb); (have hq0_2 := KK2.out.cell 0 _ rfl); (have hq1_2 := KK2.out.cell 1 _ rfl); (have hq2_2 := KK2.out.cell 2 _ rfl))
            go_wp2_with fail
            refine hK.out _ _ ?_ (fun hHeld2 => ?_)
            · try dsimp only
              go_keep
            clear hK K
            try simp only [Act.put, List.setIfInBounds_toArray, List.set_cons_zero, List.set_cons_succ]
            refine wpAnyH_take (i := 7) (oi := { dst := some 13, op := Op.binOp BinOp.add 9 (Operand.tmp 9) (Operand.tmp 12) 9, type := 9, pos := "l05_pose.go:63", after := #[{ on := 3, ground := Ground.data }, { on := 6, ground := Ground.data }], guard := none }) (v := ?_) rfl (by kernel_rfl) (by kernel_rfl) (by kernel_rfl) (fun _ _ _ h => h) (Or.inl ⟨by rfl, ?_⟩) (by assumption) ?_
            rotate_left
            · intro w9 hSw
              try dsimp only at hSw
              go_simp
              try with_reducible rfl
            try simp only [Act.put, List.setIfInBounds_toArray, List.set_cons_zero, List.set_cons_succ]
            refine wpAnyH_take (i := 8) (oi := { dst := some 14, op := Op.binOp BinOp.add 9 (Operand.tmp 13) (Operand.const (Value.string { data := #[44] })) 9, type := 9, pos := "l05_pose.go:63", after := #[{ on := 7, ground := Ground.data }], guard := none }) (v := ?_) rfl (by kernel_rfl) (by kernel_rfl) (by kernel_rfl) (fun _ _ _ h => h) (Or.inl ⟨by rfl, ?_⟩) (by assumption) ?_
            rotate_left
            · intro w9 hSw
              try dsimp only at hSw
              go_simp
              try with_reducible rfl
            try simp only [Act.put, List.setIfInBounds_toArray, List.set_cons_zero, List.set_cons_succ]
            refine wpAnyH_take (i := 14) (oi := { dst := some 20, op := Op.binOp BinOp.add 9 (Operand.tmp 14) (Operand.tmp 19) 9, type := 9, pos := "l05_pose.go:63", after := #[{ on := 8, ground := Ground.data }, { on := 13, ground := Ground.data }], guard := none }) (v := ?_) rfl (by kernel_rfl) (by kernel_rfl) (by kernel_rfl) (fun _ _ _ h => h) (Or.inl ⟨by rfl, ?_⟩) (by assumption) ?_
            rotate_left
            · intro w9 hSw
              try dsimp only at hSw
              go_simp
              try with_reducible rfl
            try simp only [Act.put, List.setIfInBounds_toArray, List.set_cons_zero, List.set_cons_succ]
            refine wpAnyH_take (i := 15) (oi := { dst := some 2, op := Op.assign (Operand.tmp 20), type := 9, pos := "l05_pose.go:63", after := #[{ on := 14, ground := Ground.data }, { on := 6, ground := Ground.chain }, { on := 0, ground := Ground.phase }, { on := 1, ground := Ground.phase }, { on := 2, ground := Ground.phase }, { on := 3, ground := Ground.phase }, { on := 4, ground := Ground.phase }, { on := 5, ground := Ground.phase }, { on := 6, ground := Ground.phase }, { on := 7, ground := Ground.phase }, { on := 8, ground := Ground.phase }, { on := 9, ground := Ground.phase }, { on := 10, ground := Ground.phase }, { on := 11, ground := Ground.phase }, { on := 12, ground := Ground.phase }, { on := 13, ground := Ground.phase }, { on := 14, ground := Ground.phase }], guard := none }) (v := ?_) rfl (by kernel_rfl) (by kernel_rfl) (by kernel_rfl) (fun _ _ _ h => h) (Or.inl ⟨by rfl, ?_⟩) (by assumption) ?_
            rotate_left
            · intro w9 hSw
              try dsimp only at hSw
              go_simp
              try with_reducible rfl
            try simp only [Act.put, List.setIfInBounds_toArray, List.set_cons_zero, List.set_cons_succ]
            refine wpAnyH_done (by kernel_rfl) ?_ _
            refine NoPanic.normal ?_
            go_wp2
            go_ret
            first
              | exact ⟨by rw [← HE.out]; rfl, HHB2.out⟩
              | exact ⟨by rw [← HE.out]; rfl, HHB2.out.alloc HHB2.out.size _⟩
          exact AllReadyH.nil
        exact AllReadyH.nil
      exact AllReadyH.nil
    refine AllReadyH.cons (o := { dst := some 15, op := Op.buildSlice 64 4 #[(0, Operand.const (Value.string { data := #[101] })), (1, Operand.const (Value.string { data := #[110] })), (2, Operand.const (Value.string { data := #[119] })), (3, Operand.const (Value.string { data := #[115] }))], type := 64, pos := "l05_pose.go:63", after := #[], guard := none }) rfl (fun K hK => ?_) ?_
    · go_simp
      refine hK.out _ _ ?_ (fun hHeld2 => ?_)
      · try dsimp only
        go_keep
      clear hK K
      try simp only [Act.put, List.setIfInBounds_toArray, List.set_cons_zero, List.set_cons_succ]
      refine wpAnyH_take (i := 12) (oi := { dst := some 18, op := Op.indexAddr 64 (Operand.tmp 15) (Operand.tmp 17), type := 0, pos := "l05_pose.go:63", after := #[{ on := 9, ground := Ground.data }, { on := 11, ground := Ground.data }], guard := none }) (v := ?_) rfl (by kernel_rfl) (by kernel_rfl) (by kernel_rfl) (fun _ _ _ h => h) (Or.inl ⟨by rfl, ?_⟩) (by assumption) ?_
      rotate_left
      · intro w9 hSw
        try dsimp only at hSw
        go_simp
        try with_reducible rfl
      try simp only [Act.put, List.setIfInBounds_toArray, List.set_cons_zero, List.set_cons_succ]
      refine wpAnyH_ready (rs := [2, 13]) (by kernel_rfl) (by simp) ?_
      refine AllReadyH.cons (o := { dst := some 8, op := Op.call { callee := Callee.value (Operand.func 65), args := #[Operand.tmp 7], argTypes := #[3] }, type := 9, pos := "l05_pose.go:63", after := #[{ on := 1, ground := Ground.data }], guard := none }) rfl (fun K hK => ?_) ?_
      · go_simp
        first
          | ((go_at_call_of 65 (Value.int .i64 x)); (refine (format_any x _ (by have := HX.out; omega) (by have := HX.out; omega)).mono ?_); (rintro e u1 ⟨rfl, hb⟩); (rw [EX.out]); (first | (have KN1 := Lib.hid ((HeldL.new w1 [.string ⟨#[101]⟩, .string ⟨#[110]⟩, .string ⟨#[119]⟩, .string ⟨#[115]⟩] 9).drew.after hb)) | skip); (try have hn1 := letterAt KN1.out ht0 ht1); (try rw [HL_.out] at hn1); (have T9 : HeldL u1 w.heap.size [.int .i64 t, .int .i64 x, .int .i64 y] := by first | exact K_p_1.out.drew.after hb | exact (K_p_1.out.alloc (.cells #[.string ⟨#[101]⟩, .string ⟨#[110]⟩, .string ⟨#[119]⟩, .string ⟨#[115]⟩] 9)).drew.after hb); (have KK1 := Lib.hid T9); (clear T9); (have T9 : Below w.heap.size w u1 := by first | exact (HB_1.out.drew).trans (hb.mono (HB_1.out.drew).size) | exact ((HB_1.out.alloc HB_1.out.size (.cells #[.string ⟨#[101]⟩, .string ⟨#[110]⟩, .string ⟨#[119]⟩, .string ⟨#[115]⟩] 9)).drew).trans (hb.mono ((HB_1.out.alloc HB_1.out.size (.cells #[.string ⟨#[101]⟩, .string ⟨#[110]⟩, .string ⟨#[119]⟩, .string ⟨#[115]⟩] 9)).drew).size)); (have HHB1 := Lib.hid T9); (clear T9 hb); (have hq0_1 := KK1.out.cell 0 _ rfl); (have hq1_1 := KK1.out.cell 1 _ rfl); (have hq2_1 := KK1.out.cell 2 _ rfl))
          | ((go_at_call_of 65 (Value.int .i64 y)); (refine (format_any y _ (by have := HY.out; omega) (by have := HY.out; omega)).mono ?_); (rintro e u2 ⟨rfl, hb⟩); (rw [EY.out]); (first | (have KN2 := Lib.hid (KN1.out.after hb)) | (have KN2 := Lib.hid ((HeldL.new u1 [.string ⟨#[101]⟩, .string ⟨#[110]⟩, .string ⟨#[119]⟩, .string ⟨#[115]⟩] 9).after hb)) | skip); (try have hn2 := letterAt KN2.out ht0 ht1); (try rw [HL_.out] at hn2); (have T9 : HeldL u2 w.heap.size [.int .i64 t, .int .i64 x, .int .i64 y] := by first | exact KK1.out.after hb | exact (KK1.out.alloc (.cells #[.string ⟨#[101]⟩, .string ⟨#[110]⟩, .string ⟨#[119]⟩, .string ⟨#[115]⟩] 9)).after hb); (have KK2 := Lib.hid T9); (clear T9); (have T9 : Below w.heap.size w u2 := by first | exact (HHB1.out).trans (hb.mono (HHB1.out).size) | exact ((HHB1.out.alloc HHB1.out.size (.cells #[.string ⟨#[101]⟩, .string ⟨#[110]⟩, .string ⟨#[119]⟩, .string ⟨#[115]⟩] 9))).trans (hb.mono ((HHB1.out.alloc HHB1.out.size (.cells #[.string ⟨#[101]⟩, .string ⟨#[110]⟩, .string ⟨#[119]⟩, .string ⟨#[115]⟩] 9))).size)); (have HHB2 := Lib.hid T9); (clear T9 hb); (have hq0_2 := KK2.out.cell 0 _ rfl); (have hq1_2 := KK2.out.cell 1 _ rfl); (have hq2_2 := KK2.out.cell 2 _ rfl))
        go_wp2_with fail
        refine hK.out _ _ ?_ (fun hHeld2 => ?_)
        · try dsimp only
          go_keep
        clear hK K
        try simp only [Act.put, List.setIfInBounds_toArray, List.set_cons_zero, List.set_cons_succ]
        refine wpAnyH_take (i := 3) (oi := { dst := some 9, op := Op.binOp BinOp.add 9 (Operand.tmp 8) (Operand.const (Value.string { data := #[44] })) 9, type := 9, pos := "l05_pose.go:63", after := #[{ on := 2, ground := Ground.data }], guard := none }) (v := ?_) rfl (by kernel_rfl) (by kernel_rfl) (by kernel_rfl) (fun _ _ _ h => h) (Or.inl ⟨by rfl, ?_⟩) (by assumption) ?_
        rotate_left
        · intro w9 hSw
          try dsimp only at hSw
          go_simp
          try with_reducible rfl
        try simp only [Act.put, List.setIfInBounds_toArray, List.set_cons_zero, List.set_cons_succ]
        refine wpAnyH_ready (rs := [6, 13]) (by kernel_rfl) (by simp) ?_
        refine AllReadyH.cons (o := { dst := some 12, op := Op.call { callee := Callee.value (Operand.func 65), args := #[Operand.tmp 11], argTypes := #[3] }, type := 9, pos := "l05_pose.go:63", after := #[{ on := 5, ground := Ground.data }, { on := 2, ground := Ground.chain }], guard := none }) rfl (fun K hK => ?_) ?_
        · go_simp
          first
            | ((go_at_call_of 65 (Value.int .i64 x)); (refine (format_any x _ (by have := HX.out; omega) (by have := HX.out; omega)).mono ?_); (rintro e u1 ⟨rfl, hb⟩); (rw [EX.out]); (first | (have KN1 := Lib.hid ((HeldL.new w1 [.string ⟨#[101]⟩, .string ⟨#[110]⟩, .string ⟨#[119]⟩, .string ⟨#[115]⟩] 9).drew.after hb)) | skip); (try have hn1 := letterAt KN1.out ht0 ht1); (try rw [HL_.out] at hn1); (have T9 : HeldL u1 w.heap.size [.int .i64 t, .int .i64 x, .int .i64 y] := by first | exact K_p_1.out.drew.after hb | exact (K_p_1.out.alloc (.cells #[.string ⟨#[101]⟩, .string ⟨#[110]⟩, .string ⟨#[119]⟩, .string ⟨#[115]⟩] 9)).drew.after hb); (have KK1 := Lib.hid T9); (clear T9); (have T9 : Below w.heap.size w u1 := by first | exact (HB_1.out.drew).trans (hb.mono (HB_1.out.drew).size) | exact ((HB_1.out.alloc HB_1.out.size (.cells #[.string ⟨#[101]⟩, .string ⟨#[110]⟩, .string ⟨#[119]⟩, .string ⟨#[115]⟩] 9)).drew).trans (hb.mono ((HB_1.out.alloc HB_1.out.size (.cells #[.string ⟨#[101]⟩, .string ⟨#[110]⟩, .string ⟨#[119]⟩, .string ⟨#[115]⟩] 9)).drew).size)); (have HHB1 := Lib.hid T9); (clear T9 hb); (have hq0_1 := KK1.out.cell 0 _ rfl); (have hq1_1 := KK1.out.cell 1 _ rfl); (have hq2_1 := KK1.out.cell 2 _ rfl))
            | ((go_at_call_of 65 (Value.int .i64 y)); (refine (format_any y _ (by have := HY.out; omega) (by have := HY.out; omega)).mono ?_); (rintro e u2 ⟨rfl, hb⟩); (rw [EY.out]); (first | (have KN2 := Lib.hid (KN1.out.after hb)) | (have KN2 := Lib.hid ((HeldL.new u1 [.string ⟨#[101]⟩, .string ⟨#[110]⟩, .string ⟨#[119]⟩, .string ⟨#[115]⟩] 9).after hb)) | skip); (try have hn2 := letterAt KN2.out ht0 ht1); (try rw [HL_.out] at hn2); (have T9 : HeldL u2 w.heap.size [.int .i64 t, .int .i64 x, .int .i64 y] := by first | exact KK1.out.after hb | exact (KK1.out.alloc (.cells #[.string ⟨#[101]⟩, .string ⟨#[110]⟩, .string ⟨#[119]⟩, .string ⟨#[115]⟩] 9)).after hb); (have KK2 := Lib.hid T9); (clear T9); (have T9 : Below w.heap.size w u2 := by first | exact (HHB1.out).trans (hb.mono (HHB1.out).size) | exact ((HHB1.out.alloc HHB1.out.size (.cells #[.string ⟨#[101]⟩, .string ⟨#[110]⟩, .string ⟨#[119]⟩, .string ⟨#[115]⟩] 9))).trans (hb.mono ((HHB1.out.alloc HHB1.out.size (.cells #[.string ⟨#[101]⟩, .string ⟨#[110]⟩, .string ⟨#[119]⟩, .string ⟨#[115]⟩] 9))).size)); (have HHB2 := Lib.hid T9); (clear T9 hb); (have hq0_2 := KK2.out.cell 0 _ rfl); (have hq1_2 := KK2.out.cell 1 _ rfl); (have hq2_2 := KK2.out.cell 2 _ rfl))
          go_wp2_with fail
          refine hK.out _ _ ?_ (fun hHeld2 => ?_)
          · try dsimp only
            go_keep
          clear hK K
          try simp only [Act.put, List.setIfInBounds_toArray, List.set_cons_zero, List.set_cons_succ]
          refine wpAnyH_take (i := 7) (oi := { dst := some 13, op := Op.binOp BinOp.add 9 (Operand.tmp 9) (Operand.tmp 12) 9, type := 9, pos := "l05_pose.go:63", after := #[{ on := 3, ground := Ground.data }, { on := 6, ground := Ground.data }], guard := none }) (v := ?_) rfl (by kernel_rfl) (by kernel_rfl) (by kernel_rfl) (fun _ _ _ h => h) (Or.inl ⟨by rfl, ?_⟩) (by assumption) ?_
          rotate_left
          · intro w9 hSw
            try dsimp only at hSw
            go_simp
            try with_reducible rfl
          try simp only [Act.put, List.setIfInBounds_toArray, List.set_cons_zero, List.set_cons_succ]
          refine wpAnyH_take (i := 8) (oi := { dst := some 14, op := Op.binOp BinOp.add 9 (Operand.tmp 13) (Operand.const (Value.string { data := #[44] })) 9, type := 9, pos := "l05_pose.go:63", after := #[{ on := 7, ground := Ground.data }], guard := none }) (v := ?_) rfl (by kernel_rfl) (by kernel_rfl) (by kernel_rfl) (fun _ _ _ h => h) (Or.inl ⟨by rfl, ?_⟩) (by assumption) ?_
          rotate_left
          · intro w9 hSw
            try dsimp only at hSw
            go_simp
            try with_reducible rfl
          try simp only [Act.put, List.setIfInBounds_toArray, List.set_cons_zero, List.set_cons_succ]
          refine wpAnyH_ready (rs := [13]) (by kernel_rfl) (by simp) ?_
          refine AllReadyH.cons (o := { dst := some 19, op := Op.load 9 (Operand.tmp 18), type := 9, pos := "l05_pose.go:63", after := #[{ on := 12, ground := Ground.data }], guard := none }) rfl (fun K hK => ?_) ?_
          · go_simp
            refine hK.out _ _ ?_ (fun hHeld2 => ?_)
            · try dsimp only
              go_keep
            clear hK K
            try simp only [Act.put, List.setIfInBounds_toArray, List.set_cons_zero, List.set_cons_succ]
            refine wpAnyH_take (i := 14) (oi := { dst := some 20, op := Op.binOp BinOp.add 9 (Operand.tmp 14) (Operand.tmp 19) 9, type := 9, pos := "l05_pose.go:63", after := #[{ on := 8, ground := Ground.data }, { on := 13, ground := Ground.data }], guard := none }) (v := ?_) rfl (by kernel_rfl) (by kernel_rfl) (by kernel_rfl) (fun _ _ _ h => h) (Or.inl ⟨by rfl, ?_⟩) (by assumption) ?_
            rotate_left
            · intro w9 hSw
              try dsimp only at hSw
              go_simp
              try with_reducible rfl
            try simp only [Act.put, List.setIfInBounds_toArray, List.set_cons_zero, List.set_cons_succ]
            refine wpAnyH_take (i := 15) (oi := { dst := some 2, op := Op.assign (Operand.tmp 20), type := 9, pos := "l05_pose.go:63", after := #[{ on := 14, ground := Ground.data }, { on := 6, ground := Ground.chain }, { on := 0, ground := Ground.phase }, { on := 1, ground := Ground.phase }, { on := 2, ground := Ground.phase }, { on := 3, ground := Ground.phase }, { on := 4, ground := Ground.phase }, { on := 5, ground := Ground.phase }, { on := 6, ground := Ground.phase }, { on := 7, ground := Ground.phase }, { on := 8, ground := Ground.phase }, { on := 9, ground := Ground.phase }, { on := 10, ground := Ground.phase }, { on := 11, ground := Ground.phase }, { on := 12, ground := Ground.phase }, { on := 13, ground := Ground.phase }, { on := 14, ground := Ground.phase }], guard := none }) (v := ?_) rfl (by kernel_rfl) (by kernel_rfl) (by kernel_rfl) (fun _ _ _ h => h) (Or.inl ⟨by rfl, ?_⟩) (by assumption) ?_
            rotate_left
            · intro w9 hSw
              try dsimp only at hSw
              go_simp
              try with_reducible rfl
            try simp only [Act.put, List.setIfInBounds_toArray, List.set_cons_zero, List.set_cons_succ]
            refine wpAnyH_done (by kernel_rfl) ?_ _
            refine NoPanic.normal ?_
            go_wp2
            go_ret
            first
              | exact ⟨by rw [← HE.out]; rfl, HHB2.out⟩
              | exact ⟨by rw [← HE.out]; rfl, HHB2.out.alloc HHB2.out.size _⟩
          exact AllReadyH.nil
        refine AllReadyH.cons (o := { dst := some 19, op := Op.load 9 (Operand.tmp 18), type := 9, pos := "l05_pose.go:63", after := #[{ on := 12, ground := Ground.data }], guard := none }) rfl (fun K hK => ?_) ?_
        · go_simp
          refine hK.out _ _ ?_ (fun hHeld2 => ?_)
          · try dsimp only
            go_keep
          clear hK K
          try simp only [Act.put, List.setIfInBounds_toArray, List.set_cons_zero, List.set_cons_succ]
          refine wpAnyH_ready (rs := [6]) (by kernel_rfl) (by simp) ?_
          refine AllReadyH.cons (o := { dst := some 12, op := Op.call { callee := Callee.value (Operand.func 65), args := #[Operand.tmp 11], argTypes := #[3] }, type := 9, pos := "l05_pose.go:63", after := #[{ on := 5, ground := Ground.data }, { on := 2, ground := Ground.chain }], guard := none }) rfl (fun K hK => ?_) ?_
          · go_simp
            first
              | ((go_at_call_of 65 (Value.int .i64 x)); (refine (format_any x _ (by have := HX.out; omega) (by have := HX.out; omega)).mono ?_); (rintro e u1 ⟨rfl, hb⟩); (rw [EX.out]); (first | (have KN1 := Lib.hid ((HeldL.new w1 [.string ⟨#[101]⟩, .string ⟨#[110]⟩, .string ⟨#[119]⟩, .string ⟨#[115]⟩] 9).drew.after hb)) | skip); (try have hn1 := letterAt KN1.out ht0 ht1); (try rw [HL_.out] at hn1); (have T9 : HeldL u1 w.heap.size [.int .i64 t, .int .i64 x, .int .i64 y] := by first | exact K_p_1.out.drew.after hb | exact (K_p_1.out.alloc (.cells #[.string ⟨#[101]⟩, .string ⟨#[110]⟩, .string ⟨#[119]⟩, .string ⟨#[115]⟩] 9)).drew.after hb); (have KK1 := Lib.hid T9); (clear T9); (have T9 : Below w.heap.size w u1 := by first | exact (HB_1.out.drew).trans (hb.mono (HB_1.out.drew).size) | exact ((HB_1.out.alloc HB_1.out.size (.cells #[.string ⟨#[101]⟩, .string ⟨#[110]⟩, .string ⟨#[119]⟩, .string ⟨#[115]⟩] 9)).drew).trans (hb.mono ((HB_1.out.alloc HB_1.out.size (.cells #[.string ⟨#[101]⟩, .string ⟨#[110]⟩, .string ⟨#[119]⟩, .string ⟨#[115]⟩] 9)).drew).size)); (have HHB1 := Lib.hid T9); (clear T9 hb); (have hq0_1 := KK1.out.cell 0 _ rfl); (have hq1_1 := KK1.out.cell 1 _ rfl); (have hq2_1 := KK1.out.cell 2 _ rfl))
              | ((go_at_call_of 65 (Value.int .i64 y)); (refine (format_any y _ (by have := HY.out; omega) (by have := HY.out; omega)).mono ?_); (rintro e u2 ⟨rfl, hb⟩); (rw [EY.out]); (first | (have KN2 := Lib.hid (KN1.out.after hb)) | (have KN2 := Lib.hid ((HeldL.new u1 [.string ⟨#[101]⟩, .string ⟨#[110]⟩, .string ⟨#[119]⟩, .string ⟨#[115]⟩] 9).after hb)) | skip); (try have hn2 := letterAt KN2.out ht0 ht1); (try rw [HL_.out] at hn2); (have T9 : HeldL u2 w.heap.size [.int .i64 t, .int .i64 x, .int .i64 y] := by first | exact KK1.out.after hb | exact (KK1.out.alloc (.cells #[.string ⟨#[101]⟩, .string ⟨#[110]⟩, .string ⟨#[119]⟩, .string ⟨#[115]⟩] 9)).after hb); (have KK2 := Lib.hid T9); (clear T9); (have T9 : Below w.heap.size w u2 := by first | exact (HHB1.out).trans (hb.mono (HHB1.out).size) | exact ((HHB1.out.alloc HHB1.out.size (.cells #[.string ⟨#[101]⟩, .string ⟨#[110]⟩, .string ⟨#[119]⟩, .string ⟨#[115]⟩] 9))).trans (hb.mono ((HHB1.out.alloc HHB1.out.size (.cells #[.string ⟨#[101]⟩, .string ⟨#[110]⟩, .string ⟨#[119]⟩, .string ⟨#[115]⟩] 9))).size)); (have HHB2 := Lib.hid T9); (clear T9 hb); (have hq0_2 := KK2.out.cell 0 _ rfl); (have hq1_2 := KK2.out.cell 1 _ rfl); (have hq2_2 := KK2.out.cell 2 _ rfl))
            go_wp2_with fail
            refine hK.out _ _ ?_ (fun hHeld2 => ?_)
            · try dsimp only
              go_keep
            clear hK K
            try simp only [Act.put, List.setIfInBounds_toArray, List.set_cons_zero, List.set_cons_succ]
            refine wpAnyH_take (i := 7) (oi := { dst := some 13, op := Op.binOp BinOp.add 9 (Operand.tmp 9) (Operand.tmp 12) 9, type := 9, pos := "l05_pose.go:63", after := #[{ on := 3, ground := Ground.data }, { on := 6, ground := Ground.data }], guard := none }) (v := ?_) rfl (by kernel_rfl) (by kernel_rfl) (by kernel_rfl) (fun _ _ _ h => h) (Or.inl ⟨by rfl, ?_⟩) (by assumption) ?_
            rotate_left
            · intro w9 hSw
              try dsimp only at hSw
              go_simp
              try with_reducible rfl
            try simp only [Act.put, List.setIfInBounds_toArray, List.set_cons_zero, List.set_cons_succ]
            refine wpAnyH_take (i := 8) (oi := { dst := some 14, op := Op.binOp BinOp.add 9 (Operand.tmp 13) (Operand.const (Value.string { data := #[44] })) 9, type := 9, pos := "l05_pose.go:63", after := #[{ on := 7, ground := Ground.data }], guard := none }) (v := ?_) rfl (by kernel_rfl) (by kernel_rfl) (by kernel_rfl) (fun _ _ _ h => h) (Or.inl ⟨by rfl, ?_⟩) (by assumption) ?_
            rotate_left
            · intro w9 hSw
              try dsimp only at hSw
              go_simp
              try with_reducible rfl
            try simp only [Act.put, List.setIfInBounds_toArray, List.set_cons_zero, List.set_cons_succ]
            refine wpAnyH_take (i := 14) (oi := { dst := some 20, op := Op.binOp BinOp.add 9 (Operand.tmp 14) (Operand.tmp 19) 9, type := 9, pos := "l05_pose.go:63", after := #[{ on := 8, ground := Ground.data }, { on := 13, ground := Ground.data }], guard := none }) (v := ?_) rfl (by kernel_rfl) (by kernel_rfl) (by kernel_rfl) (fun _ _ _ h => h) (Or.inl ⟨by rfl, ?_⟩) (by assumption) ?_
            rotate_left
            · intro w9 hSw
              try dsimp only at hSw
              go_simp
              try with_reducible rfl
            try simp only [Act.put, List.setIfInBounds_toArray, List.set_cons_zero, List.set_cons_succ]
            refine wpAnyH_take (i := 15) (oi := { dst := some 2, op := Op.assign (Operand.tmp 20), type := 9, pos := "l05_pose.go:63", after := #[{ on := 14, ground := Ground.data }, { on := 6, ground := Ground.chain }, { on := 0, ground := Ground.phase }, { on := 1, ground := Ground.phase }, { on := 2, ground := Ground.phase }, { on := 3, ground := Ground.phase }, { on := 4, ground := Ground.phase }, { on := 5, ground := Ground.phase }, { on := 6, ground := Ground.phase }, { on := 7, ground := Ground.phase }, { on := 8, ground := Ground.phase }, { on := 9, ground := Ground.phase }, { on := 10, ground := Ground.phase }, { on := 11, ground := Ground.phase }, { on := 12, ground := Ground.phase }, { on := 13, ground := Ground.phase }, { on := 14, ground := Ground.phase }], guard := none }) (v := ?_) rfl (by kernel_rfl) (by kernel_rfl) (by kernel_rfl) (fun _ _ _ h => h) (Or.inl ⟨by rfl, ?_⟩) (by assumption) ?_
            rotate_left
            · intro w9 hSw
              try dsimp only at hSw
              go_simp
              try with_reducible rfl
            try simp only [Act.put, List.setIfInBounds_toArray, List.set_cons_zero, List.set_cons_succ]
            refine wpAnyH_done (by kernel_rfl) ?_ _
            refine NoPanic.normal ?_
            go_wp2
            go_ret
            first
              | exact ⟨by rw [← HE.out]; rfl, HHB2.out⟩
              | exact ⟨by rw [← HE.out]; rfl, HHB2.out.alloc HHB2.out.size _⟩
          exact AllReadyH.nil
        exact AllReadyH.nil
      refine AllReadyH.cons (o := { dst := some 19, op := Op.load 9 (Operand.tmp 18), type := 9, pos := "l05_pose.go:63", after := #[{ on := 12, ground := Ground.data }], guard := none }) rfl (fun K hK => ?_) ?_
      · go_simp
        refine hK.out _ _ ?_ (fun hHeld2 => ?_)
        · try dsimp only
          go_keep
        clear hK K
        try simp only [Act.put, List.setIfInBounds_toArray, List.set_cons_zero, List.set_cons_succ]
        refine wpAnyH_ready (rs := [2]) (by kernel_rfl) (by simp) ?_
        refine AllReadyH.cons (o := { dst := some 8, op := Op.call { callee := Callee.value (Operand.func 65), args := #[Operand.tmp 7], argTypes := #[3] }, type := 9, pos := "l05_pose.go:63", after := #[{ on := 1, ground := Ground.data }], guard := none }) rfl (fun K hK => ?_) ?_
        · go_simp
          first
            | ((go_at_call_of 65 (Value.int .i64 x)); (refine (format_any x _ (by have := HX.out; omega) (by have := HX.out; omega)).mono ?_); (rintro e u1 ⟨rfl, hb⟩); (rw [EX.out]); (first | (have KN1 := Lib.hid ((HeldL.new w1 [.string ⟨#[101]⟩, .string ⟨#[110]⟩, .string ⟨#[119]⟩, .string ⟨#[115]⟩] 9).drew.after hb)) | skip); (try have hn1 := letterAt KN1.out ht0 ht1); (try rw [HL_.out] at hn1); (have T9 : HeldL u1 w.heap.size [.int .i64 t, .int .i64 x, .int .i64 y] := by first | exact K_p_1.out.drew.after hb | exact (K_p_1.out.alloc (.cells #[.string ⟨#[101]⟩, .string ⟨#[110]⟩, .string ⟨#[119]⟩, .string ⟨#[115]⟩] 9)).drew.after hb); (have KK1 := Lib.hid T9); (clear T9); (have T9 : Below w.heap.size w u1 := by first | exact (HB_1.out.drew).trans (hb.mono (HB_1.out.drew).size) | exact ((HB_1.out.alloc HB_1.out.size (.cells #[.string ⟨#[101]⟩, .string ⟨#[110]⟩, .string ⟨#[119]⟩, .string ⟨#[115]⟩] 9)).drew).trans (hb.mono ((HB_1.out.alloc HB_1.out.size (.cells #[.string ⟨#[101]⟩, .string ⟨#[110]⟩, .string ⟨#[119]⟩, .string ⟨#[115]⟩] 9)).drew).size)); (have HHB1 := Lib.hid T9); (clear T9 hb); (have hq0_1 := KK1.out.cell 0 _ rfl); (have hq1_1 := KK1.out.cell 1 _ rfl); (have hq2_1 := KK1.out.cell 2 _ rfl))
            | ((go_at_call_of 65 (Value.int .i64 y)); (refine (format_any y _ (by have := HY.out; omega) (by have := HY.out; omega)).mono ?_); (rintro e u2 ⟨rfl, hb⟩); (rw [EY.out]); (first | (have KN2 := Lib.hid (KN1.out.after hb)) | (have KN2 := Lib.hid ((HeldL.new u1 [.string ⟨#[101]⟩, .string ⟨#[110]⟩, .string ⟨#[119]⟩, .string ⟨#[115]⟩] 9).after hb)) | skip); (try have hn2 := letterAt KN2.out ht0 ht1); (try rw [HL_.out] at hn2); (have T9 : HeldL u2 w.heap.size [.int .i64 t, .int .i64 x, .int .i64 y] := by first | exact KK1.out.after hb | exact (KK1.out.alloc (.cells #[.string ⟨#[101]⟩, .string ⟨#[110]⟩, .string ⟨#[119]⟩, .string ⟨#[115]⟩] 9)).after hb); (have KK2 := Lib.hid T9); (clear T9); (have T9 : Below w.heap.size w u2 := by first | exact (HHB1.out).trans (hb.mono (HHB1.out).size) | exact ((HHB1.out.alloc HHB1.out.size (.cells #[.string ⟨#[101]⟩, .string ⟨#[110]⟩, .string ⟨#[119]⟩, .string ⟨#[115]⟩] 9))).trans (hb.mono ((HHB1.out.alloc HHB1.out.size (.cells #[.string ⟨#[101]⟩, .string ⟨#[110]⟩, .string ⟨#[119]⟩, .string ⟨#[115]⟩] 9))).size)); (have HHB2 := Lib.hid T9); (clear T9 hb); (have hq0_2 := KK2.out.cell 0 _ rfl); (have hq1_2 := KK2.out.cell 1 _ rfl); (have hq2_2 := KK2.out.cell 2 _ rfl))
          go_wp2_with fail
          refine hK.out _ _ ?_ (fun hHeld2 => ?_)
          · try dsimp only
            go_keep
          clear hK K
          try simp only [Act.put, List.setIfInBounds_toArray, List.set_cons_zero, List.set_cons_succ]
          refine wpAnyH_take (i := 3) (oi := { dst := some 9, op := Op.binOp BinOp.add 9 (Operand.tmp 8) (Operand.const (Value.string { data := #[44] })) 9, type := 9, pos := "l05_pose.go:63", after := #[{ on := 2, ground := Ground.data }], guard := none }) (v := ?_) rfl (by kernel_rfl) (by kernel_rfl) (by kernel_rfl) (fun _ _ _ h => h) (Or.inl ⟨by rfl, ?_⟩) (by assumption) ?_
          rotate_left
          · intro w9 hSw
            try dsimp only at hSw
            go_simp
            try with_reducible rfl
          try simp only [Act.put, List.setIfInBounds_toArray, List.set_cons_zero, List.set_cons_succ]
          refine wpAnyH_ready (rs := [6]) (by kernel_rfl) (by simp) ?_
          refine AllReadyH.cons (o := { dst := some 12, op := Op.call { callee := Callee.value (Operand.func 65), args := #[Operand.tmp 11], argTypes := #[3] }, type := 9, pos := "l05_pose.go:63", after := #[{ on := 5, ground := Ground.data }, { on := 2, ground := Ground.chain }], guard := none }) rfl (fun K hK => ?_) ?_
          · go_simp
            first
              | ((go_at_call_of 65 (Value.int .i64 x)); (refine (format_any x _ (by have := HX.out; omega) (by have := HX.out; omega)).mono ?_); (rintro e u1 ⟨rfl, hb⟩); (rw [EX.out]); (first | (have KN1 := Lib.hid ((HeldL.new w1 [.string ⟨#[101]⟩, .string ⟨#[110]⟩, .string ⟨#[119]⟩, .string ⟨#[115]⟩] 9).drew.after hb)) | skip); (try have hn1 := letterAt KN1.out ht0 ht1); (try rw [HL_.out] at hn1); (have T9 : HeldL u1 w.heap.size [.int .i64 t, .int .i64 x, .int .i64 y] := by first | exact K_p_1.out.drew.after hb | exact (K_p_1.out.alloc (.cells #[.string ⟨#[101]⟩, .string ⟨#[110]⟩, .string ⟨#[119]⟩, .string ⟨#[115]⟩] 9)).drew.after hb); (have KK1 := Lib.hid T9); (clear T9); (have T9 : Below w.heap.size w u1 := by first | exact (HB_1.out.drew).trans (hb.mono (HB_1.out.drew).size) | exact ((HB_1.out.alloc HB_1.out.size (.cells #[.string ⟨#[101]⟩, .string ⟨#[110]⟩, .string ⟨#[119]⟩, .string ⟨#[115]⟩] 9)).drew).trans (hb.mono ((HB_1.out.alloc HB_1.out.size (.cells #[.string ⟨#[101]⟩, .string ⟨#[110]⟩, .string ⟨#[119]⟩, .string ⟨#[115]⟩] 9)).drew).size)); (have HHB1 := Lib.hid T9); (clear T9 hb); (have hq0_1 := KK1.out.cell 0 _ rfl); (have hq1_1 := KK1.out.cell 1 _ rfl); (have hq2_1 := KK1.out.cell 2 _ rfl))
              | ((go_at_call_of 65 (Value.int .i64 y)); (refine (format_any y _ (by have := HY.out; omega) (by have := HY.out; omega)).mono ?_); (rintro e u2 ⟨rfl, hb⟩); (rw [EY.out]); (first | (have KN2 := Lib.hid (KN1.out.after hb)) | (have KN2 := Lib.hid ((HeldL.new u1 [.string ⟨#[101]⟩, .string ⟨#[110]⟩, .string ⟨#[119]⟩, .string ⟨#[115]⟩] 9).after hb)) | skip); (try have hn2 := letterAt KN2.out ht0 ht1); (try rw [HL_.out] at hn2); (have T9 : HeldL u2 w.heap.size [.int .i64 t, .int .i64 x, .int .i64 y] := by first | exact KK1.out.after hb | exact (KK1.out.alloc (.cells #[.string ⟨#[101]⟩, .string ⟨#[110]⟩, .string ⟨#[119]⟩, .string ⟨#[115]⟩] 9)).after hb); (have KK2 := Lib.hid T9); (clear T9); (have T9 : Below w.heap.size w u2 := by first | exact (HHB1.out).trans (hb.mono (HHB1.out).size) | exact ((HHB1.out.alloc HHB1.out.size (.cells #[.string ⟨#[101]⟩, .string ⟨#[110]⟩, .string ⟨#[119]⟩, .string ⟨#[115]⟩] 9))).trans (hb.mono ((HHB1.out.alloc HHB1.out.size (.cells #[.string ⟨#[101]⟩, .string ⟨#[110]⟩, .string ⟨#[119]⟩, .string ⟨#[115]⟩] 9))).size)); (have HHB2 := Lib.hid T9); (clear T9 hb); (have hq0_2 := KK2.out.cell 0 _ rfl); (have hq1_2 := KK2.out.cell 1 _ rfl); (have hq2_2 := KK2.out.cell 2 _ rfl))
            go_wp2_with fail
            refine hK.out _ _ ?_ (fun hHeld2 => ?_)
            · try dsimp only
              go_keep
            clear hK K
            try simp only [Act.put, List.setIfInBounds_toArray, List.set_cons_zero, List.set_cons_succ]
            refine wpAnyH_take (i := 7) (oi := { dst := some 13, op := Op.binOp BinOp.add 9 (Operand.tmp 9) (Operand.tmp 12) 9, type := 9, pos := "l05_pose.go:63", after := #[{ on := 3, ground := Ground.data }, { on := 6, ground := Ground.data }], guard := none }) (v := ?_) rfl (by kernel_rfl) (by kernel_rfl) (by kernel_rfl) (fun _ _ _ h => h) (Or.inl ⟨by rfl, ?_⟩) (by assumption) ?_
            rotate_left
            · intro w9 hSw
              try dsimp only at hSw
              go_simp
              try with_reducible rfl
            try simp only [Act.put, List.setIfInBounds_toArray, List.set_cons_zero, List.set_cons_succ]
            refine wpAnyH_take (i := 8) (oi := { dst := some 14, op := Op.binOp BinOp.add 9 (Operand.tmp 13) (Operand.const (Value.string { data := #[44] })) 9, type := 9, pos := "l05_pose.go:63", after := #[{ on := 7, ground := Ground.data }], guard := none }) (v := ?_) rfl (by kernel_rfl) (by kernel_rfl) (by kernel_rfl) (fun _ _ _ h => h) (Or.inl ⟨by rfl, ?_⟩) (by assumption) ?_
            rotate_left
            · intro w9 hSw
              try dsimp only at hSw
              go_simp
              try with_reducible rfl
            try simp only [Act.put, List.setIfInBounds_toArray, List.set_cons_zero, List.set_cons_succ]
            refine wpAnyH_take (i := 14) (oi := { dst := some 20, op := Op.binOp BinOp.add 9 (Operand.tmp 14) (Operand.tmp 19) 9, type := 9, pos := "l05_pose.go:63", after := #[{ on := 8, ground := Ground.data }, { on := 13, ground := Ground.data }], guard := none }) (v := ?_) rfl (by kernel_rfl) (by kernel_rfl) (by kernel_rfl) (fun _ _ _ h => h) (Or.inl ⟨by rfl, ?_⟩) (by assumption) ?_
            rotate_left
            · intro w9 hSw
              try dsimp only at hSw
              go_simp
              try with_reducible rfl
            try simp only [Act.put, List.setIfInBounds_toArray, List.set_cons_zero, List.set_cons_succ]
            refine wpAnyH_take (i := 15) (oi := { dst := some 2, op := Op.assign (Operand.tmp 20), type := 9, pos := "l05_pose.go:63", after := #[{ on := 14, ground := Ground.data }, { on := 6, ground := Ground.chain }, { on := 0, ground := Ground.phase }, { on := 1, ground := Ground.phase }, { on := 2, ground := Ground.phase }, { on := 3, ground := Ground.phase }, { on := 4, ground := Ground.phase }, { on := 5, ground := Ground.phase }, { on := 6, ground := Ground.phase }, { on := 7, ground := Ground.phase }, { on := 8, ground := Ground.phase }, { on := 9, ground := Ground.phase }, { on := 10, ground := Ground.phase }, { on := 11, ground := Ground.phase }, { on := 12, ground := Ground.phase }, { on := 13, ground := Ground.phase }, { on := 14, ground := Ground.phase }], guard := none }) (v := ?_) rfl (by kernel_rfl) (by kernel_rfl) (by kernel_rfl) (fun _ _ _ h => h) (Or.inl ⟨by rfl, ?_⟩) (by assumption) ?_
            rotate_left
            · intro w9 hSw
              try dsimp only at hSw
              go_simp
              try with_reducible rfl
            try simp only [Act.put, List.setIfInBounds_toArray, List.set_cons_zero, List.set_cons_succ]
            refine wpAnyH_done (by kernel_rfl) ?_ _
            refine NoPanic.normal ?_
            go_wp2
            go_ret
            first
              | exact ⟨by rw [← HE.out]; rfl, HHB2.out⟩
              | exact ⟨by rw [← HE.out]; rfl, HHB2.out.alloc HHB2.out.size _⟩
          exact AllReadyH.nil
        exact AllReadyH.nil
      exact AllReadyH.nil
    exact AllReadyH.nil
  · rw [Bool.not_eq_true] at hp
    rw [hp]
    have HE := Lib.hid ((fmtP_no hp).symm.trans HR.out)
    clear hp HR
    go_wp2
    go_ret
    exact ⟨by rw [← HE.out]; rfl, HB_1.out⟩
set_option maxRecDepth 100000 in
set_option maxHeartbeats 4000000 in
theorem formatPose_impl (t x y : Int) (w : World) (hl : Laid1 w) :
    Calls Tryd.prog 14 #[.agg #[.int .i64 t, .int .i64 x, .int .i64 y]] w fun e w' => e = .returned (.string (fmtP t x y)) ∧ Below w.heap.size w w' := by
  have HL := Lib.hid hl
  clear hl
  obtain ⟨R, hR⟩ : ∃ z, fmtP t x y = z := ⟨_, rfl⟩
  rw [hR]
  have HR := Lib.hid hR
  clear hR
  go_enter Tryd.func14, Tryd.ntmps14
  have HB_0 := Lib.hid ((Below.refl w.heap.size w).alloc (Nat.le_refl _) (.cells #[.int .i64 t, .int .i64 x, .int .i64 y] 24))
  have K_p_0 := Lib.hid (HeldL.new_at w (w.heap.size) [.int .i64 t, .int .i64 x, .int .i64 y] 24 (by first | rfl | simp))
  go_wp2_with fail
  refine (validP_impl t x y _).mono ?_
  rintro e w1 ⟨rfl, hb⟩
  have K_p_1 := Lib.hid (K_p_0.out.after hb)
  have HB_1 := Lib.hid (HB_0.out.trans (hb.mono HB_0.out.size))
  clear hb
  by_cases hp : ok t x y = true
  · rw [hp]
    obtain ⟨⟨ht0, ht1⟩, hx, hy⟩ := ok_iff.mp hp
    have hr := HR.out
    rw [fmtP_yes hp] at hr
    have hsx := itoa_len x (by omega) (by omega)
    have hsy := itoa_len y (by omega) (by omega)
    obtain ⟨sx, ex⟩ : ∃ z, itoaB x = z := ⟨_, rfl⟩
    obtain ⟨sy, ey⟩ : ∃ z, itoaB y = z := ⟨_, rfl⟩
    rw [ex] at hsx
    rw [ey] at hsy
    rw [ex, ey] at hr
    have EX := Lib.hid ex
    have EY := Lib.hid ey
    have HX := Lib.hid hx
    have HY := Lib.hid hy
    clear ex ey hp HR hx hy
    have HSX := Lib.hid hsx
    have HSY := Lib.hid hsy
    clear hsx hsy
    rcases four ht0 ht1 with rfl | rfl | rfl | rfl
    · clear ht0 ht1
      have HE := Lib.hid (show sx ++ ⟨#[44]⟩ ++ sy ++ ⟨#[44]⟩ ++ ⟨#[101]⟩ = R from hr)
      clear hr
      have hw4 : IntKind.i64.wrap 1 = 1 := IntWalk.i64_in _ (by omega)
      have hsz4 : (⟨#[101, 110, 119, 115]⟩ : ByteArray).size = 4 := rfl
      have hex4 : (⟨#[101, 110, 119, 115]⟩ : ByteArray).extract 0 1 = ⟨#[101]⟩ := by decide
      have hsl4 : ∀ w9 : World, (Instr.slice 9 (.string ⟨#[101, 110, 119, 115]⟩) (some (.int .i64 0)) (some (.int .i64 1)) none).run Tryd.prog w9 = .ok (.string ⟨#[101]⟩) w9 := fun _ => by kernel_rfl
      have hk_p_0_1 := K_p_1.out.cell 0 _ rfl
      have hk_p_1_1 := K_p_1.out.cell 1 _ rfl
      have hk_p_2_1 := K_p_1.out.cell 2 _ rfl
      go_wp2
      refine wp_region_noPanic ?_
      refine wp_region_held_drew (S := (fun w' => w'.cell? ⟨w.heap.size, 0, none⟩ = some (.int .i64 0) ∧ w'.cell? ⟨w.heap.size, 1, none⟩ = some (.int .i64 x) ∧ w'.cell? ⟨w.heap.size, 2, none⟩ = some (.int .i64 y))) (by kernel_rfl) ?_ (fun hHeld => ?_)
      · try dsimp only
        go_keep
      refine wpAnyH_take (i := 0) (oi := { dst := some 6, op := Op.fieldAddr 24 (Operand.tmp 1) 1, type := 0, pos := "l05_pose.go:75", after := #[], guard := none }) (v := ?_) rfl (by kernel_rfl) (by kernel_rfl) (by kernel_rfl) (fun _ _ _ h => h) (Or.inl ⟨by rfl, ?_⟩) (by assumption) ?_
      rotate_left
      · intro w9 hSw
        try dsimp only at hSw
        go_simp
        try with_reducible rfl
      try simp only [Act.put, List.setIfInBounds_toArray, List.set_cons_zero, List.set_cons_succ]
      refine wpAnyH_take (i := 1) (oi := { dst := some 7, op := Op.load 3 (Operand.tmp 6), type := 3, pos := "l05_pose.go:75", after := #[{ on := 0, ground := Ground.data }], guard := none }) (v := ?_) rfl (by kernel_rfl) (by kernel_rfl) (by kernel_rfl) (fun _ _ _ h => h) (Or.inl ⟨by rfl, ?_⟩) (by assumption) ?_
      rotate_left
      · intro w9 hSw
        try dsimp only at hSw
        go_simp
        try with_reducible rfl
      try simp only [Act.put, List.setIfInBounds_toArray, List.set_cons_zero, List.set_cons_succ]
      refine wpAnyH_take (i := 3) (oi := { dst := some 9, op := Op.fieldAddr 24 (Operand.tmp 1) 2, type := 0, pos := "l05_pose.go:75", after := #[], guard := none }) (v := ?_) rfl (by kernel_rfl) (by kernel_rfl) (by kernel_rfl) (fun _ _ _ h => h) (Or.inl ⟨by rfl, ?_⟩) (by assumption) ?_
      rotate_left
      · intro w9 hSw
        try dsimp only at hSw
        go_simp
        try with_reducible rfl
      try simp only [Act.put, List.setIfInBounds_toArray, List.set_cons_zero, List.set_cons_succ]
      refine wpAnyH_take (i := 4) (oi := { dst := some 10, op := Op.load 3 (Operand.tmp 9), type := 3, pos := "l05_pose.go:75", after := #[{ on := 3, ground := Ground.data }], guard := none }) (v := ?_) rfl (by kernel_rfl) (by kernel_rfl) (by kernel_rfl) (fun _ _ _ h => h) (Or.inl ⟨by rfl, ?_⟩) (by assumption) ?_
      rotate_left
      · intro w9 hSw
        try dsimp only at hSw
        go_simp
        try with_reducible rfl
      try simp only [Act.put, List.setIfInBounds_toArray, List.set_cons_zero, List.set_cons_succ]
      refine wpAnyH_take (i := 6) (oi := { dst := some 12, op := Op.fieldAddr 24 (Operand.tmp 1) 0, type := 0, pos := "l05_pose.go:75", after := #[], guard := none }) (v := ?_) rfl (by kernel_rfl) (by kernel_rfl) (by kernel_rfl) (fun _ _ _ h => h) (Or.inl ⟨by rfl, ?_⟩) (by assumption) ?_
      rotate_left
      · intro w9 hSw
        try dsimp only at hSw
        go_simp
        try with_reducible rfl
      try simp only [Act.put, List.setIfInBounds_toArray, List.set_cons_zero, List.set_cons_succ]
      refine wpAnyH_take (i := 7) (oi := { dst := some 13, op := Op.load 3 (Operand.tmp 12), type := 3, pos := "l05_pose.go:75", after := #[{ on := 6, ground := Ground.data }], guard := none }) (v := ?_) rfl (by kernel_rfl) (by kernel_rfl) (by kernel_rfl) (fun _ _ _ h => h) (Or.inl ⟨by rfl, ?_⟩) (by assumption) ?_
      rotate_left
      · intro w9 hSw
        try dsimp only at hSw
        go_simp
        try with_reducible rfl
      try simp only [Act.put, List.setIfInBounds_toArray, List.set_cons_zero, List.set_cons_succ]
      refine wpAnyH_take (i := 8) (oi := { dst := some 14, op := Op.fieldAddr 24 (Operand.tmp 1) 0, type := 0, pos := "l05_pose.go:75", after := #[], guard := none }) (v := ?_) rfl (by kernel_rfl) (by kernel_rfl) (by kernel_rfl) (fun _ _ _ h => h) (Or.inl ⟨by rfl, ?_⟩) (by assumption) ?_
      rotate_left
      · intro w9 hSw
        try dsimp only at hSw
        go_simp
        try with_reducible rfl
      try simp only [Act.put, List.setIfInBounds_toArray, List.set_cons_zero, List.set_cons_succ]
      refine wpAnyH_take (i := 9) (oi := { dst := some 15, op := Op.load 3 (Operand.tmp 14), type := 3, pos := "l05_pose.go:75", after := #[{ on := 8, ground := Ground.data }], guard := none }) (v := ?_) rfl (by kernel_rfl) (by kernel_rfl) (by kernel_rfl) (fun _ _ _ h => h) (Or.inl ⟨by rfl, ?_⟩) (by assumption) ?_
      rotate_left
      · intro w9 hSw
        try dsimp only at hSw
        go_simp
        try with_reducible rfl
      try simp only [Act.put, List.setIfInBounds_toArray, List.set_cons_zero, List.set_cons_succ]
      refine wpAnyH_take (i := 10) (oi := { dst := some 16, op := Op.binOp BinOp.add 3 (Operand.tmp 15) (Operand.const (Value.int IntKind.i64 1)) 3, type := 3, pos := "l05_pose.go:75", after := #[{ on := 9, ground := Ground.data }], guard := none }) (v := ?_) rfl (by kernel_rfl) (by kernel_rfl) (by kernel_rfl) (fun _ _ _ h => h) (Or.inl ⟨by rfl, ?_⟩) (by assumption) ?_
      rotate_left
      · intro w9 hSw
        try dsimp only at hSw
        go_simp
        try with_reducible rfl
      try simp only [Act.put, List.setIfInBounds_toArray, List.set_cons_zero, List.set_cons_succ]
      refine wpAnyH_take (i := 11) (oi := { dst := some 17, op := Op.slice 9 (Operand.const (Value.string { data := #[101, 110, 119, 115] })) (some (Operand.tmp 13)) (some (Operand.tmp 16)) none, type := 9, pos := "l05_pose.go:75", after := #[{ on := 7, ground := Ground.data }, { on := 10, ground := Ground.data }], guard := none }) (v := ?_) rfl (by kernel_rfl) (by kernel_rfl) (by kernel_rfl) (fun _ _ _ h => h) (Or.inl ⟨by rfl, ?_⟩) (by assumption) ?_
      rotate_left
      · intro w9 hSw
        try dsimp only at hSw
        go_simp
        try with_reducible rfl
      try simp only [Act.put, List.setIfInBounds_toArray, List.set_cons_zero, List.set_cons_succ]
      refine wpAnyH_ready (rs := [2]) (by kernel_rfl) (by simp) ?_
      refine AllReadyH.cons (o := { dst := some 8, op := Op.call { callee := Callee.value (Operand.func 44), args := #[Operand.tmp 7], argTypes := #[3] }, type := 9, pos := "l05_pose.go:75", after := #[{ on := 1, ground := Ground.data }], guard := none }) rfl (fun K hK => ?_) ?_
      · go_simp
        first
          | ((go_at_call_of 44 (Value.int .i64 x)); (refine (formatInt_impl x _ (by have := HX.out; omega) (by have := HX.out; omega) (HL.out.below HB_1.out.drew)).mono ?_); (rintro e u1 ⟨rfl, hb⟩); (rw [EX.out]); (have KK1 := Lib.hid (K_p_1.out.drew.after hb)); (have HHB1 := Lib.hid ((HB_1.out.drew).trans (hb.mono (HB_1.out.drew).size))); (clear hb); (have hq0_1 := KK1.out.cell 0 _ rfl); (have hq1_1 := KK1.out.cell 1 _ rfl); (have hq2_1 := KK1.out.cell 2 _ rfl))
          | ((go_at_call_of 44 (Value.int .i64 y)); (refine (formatInt_impl y _ (by have := HY.out; omega) (by have := HY.out; omega) (HL.out.below HHB1.out)).mono ?_); (rintro e u2 ⟨rfl, hb⟩); (rw [EY.out]); (have KK2 := Lib.hid (KK1.out.after hb)); (have HHB2 := Lib.hid ((HHB1.out).trans (hb.mono (HHB1.out).size))); (clear hb); (have hq0_2 := KK2.out.cell 0 _ rfl); (have hq1_2 := KK2.out.cell 1 _ rfl); (have hq2_2 := KK2.out.cell 2 _ rfl))
          | ((go_at_call 43); (refine (joinAll_any _ 3 3 ⟨#[44]⟩ [sx, sy, ⟨#[101]⟩] _ (vrow3 u2 _ _ _ _) (by omega) (by decide) (by have := HSX.out; have := HSY.out; show 3 + (sx.size + (sy.size + (1 + 0))) ≤ _; omega) (by omega)).mono ?_); (rintro e u3 ⟨rfl, hb⟩); (rw [join3, HE.out]); (have HHB3 := Lib.hid ((HHB2.out.alloc HHB2.out.size (.cells #[.string sx, .string sy, .string ⟨#[101]⟩] 9)).trans (hb.mono (HHB2.out.alloc HHB2.out.size (.cells #[.string sx, .string sy, .string ⟨#[101]⟩] 9)).size))); (have KK3 := Lib.hid ((KK2.out.alloc (.cells #[.string sx, .string sy, .string ⟨#[101]⟩] 9)).after hb)); (clear hb); (have hq0_3 := KK3.out.cell 0 _ rfl); (have hq1_3 := KK3.out.cell 1 _ rfl); (have hq2_3 := KK3.out.cell 2 _ rfl))
        go_wp2_with fail
        refine hK.out _ _ ?_ (fun hHeld2 => ?_)
        · try dsimp only
          go_keep
        clear hK K
        try simp only [Act.put, List.setIfInBounds_toArray, List.set_cons_zero, List.set_cons_succ]
        refine wpAnyH_ready (rs := [5]) (by kernel_rfl) (by simp) ?_
        refine AllReadyH.cons (o := { dst := some 11, op := Op.call { callee := Callee.value (Operand.func 44), args := #[Operand.tmp 10], argTypes := #[3] }, type := 9, pos := "l05_pose.go:75", after := #[{ on := 4, ground := Ground.data }, { on := 2, ground := Ground.chain }], guard := none }) rfl (fun K hK => ?_) ?_
        · go_simp
          first
            | ((go_at_call_of 44 (Value.int .i64 x)); (refine (formatInt_impl x _ (by have := HX.out; omega) (by have := HX.out; omega) (HL.out.below HB_1.out.drew)).mono ?_); (rintro e u1 ⟨rfl, hb⟩); (rw [EX.out]); (have KK1 := Lib.hid (K_p_1.out.drew.after hb)); (have HHB1 := Lib.hid ((HB_1.out.drew).trans (hb.mono (HB_1.out.drew).size))); (clear hb); (have hq0_1 := KK1.out.cell 0 _ rfl); (have hq1_1 := KK1.out.cell 1 _ rfl); (have hq2_1 := KK1.out.cell 2 _ rfl))
            | ((go_at_call_of 44 (Value.int .i64 y)); (refine (formatInt_impl y _ (by have := HY.out; omega) (by have := HY.out; omega) (HL.out.below HHB1.out)).mono ?_); (rintro e u2 ⟨rfl, hb⟩); (rw [EY.out]); (have KK2 := Lib.hid (KK1.out.after hb)); (have HHB2 := Lib.hid ((HHB1.out).trans (hb.mono (HHB1.out).size))); (clear hb); (have hq0_2 := KK2.out.cell 0 _ rfl); (have hq1_2 := KK2.out.cell 1 _ rfl); (have hq2_2 := KK2.out.cell 2 _ rfl))
            | ((go_at_call 43); (refine (joinAll_any _ 3 3 ⟨#[44]⟩ [sx, sy, ⟨#[101]⟩] _ (vrow3 u2 _ _ _ _) (by omega) (by decide) (by have := HSX.out; have := HSY.out; show 3 + (sx.size + (sy.size + (1 + 0))) ≤ _; omega) (by omega)).mono ?_); (rintro e u3 ⟨rfl, hb⟩); (rw [join3, HE.out]); (have HHB3 := Lib.hid ((HHB2.out.alloc HHB2.out.size (.cells #[.string sx, .string sy, .string ⟨#[101]⟩] 9)).trans (hb.mono (HHB2.out.alloc HHB2.out.size (.cells #[.string sx, .string sy, .string ⟨#[101]⟩] 9)).size))); (have KK3 := Lib.hid ((KK2.out.alloc (.cells #[.string sx, .string sy, .string ⟨#[101]⟩] 9)).after hb)); (clear hb); (have hq0_3 := KK3.out.cell 0 _ rfl); (have hq1_3 := KK3.out.cell 1 _ rfl); (have hq2_3 := KK3.out.cell 2 _ rfl))
          go_wp2_with fail
          refine hK.out _ _ ?_ (fun hHeld2 => ?_)
          · try dsimp only
            go_keep
          clear hK K
          try simp only [Act.put, List.setIfInBounds_toArray, List.set_cons_zero, List.set_cons_succ]
          refine wpAnyH_ready (rs := [12]) (by kernel_rfl) (by simp) ?_
          refine AllReadyH.cons (o := { dst := some 18, op := Op.buildSlice 64 3 #[(0, Operand.tmp 8), (1, Operand.tmp 11), (2, Operand.tmp 17)], type := 64, pos := "l05_pose.go:75", after := #[{ on := 2, ground := Ground.data }, { on := 5, ground := Ground.data }, { on := 11, ground := Ground.data }], guard := none }) rfl (fun K hK => ?_) ?_
          · go_simp
            refine hK.out _ _ ?_ (fun hHeld2 => ?_)
            · try dsimp only
              go_keep
            clear hK K
            try simp only [Act.put, List.setIfInBounds_toArray, List.set_cons_zero, List.set_cons_succ]
            refine wpAnyH_ready (rs := [13]) (by kernel_rfl) (by simp) ?_
            refine AllReadyH.cons (o := { dst := some 19, op := Op.call { callee := Callee.value (Operand.func 43), args := #[Operand.const (Value.string { data := #[44] }), Operand.tmp 18], argTypes := #[9, 64] }, type := 9, pos := "l05_pose.go:75", after := #[{ on := 12, ground := Ground.data }, { on := 5, ground := Ground.chain }], guard := none }) rfl (fun K hK => ?_) ?_
            · go_simp
              first
                | ((go_at_call_of 44 (Value.int .i64 x)); (refine (formatInt_impl x _ (by have := HX.out; omega) (by have := HX.out; omega) (HL.out.below HB_1.out.drew)).mono ?_); (rintro e u1 ⟨rfl, hb⟩); (rw [EX.out]); (have KK1 := Lib.hid (K_p_1.out.drew.after hb)); (have HHB1 := Lib.hid ((HB_1.out.drew).trans (hb.mono (HB_1.out.drew).size))); (clear hb); (have hq0_1 := KK1.out.cell 0 _ rfl); (have hq1_1 := KK1.out.cell 1 _ rfl); (have hq2_1 := KK1.out.cell 2 _ rfl))
                | ((go_at_call_of 44 (Value.int .i64 y)); (refine (formatInt_impl y _ (by have := HY.out; omega) (by have := HY.out; omega) (HL.out.below HHB1.out)).mono ?_); (rintro e u2 ⟨rfl, hb⟩); (rw [EY.out]); (have KK2 := Lib.hid (KK1.out.after hb)); (have HHB2 := Lib.hid ((HHB1.out).trans (hb.mono (HHB1.out).size))); (clear hb); (have hq0_2 := KK2.out.cell 0 _ rfl); (have hq1_2 := KK2.out.cell 1 _ rfl); (have hq2_2 := KK2.out.cell 2 _ rfl))
                | ((go_at_call 43); (refine (joinAll_any _ 3 3 ⟨#[44]⟩ [sx, sy, ⟨#[101]⟩] _ (vrow3 u2 _ _ _ _) (by omega) (by decide) (by have := HSX.out; have := HSY.out; show 3 + (sx.size + (sy.size + (1 + 0))) ≤ _; omega) (by omega)).mono ?_); (rintro e u3 ⟨rfl, hb⟩); (rw [join3, HE.out]); (have HHB3 := Lib.hid ((HHB2.out.alloc HHB2.out.size (.cells #[.string sx, .string sy, .string ⟨#[101]⟩] 9)).trans (hb.mono (HHB2.out.alloc HHB2.out.size (.cells #[.string sx, .string sy, .string ⟨#[101]⟩] 9)).size))); (have KK3 := Lib.hid ((KK2.out.alloc (.cells #[.string sx, .string sy, .string ⟨#[101]⟩] 9)).after hb)); (clear hb); (have hq0_3 := KK3.out.cell 0 _ rfl); (have hq1_3 := KK3.out.cell 1 _ rfl); (have hq2_3 := KK3.out.cell 2 _ rfl))
              go_wp2_with fail
              refine hK.out _ _ ?_ (fun hHeld2 => ?_)
              · try dsimp only
                go_keep
              clear hK K
              try simp only [Act.put, List.setIfInBounds_toArray, List.set_cons_zero, List.set_cons_succ]
              refine wpAnyH_take (i := 14) (oi := { dst := some 2, op := Op.assign (Operand.tmp 19), type := 9, pos := "l05_pose.go:75", after := #[{ on := 13, ground := Ground.data }, { on := 13, ground := Ground.chain }, { on := 0, ground := Ground.phase }, { on := 1, ground := Ground.phase }, { on := 2, ground := Ground.phase }, { on := 3, ground := Ground.phase }, { on := 4, ground := Ground.phase }, { on := 5, ground := Ground.phase }, { on := 6, ground := Ground.phase }, { on := 7, ground := Ground.phase }, { on := 8, ground := Ground.phase }, { on := 9, ground := Ground.phase }, { on := 10, ground := Ground.phase }, { on := 11, ground := Ground.phase }, { on := 12, ground := Ground.phase }, { on := 13, ground := Ground.phase }], guard := none }) (v := ?_) rfl (by kernel_rfl) (by kernel_rfl) (by kernel_rfl) (fun _ _ _ h => h) (Or.inl ⟨by rfl, ?_⟩) (by assumption) ?_
              rotate_left
              · intro w9 hSw
                try dsimp only at hSw
                go_simp
                try with_reducible rfl
              try simp only [Act.put, List.setIfInBounds_toArray, List.set_cons_zero, List.set_cons_succ]
              refine wpAnyH_done (by kernel_rfl) ?_ _
              refine NoPanic.normal ?_
              go_wp2
              go_ret
              exact ⟨rfl, HHB3.out⟩
            exact AllReadyH.nil
          exact AllReadyH.nil
        exact AllReadyH.nil
      exact AllReadyH.nil
    · clear ht0 ht1
      have HE := Lib.hid (show sx ++ ⟨#[44]⟩ ++ sy ++ ⟨#[44]⟩ ++ ⟨#[110]⟩ = R from hr)
      clear hr
      have hw4 : IntKind.i64.wrap 2 = 2 := IntWalk.i64_in _ (by omega)
      have hsz4 : (⟨#[101, 110, 119, 115]⟩ : ByteArray).size = 4 := rfl
      have hex4 : (⟨#[101, 110, 119, 115]⟩ : ByteArray).extract 1 2 = ⟨#[110]⟩ := by decide
      have hsl4 : ∀ w9 : World, (Instr.slice 9 (.string ⟨#[101, 110, 119, 115]⟩) (some (.int .i64 1)) (some (.int .i64 2)) none).run Tryd.prog w9 = .ok (.string ⟨#[110]⟩) w9 := fun _ => by kernel_rfl
      have hk_p_0_1 := K_p_1.out.cell 0 _ rfl
      have hk_p_1_1 := K_p_1.out.cell 1 _ rfl
      have hk_p_2_1 := K_p_1.out.cell 2 _ rfl
      go_wp2
      refine wp_region_noPanic ?_
      refine wp_region_held_drew (S := (fun w' => w'.cell? ⟨w.heap.size, 0, none⟩ = some (.int .i64 1) ∧ w'.cell? ⟨w.heap.size, 1, none⟩ = some (.int .i64 x) ∧ w'.cell? ⟨w.heap.size, 2, none⟩ = some (.int .i64 y))) (by kernel_rfl) ?_ (fun hHeld => ?_)
      · try dsimp only
        go_keep
      refine wpAnyH_take (i := 0) (oi := { dst := some 6, op := Op.fieldAddr 24 (Operand.tmp 1) 1, type := 0, pos := "l05_pose.go:75", after := #[], guard := none }) (v := ?_) rfl (by kernel_rfl) (by kernel_rfl) (by kernel_rfl) (fun _ _ _ h => h) (Or.inl ⟨by rfl, ?_⟩) (by assumption) ?_
      rotate_left
      · intro w9 hSw
        try dsimp only at hSw
        go_simp
        try with_reducible rfl
      try simp only [Act.put, List.setIfInBounds_toArray, List.set_cons_zero, List.set_cons_succ]
      refine wpAnyH_take (i := 1) (oi := { dst := some 7, op := Op.load 3 (Operand.tmp 6), type := 3, pos := "l05_pose.go:75", after := #[{ on := 0, ground := Ground.data }], guard := none }) (v := ?_) rfl (by kernel_rfl) (by kernel_rfl) (by kernel_rfl) (fun _ _ _ h => h) (Or.inl ⟨by rfl, ?_⟩) (by assumption) ?_
      rotate_left
      · intro w9 hSw
        try dsimp only at hSw
        go_simp
        try with_reducible rfl
      try simp only [Act.put, List.setIfInBounds_toArray, List.set_cons_zero, List.set_cons_succ]
      refine wpAnyH_take (i := 3) (oi := { dst := some 9, op := Op.fieldAddr 24 (Operand.tmp 1) 2, type := 0, pos := "l05_pose.go:75", after := #[], guard := none }) (v := ?_) rfl (by kernel_rfl) (by kernel_rfl) (by kernel_rfl) (fun _ _ _ h => h) (Or.inl ⟨by rfl, ?_⟩) (by assumption) ?_
      rotate_left
      · intro w9 hSw
        try dsimp only at hSw
        go_simp
        try with_reducible rfl
      try simp only [Act.put, List.setIfInBounds_toArray, List.set_cons_zero, List.set_cons_succ]
      refine wpAnyH_take (i := 4) (oi := { dst := some 10, op := Op.load 3 (Operand.tmp 9), type := 3, pos := "l05_pose.go:75", after := #[{ on := 3, ground := Ground.data }], guard := none }) (v := ?_) rfl (by kernel_rfl) (by kernel_rfl) (by kernel_rfl) (fun _ _ _ h => h) (Or.inl ⟨by rfl, ?_⟩) (by assumption) ?_
      rotate_left
      · intro w9 hSw
        try dsimp only at hSw
        go_simp
        try with_reducible rfl
      try simp only [Act.put, List.setIfInBounds_toArray, List.set_cons_zero, List.set_cons_succ]
      refine wpAnyH_take (i := 6) (oi := { dst := some 12, op := Op.fieldAddr 24 (Operand.tmp 1) 0, type := 0, pos := "l05_pose.go:75", after := #[], guard := none }) (v := ?_) rfl (by kernel_rfl) (by kernel_rfl) (by kernel_rfl) (fun _ _ _ h => h) (Or.inl ⟨by rfl, ?_⟩) (by assumption) ?_
      rotate_left
      · intro w9 hSw
        try dsimp only at hSw
        go_simp
        try with_reducible rfl
      try simp only [Act.put, List.setIfInBounds_toArray, List.set_cons_zero, List.set_cons_succ]
      refine wpAnyH_take (i := 7) (oi := { dst := some 13, op := Op.load 3 (Operand.tmp 12), type := 3, pos := "l05_pose.go:75", after := #[{ on := 6, ground := Ground.data }], guard := none }) (v := ?_) rfl (by kernel_rfl) (by kernel_rfl) (by kernel_rfl) (fun _ _ _ h => h) (Or.inl ⟨by rfl, ?_⟩) (by assumption) ?_
      rotate_left
      · intro w9 hSw
        try dsimp only at hSw
        go_simp
        try with_reducible rfl
      try simp only [Act.put, List.setIfInBounds_toArray, List.set_cons_zero, List.set_cons_succ]
      refine wpAnyH_take (i := 8) (oi := { dst := some 14, op := Op.fieldAddr 24 (Operand.tmp 1) 0, type := 0, pos := "l05_pose.go:75", after := #[], guard := none }) (v := ?_) rfl (by kernel_rfl) (by kernel_rfl) (by kernel_rfl) (fun _ _ _ h => h) (Or.inl ⟨by rfl, ?_⟩) (by assumption) ?_
      rotate_left
      · intro w9 hSw
        try dsimp only at hSw
        go_simp
        try with_reducible rfl
      try simp only [Act.put, List.setIfInBounds_toArray, List.set_cons_zero, List.set_cons_succ]
      refine wpAnyH_take (i := 9) (oi := { dst := some 15, op := Op.load 3 (Operand.tmp 14), type := 3, pos := "l05_pose.go:75", after := #[{ on := 8, ground := Ground.data }], guard := none }) (v := ?_) rfl (by kernel_rfl) (by kernel_rfl) (by kernel_rfl) (fun _ _ _ h => h) (Or.inl ⟨by rfl, ?_⟩) (by assumption) ?_
      rotate_left
      · intro w9 hSw
        try dsimp only at hSw
        go_simp
        try with_reducible rfl
      try simp only [Act.put, List.setIfInBounds_toArray, List.set_cons_zero, List.set_cons_succ]
      refine wpAnyH_take (i := 10) (oi := { dst := some 16, op := Op.binOp BinOp.add 3 (Operand.tmp 15) (Operand.const (Value.int IntKind.i64 1)) 3, type := 3, pos := "l05_pose.go:75", after := #[{ on := 9, ground := Ground.data }], guard := none }) (v := ?_) rfl (by kernel_rfl) (by kernel_rfl) (by kernel_rfl) (fun _ _ _ h => h) (Or.inl ⟨by rfl, ?_⟩) (by assumption) ?_
      rotate_left
      · intro w9 hSw
        try dsimp only at hSw
        go_simp
        try with_reducible rfl
      try simp only [Act.put, List.setIfInBounds_toArray, List.set_cons_zero, List.set_cons_succ]
      refine wpAnyH_take (i := 11) (oi := { dst := some 17, op := Op.slice 9 (Operand.const (Value.string { data := #[101, 110, 119, 115] })) (some (Operand.tmp 13)) (some (Operand.tmp 16)) none, type := 9, pos := "l05_pose.go:75", after := #[{ on := 7, ground := Ground.data }, { on := 10, ground := Ground.data }], guard := none }) (v := ?_) rfl (by kernel_rfl) (by kernel_rfl) (by kernel_rfl) (fun _ _ _ h => h) (Or.inl ⟨by rfl, ?_⟩) (by assumption) ?_
      rotate_left
      · intro w9 hSw
        try dsimp only at hSw
        go_simp
        try with_reducible rfl
      try simp only [Act.put, List.setIfInBounds_toArray, List.set_cons_zero, List.set_cons_succ]
      refine wpAnyH_ready (rs := [2]) (by kernel_rfl) (by simp) ?_
      refine AllReadyH.cons (o := { dst := some 8, op := Op.call { callee := Callee.value (Operand.func 44), args := #[Operand.tmp 7], argTypes := #[3] }, type := 9, pos := "l05_pose.go:75", after := #[{ on := 1, ground := Ground.data }], guard := none }) rfl (fun K hK => ?_) ?_
      · go_simp
        first
          | ((go_at_call_of 44 (Value.int .i64 x)); (refine (formatInt_impl x _ (by have := HX.out; omega) (by have := HX.out; omega) (HL.out.below HB_1.out.drew)).mono ?_); (rintro e u1 ⟨rfl, hb⟩); (rw [EX.out]); (have KK1 := Lib.hid (K_p_1.out.drew.after hb)); (have HHB1 := Lib.hid ((HB_1.out.drew).trans (hb.mono (HB_1.out.drew).size))); (clear hb); (have hq0_1 := KK1.out.cell 0 _ rfl); (have hq1_1 := KK1.out.cell 1 _ rfl); (have hq2_1 := KK1.out.cell 2 _ rfl))
          | ((go_at_call_of 44 (Value.int .i64 y)); (refine (formatInt_impl y _ (by have := HY.out; omega) (by have := HY.out; omega) (HL.out.below HHB1.out)).mono ?_); (rintro e u2 ⟨rfl, hb⟩); (rw [EY.out]); (have KK2 := Lib.hid (KK1.out.after hb)); (have HHB2 := Lib.hid ((HHB1.out).trans (hb.mono (HHB1.out).size))); (clear hb); (have hq0_2 := KK2.out.cell 0 _ rfl); (have hq1_2 := KK2.out.cell 1 _ rfl); (have hq2_2 := KK2.out.cell 2 _ rfl))
          | ((go_at_call 43); (refine (joinAll_any _ 3 3 ⟨#[44]⟩ [sx, sy, ⟨#[110]⟩] _ (vrow3 u2 _ _ _ _) (by omega) (by decide) (by have := HSX.out; have := HSY.out; show 3 + (sx.size + (sy.size + (1 + 0))) ≤ _; omega) (by omega)).mono ?_); (rintro e u3 ⟨rfl, hb⟩); (rw [join3, HE.out]); (have HHB3 := Lib.hid ((HHB2.out.alloc HHB2.out.size (.cells #[.string sx, .string sy, .string ⟨#[110]⟩] 9)).trans (hb.mono (HHB2.out.alloc HHB2.out.size (.cells #[.string sx, .string sy, .string ⟨#[110]⟩] 9)).size))); (have KK3 := Lib.hid ((KK2.out.alloc (.cells #[.string sx, .string sy, .string ⟨#[110]⟩] 9)).after hb)); (clear hb); (have hq0_3 := KK3.out.cell 0 _ rfl); (have hq1_3 := KK3.out.cell 1 _ rfl); (have hq2_3 := KK3.out.cell 2 _ rfl))
        go_wp2_with fail
        refine hK.out _ _ ?_ (fun hHeld2 => ?_)
        · try dsimp only
          go_keep
        clear hK K
        try simp only [Act.put, List.setIfInBounds_toArray, List.set_cons_zero, List.set_cons_succ]
        refine wpAnyH_ready (rs := [5]) (by kernel_rfl) (by simp) ?_
        refine AllReadyH.cons (o := { dst := some 11, op := Op.call { callee := Callee.value (Operand.func 44), args := #[Operand.tmp 10], argTypes := #[3] }, type := 9, pos := "l05_pose.go:75", after := #[{ on := 4, ground := Ground.data }, { on := 2, ground := Ground.chain }], guard := none }) rfl (fun K hK => ?_) ?_
        · go_simp
          first
            | ((go_at_call_of 44 (Value.int .i64 x)); (refine (formatInt_impl x _ (by have := HX.out; omega) (by have := HX.out; omega) (HL.out.below HB_1.out.drew)).mono ?_); (rintro e u1 ⟨rfl, hb⟩); (rw [EX.out]); (have KK1 := Lib.hid (K_p_1.out.drew.after hb)); (have HHB1 := Lib.hid ((HB_1.out.drew).trans (hb.mono (HB_1.out.drew).size))); (clear hb); (have hq0_1 := KK1.out.cell 0 _ rfl); (have hq1_1 := KK1.out.cell 1 _ rfl); (have hq2_1 := KK1.out.cell 2 _ rfl))
            | ((go_at_call_of 44 (Value.int .i64 y)); (refine (formatInt_impl y _ (by have := HY.out; omega) (by have := HY.out; omega) (HL.out.below HHB1.out)).mono ?_); (rintro e u2 ⟨rfl, hb⟩); (rw [EY.out]); (have KK2 := Lib.hid (KK1.out.after hb)); (have HHB2 := Lib.hid ((HHB1.out).trans (hb.mono (HHB1.out).size))); (clear hb); (have hq0_2 := KK2.out.cell 0 _ rfl); (have hq1_2 := KK2.out.cell 1 _ rfl); (have hq2_2 := KK2.out.cell 2 _ rfl))
            | ((go_at_call 43); (refine (joinAll_any _ 3 3 ⟨#[44]⟩ [sx, sy, ⟨#[110]⟩] _ (vrow3 u2 _ _ _ _) (by omega) (by decide) (by have := HSX.out; have := HSY.out; show 3 + (sx.size + (sy.size + (1 + 0))) ≤ _; omega) (by omega)).mono ?_); (rintro e u3 ⟨rfl, hb⟩); (rw [join3, HE.out]); (have HHB3 := Lib.hid ((HHB2.out.alloc HHB2.out.size (.cells #[.string sx, .string sy, .string ⟨#[110]⟩] 9)).trans (hb.mono (HHB2.out.alloc HHB2.out.size (.cells #[.string sx, .string sy, .string ⟨#[110]⟩] 9)).size))); (have KK3 := Lib.hid ((KK2.out.alloc (.cells #[.string sx, .string sy, .string ⟨#[110]⟩] 9)).after hb)); (clear hb); (have hq0_3 := KK3.out.cell 0 _ rfl); (have hq1_3 := KK3.out.cell 1 _ rfl); (have hq2_3 := KK3.out.cell 2 _ rfl))
          go_wp2_with fail
          refine hK.out _ _ ?_ (fun hHeld2 => ?_)
          · try dsimp only
            go_keep
          clear hK K
          try simp only [Act.put, List.setIfInBounds_toArray, List.set_cons_zero, List.set_cons_succ]
          refine wpAnyH_ready (rs := [12]) (by kernel_rfl) (by simp) ?_
          refine AllReadyH.cons (o := { dst := some 18, op := Op.buildSlice 64 3 #[(0, Operand.tmp 8), (1, Operand.tmp 11), (2, Operand.tmp 17)], type := 64, pos := "l05_pose.go:75", after := #[{ on := 2, ground := Ground.data }, { on := 5, ground := Ground.data }, { on := 11, ground := Ground.data }], guard := none }) rfl (fun K hK => ?_) ?_
          · go_simp
            refine hK.out _ _ ?_ (fun hHeld2 => ?_)
            · try dsimp only
              go_keep
            clear hK K
            try simp only [Act.put, List.setIfInBounds_toArray, List.set_cons_zero, List.set_cons_succ]
            refine wpAnyH_ready (rs := [13]) (by kernel_rfl) (by simp) ?_
            refine AllReadyH.cons (o := { dst := some 19, op := Op.call { callee := Callee.value (Operand.func 43), args := #[Operand.const (Value.string { data := #[44] }), Operand.tmp 18], argTypes := #[9, 64] }, type := 9, pos := "l05_pose.go:75", after := #[{ on := 12, ground := Ground.data }, { on := 5, ground := Ground.chain }], guard := none }) rfl (fun K hK => ?_) ?_
            · go_simp
              first
                | ((go_at_call_of 44 (Value.int .i64 x)); (refine (formatInt_impl x _ (by have := HX.out; omega) (by have := HX.out; omega) (HL.out.below HB_1.out.drew)).mono ?_); (rintro e u1 ⟨rfl, hb⟩); (rw [EX.out]); (have KK1 := Lib.hid (K_p_1.out.drew.after hb)); (have HHB1 := Lib.hid ((HB_1.out.drew).trans (hb.mono (HB_1.out.drew).size))); (clear hb); (have hq0_1 := KK1.out.cell 0 _ rfl); (have hq1_1 := KK1.out.cell 1 _ rfl); (have hq2_1 := KK1.out.cell 2 _ rfl))
                | ((go_at_call_of 44 (Value.int .i64 y)); (refine (formatInt_impl y _ (by have := HY.out; omega) (by have := HY.out; omega) (HL.out.below HHB1.out)).mono ?_); (rintro e u2 ⟨rfl, hb⟩); (rw [EY.out]); (have KK2 := Lib.hid (KK1.out.after hb)); (have HHB2 := Lib.hid ((HHB1.out).trans (hb.mono (HHB1.out).size))); (clear hb); (have hq0_2 := KK2.out.cell 0 _ rfl); (have hq1_2 := KK2.out.cell 1 _ rfl); (have hq2_2 := KK2.out.cell 2 _ rfl))
                | ((go_at_call 43); (refine (joinAll_any _ 3 3 ⟨#[44]⟩ [sx, sy, ⟨#[110]⟩] _ (vrow3 u2 _ _ _ _) (by omega) (by decide) (by have := HSX.out; have := HSY.out; show 3 + (sx.size + (sy.size + (1 + 0))) ≤ _; omega) (by omega)).mono ?_); (rintro e u3 ⟨rfl, hb⟩); (rw [join3, HE.out]); (have HHB3 := Lib.hid ((HHB2.out.alloc HHB2.out.size (.cells #[.string sx, .string sy, .string ⟨#[110]⟩] 9)).trans (hb.mono (HHB2.out.alloc HHB2.out.size (.cells #[.string sx, .string sy, .string ⟨#[110]⟩] 9)).size))); (have KK3 := Lib.hid ((KK2.out.alloc (.cells #[.string sx, .string sy, .string ⟨#[110]⟩] 9)).after hb)); (clear hb); (have hq0_3 := KK3.out.cell 0 _ rfl); (have hq1_3 := KK3.out.cell 1 _ rfl); (have hq2_3 := KK3.out.cell 2 _ rfl))
              go_wp2_with fail
              refine hK.out _ _ ?_ (fun hHeld2 => ?_)
              · try dsimp only
                go_keep
              clear hK K
              try simp only [Act.put, List.setIfInBounds_toArray, List.set_cons_zero, List.set_cons_succ]
              refine wpAnyH_take (i := 14) (oi := { dst := some 2, op := Op.assign (Operand.tmp 19), type := 9, pos := "l05_pose.go:75", after := #[{ on := 13, ground := Ground.data }, { on := 13, ground := Ground.chain }, { on := 0, ground := Ground.phase }, { on := 1, ground := Ground.phase }, { on := 2, ground := Ground.phase }, { on := 3, ground := Ground.phase }, { on := 4, ground := Ground.phase }, { on := 5, ground := Ground.phase }, { on := 6, ground := Ground.phase }, { on := 7, ground := Ground.phase }, { on := 8, ground := Ground.phase }, { on := 9, ground := Ground.phase }, { on := 10, ground := Ground.phase }, { on := 11, ground := Ground.phase }, { on := 12, ground := Ground.phase }, { on := 13, ground := Ground.phase }], guard := none }) (v := ?_) rfl (by kernel_rfl) (by kernel_rfl) (by kernel_rfl) (fun _ _ _ h => h) (Or.inl ⟨by rfl, ?_⟩) (by assumption) ?_
              rotate_left
              · intro w9 hSw
                try dsimp only at hSw
                go_simp
                try with_reducible rfl
              try simp only [Act.put, List.setIfInBounds_toArray, List.set_cons_zero, List.set_cons_succ]
              refine wpAnyH_done (by kernel_rfl) ?_ _
              refine NoPanic.normal ?_
              go_wp2
              go_ret
              exact ⟨rfl, HHB3.out⟩
            exact AllReadyH.nil
          exact AllReadyH.nil
        exact AllReadyH.nil
      exact AllReadyH.nil
    · clear ht0 ht1
      have HE := Lib.hid (show sx ++ ⟨#[44]⟩ ++ sy ++ ⟨#[44]⟩ ++ ⟨#[119]⟩ = R from hr)
      clear hr
      have hw4 : IntKind.i64.wrap 3 = 3 := IntWalk.i64_in _ (by omega)
      have hsz4 : (⟨#[101, 110, 119, 115]⟩ : ByteArray).size = 4 := rfl
      have hex4 : (⟨#[101, 110, 119, 115]⟩ : ByteArray).extract 2 3 = ⟨#[119]⟩ := by decide
      have hsl4 : ∀ w9 : World, (Instr.slice 9 (.string ⟨#[101, 110, 119, 115]⟩) (some (.int .i64 2)) (some (.int .i64 3)) none).run Tryd.prog w9 = .ok (.string ⟨#[119]⟩) w9 := fun _ => by kernel_rfl
      have hk_p_0_1 := K_p_1.out.cell 0 _ rfl
      have hk_p_1_1 := K_p_1.out.cell 1 _ rfl
      have hk_p_2_1 := K_p_1.out.cell 2 _ rfl
      go_wp2
      refine wp_region_noPanic ?_
      refine wp_region_held_drew (S := (fun w' => w'.cell? ⟨w.heap.size, 0, none⟩ = some (.int .i64 2) ∧ w'.cell? ⟨w.heap.size, 1, none⟩ = some (.int .i64 x) ∧ w'.cell? ⟨w.heap.size, 2, none⟩ = some (.int .i64 y))) (by kernel_rfl) ?_ (fun hHeld => ?_)
      · try dsimp only
        go_keep
      refine wpAnyH_take (i := 0) (oi := { dst := some 6, op := Op.fieldAddr 24 (Operand.tmp 1) 1, type := 0, pos := "l05_pose.go:75", after := #[], guard := none }) (v := ?_) rfl (by kernel_rfl) (by kernel_rfl) (by kernel_rfl) (fun _ _ _ h => h) (Or.inl ⟨by rfl, ?_⟩) (by assumption) ?_
      rotate_left
      · intro w9 hSw
        try dsimp only at hSw
        go_simp
        try with_reducible rfl
      try simp only [Act.put, List.setIfInBounds_toArray, List.set_cons_zero, List.set_cons_succ]
      refine wpAnyH_take (i := 1) (oi := { dst := some 7, op := Op.load 3 (Operand.tmp 6), type := 3, pos := "l05_pose.go:75", after := #[{ on := 0, ground := Ground.data }], guard := none }) (v := ?_) rfl (by kernel_rfl) (by kernel_rfl) (by kernel_rfl) (fun _ _ _ h => h) (Or.inl ⟨by rfl, ?_⟩) (by assumption) ?_
      rotate_left
      · intro w9 hSw
        try dsimp only at hSw
        go_simp
        try with_reducible rfl
      try simp only [Act.put, List.setIfInBounds_toArray, List.set_cons_zero, List.set_cons_succ]
      refine wpAnyH_take (i := 3) (oi := { dst := some 9, op := Op.fieldAddr 24 (Operand.tmp 1) 2, type := 0, pos := "l05_pose.go:75", after := #[], guard := none }) (v := ?_) rfl (by kernel_rfl) (by kernel_rfl) (by kernel_rfl) (fun _ _ _ h => h) (Or.inl ⟨by rfl, ?_⟩) (by assumption) ?_
      rotate_left
      · intro w9 hSw
        try dsimp only at hSw
        go_simp
        try with_reducible rfl
      try simp only [Act.put, List.setIfInBounds_toArray, List.set_cons_zero, List.set_cons_succ]
      refine wpAnyH_take (i := 4) (oi := { dst := some 10, op := Op.load 3 (Operand.tmp 9), type := 3, pos := "l05_pose.go:75", after := #[{ on := 3, ground := Ground.data }], guard := none }) (v := ?_) rfl (by kernel_rfl) (by kernel_rfl) (by kernel_rfl) (fun _ _ _ h => h) (Or.inl ⟨by rfl, ?_⟩) (by assumption) ?_
      rotate_left
      · intro w9 hSw
        try dsimp only at hSw
        go_simp
        try with_reducible rfl
      try simp only [Act.put, List.setIfInBounds_toArray, List.set_cons_zero, List.set_cons_succ]
      refine wpAnyH_take (i := 6) (oi := { dst := some 12, op := Op.fieldAddr 24 (Operand.tmp 1) 0, type := 0, pos := "l05_pose.go:75", after := #[], guard := none }) (v := ?_) rfl (by kernel_rfl) (by kernel_rfl) (by kernel_rfl) (fun _ _ _ h => h) (Or.inl ⟨by rfl, ?_⟩) (by assumption) ?_
      rotate_left
      · intro w9 hSw
        try dsimp only at hSw
        go_simp
        try with_reducible rfl
      try simp only [Act.put, List.setIfInBounds_toArray, List.set_cons_zero, List.set_cons_succ]
      refine wpAnyH_take (i := 7) (oi := { dst := some 13, op := Op.load 3 (Operand.tmp 12), type := 3, pos := "l05_pose.go:75", after := #[{ on := 6, ground := Ground.data }], guard := none }) (v := ?_) rfl (by kernel_rfl) (by kernel_rfl) (by kernel_rfl) (fun _ _ _ h => h) (Or.inl ⟨by rfl, ?_⟩) (by assumption) ?_
      rotate_left
      · intro w9 hSw
        try dsimp only at hSw
        go_simp
        try with_reducible rfl
      try simp only [Act.put, List.setIfInBounds_toArray, List.set_cons_zero, List.set_cons_succ]
      refine wpAnyH_take (i := 8) (oi := { dst := some 14, op := Op.fieldAddr 24 (Operand.tmp 1) 0, type := 0, pos := "l05_pose.go:75", after := #[], guard := none }) (v := ?_) rfl (by kernel_rfl) (by kernel_rfl) (by kernel_rfl) (fun _ _ _ h => h) (Or.inl ⟨by rfl, ?_⟩) (by assumption) ?_
      rotate_left
      · intro w9 hSw
        try dsimp only at hSw
        go_simp
        try with_reducible rfl
      try simp only [Act.put, List.setIfInBounds_toArray, List.set_cons_zero, List.set_cons_succ]
      refine wpAnyH_take (i := 9) (oi := { dst := some 15, op := Op.load 3 (Operand.tmp 14), type := 3, pos := "l05_pose.go:75", after := #[{ on := 8, ground := Ground.data }], guard := none }) (v := ?_) rfl (by kernel_rfl) (by kernel_rfl) (by kernel_rfl) (fun _ _ _ h => h) (Or.inl ⟨by rfl, ?_⟩) (by assumption) ?_
      rotate_left
      · intro w9 hSw
        try dsimp only at hSw
        go_simp
        try with_reducible rfl
      try simp only [Act.put, List.setIfInBounds_toArray, List.set_cons_zero, List.set_cons_succ]
      refine wpAnyH_take (i := 10) (oi := { dst := some 16, op := Op.binOp BinOp.add 3 (Operand.tmp 15) (Operand.const (Value.int IntKind.i64 1)) 3, type := 3, pos := "l05_pose.go:75", after := #[{ on := 9, ground := Ground.data }], guard := none }) (v := ?_) rfl (by kernel_rfl) (by kernel_rfl) (by kernel_rfl) (fun _ _ _ h => h) (Or.inl ⟨by rfl, ?_⟩) (by assumption) ?_
      rotate_left
      · intro w9 hSw
        try dsimp only at hSw
        go_simp
        try with_reducible rfl
      try simp only [Act.put, List.setIfInBounds_toArray, List.set_cons_zero, List.set_cons_succ]
      refine wpAnyH_take (i := 11) (oi := { dst := some 17, op := Op.slice 9 (Operand.const (Value.string { data := #[101, 110, 119, 115] })) (some (Operand.tmp 13)) (some (Operand.tmp 16)) none, type := 9, pos := "l05_pose.go:75", after := #[{ on := 7, ground := Ground.data }, { on := 10, ground := Ground.data }], guard := none }) (v := ?_) rfl (by kernel_rfl) (by kernel_rfl) (by kernel_rfl) (fun _ _ _ h => h) (Or.inl ⟨by rfl, ?_⟩) (by assumption) ?_
      rotate_left
      · intro w9 hSw
        try dsimp only at hSw
        go_simp
        try with_reducible rfl
      try simp only [Act.put, List.setIfInBounds_toArray, List.set_cons_zero, List.set_cons_succ]
      refine wpAnyH_ready (rs := [2]) (by kernel_rfl) (by simp) ?_
      refine AllReadyH.cons (o := { dst := some 8, op := Op.call { callee := Callee.value (Operand.func 44), args := #[Operand.tmp 7], argTypes := #[3] }, type := 9, pos := "l05_pose.go:75", after := #[{ on := 1, ground := Ground.data }], guard := none }) rfl (fun K hK => ?_) ?_
      · go_simp
        first
          | ((go_at_call_of 44 (Value.int .i64 x)); (refine (formatInt_impl x _ (by have := HX.out; omega) (by have := HX.out; omega) (HL.out.below HB_1.out.drew)).mono ?_); (rintro e u1 ⟨rfl, hb⟩); (rw [EX.out]); (have KK1 := Lib.hid (K_p_1.out.drew.after hb)); (have HHB1 := Lib.hid ((HB_1.out.drew).trans (hb.mono (HB_1.out.drew).size))); (clear hb); (have hq0_1 := KK1.out.cell 0 _ rfl); (have hq1_1 := KK1.out.cell 1 _ rfl); (have hq2_1 := KK1.out.cell 2 _ rfl))
          | ((go_at_call_of 44 (Value.int .i64 y)); (refine (formatInt_impl y _ (by have := HY.out; omega) (by have := HY.out; omega) (HL.out.below HHB1.out)).mono ?_); (rintro e u2 ⟨rfl, hb⟩); (rw [EY.out]); (have KK2 := Lib.hid (KK1.out.after hb)); (have HHB2 := Lib.hid ((HHB1.out).trans (hb.mono (HHB1.out).size))); (clear hb); (have hq0_2 := KK2.out.cell 0 _ rfl); (have hq1_2 := KK2.out.cell 1 _ rfl); (have hq2_2 := KK2.out.cell 2 _ rfl))
          | ((go_at_call 43); (refine (joinAll_any _ 3 3 ⟨#[44]⟩ [sx, sy, ⟨#[119]⟩] _ (vrow3 u2 _ _ _ _) (by omega) (by decide) (by have := HSX.out; have := HSY.out; show 3 + (sx.size + (sy.size + (1 + 0))) ≤ _; omega) (by omega)).mono ?_); (rintro e u3 ⟨rfl, hb⟩); (rw [join3, HE.out]); (have HHB3 := Lib.hid ((HHB2.out.alloc HHB2.out.size (.cells #[.string sx, .string sy, .string ⟨#[119]⟩] 9)).trans (hb.mono (HHB2.out.alloc HHB2.out.size (.cells #[.string sx, .string sy, .string ⟨#[119]⟩] 9)).size))); (have KK3 := Lib.hid ((KK2.out.alloc (.cells #[.string sx, .string sy, .string ⟨#[119]⟩] 9)).after hb)); (clear hb); (have hq0_3 := KK3.out.cell 0 _ rfl); (have hq1_3 := KK3.out.cell 1 _ rfl); (have hq2_3 := KK3.out.cell 2 _ rfl))
        go_wp2_with fail
        refine hK.out _ _ ?_ (fun hHeld2 => ?_)
        · try dsimp only
          go_keep
        clear hK K
        try simp only [Act.put, List.setIfInBounds_toArray, List.set_cons_zero, List.set_cons_succ]
        refine wpAnyH_ready (rs := [5]) (by kernel_rfl) (by simp) ?_
        refine AllReadyH.cons (o := { dst := some 11, op := Op.call { callee := Callee.value (Operand.func 44), args := #[Operand.tmp 10], argTypes := #[3] }, type := 9, pos := "l05_pose.go:75", after := #[{ on := 4, ground := Ground.data }, { on := 2, ground := Ground.chain }], guard := none }) rfl (fun K hK => ?_) ?_
        · go_simp
          first
            | ((go_at_call_of 44 (Value.int .i64 x)); (refine (formatInt_impl x _ (by have := HX.out; omega) (by have := HX.out; omega) (HL.out.below HB_1.out.drew)).mono ?_); (rintro e u1 ⟨rfl, hb⟩); (rw [EX.out]); (have KK1 := Lib.hid (K_p_1.out.drew.after hb)); (have HHB1 := Lib.hid ((HB_1.out.drew).trans (hb.mono (HB_1.out.drew).size))); (clear hb); (have hq0_1 := KK1.out.cell 0 _ rfl); (have hq1_1 := KK1.out.cell 1 _ rfl); (have hq2_1 := KK1.out.cell 2 _ rfl))
            | ((go_at_call_of 44 (Value.int .i64 y)); (refine (formatInt_impl y _ (by have := HY.out; omega) (by have := HY.out; omega) (HL.out.below HHB1.out)).mono ?_); (rintro e u2 ⟨rfl, hb⟩); (rw [EY.out]); (have KK2 := Lib.hid (KK1.out.after hb)); (have HHB2 := Lib.hid ((HHB1.out).trans (hb.mono (HHB1.out).size))); (clear hb); (have hq0_2 := KK2.out.cell 0 _ rfl); (have hq1_2 := KK2.out.cell 1 _ rfl); (have hq2_2 := KK2.out.cell 2 _ rfl))
            | ((go_at_call 43); (refine (joinAll_any _ 3 3 ⟨#[44]⟩ [sx, sy, ⟨#[119]⟩] _ (vrow3 u2 _ _ _ _) (by omega) (by decide) (by have := HSX.out; have := HSY.out; show 3 + (sx.size + (sy.size + (1 + 0))) ≤ _; omega) (by omega)).mono ?_); (rintro e u3 ⟨rfl, hb⟩); (rw [join3, HE.out]); (have HHB3 := Lib.hid ((HHB2.out.alloc HHB2.out.size (.cells #[.string sx, .string sy, .string ⟨#[119]⟩] 9)).trans (hb.mono (HHB2.out.alloc HHB2.out.size (.cells #[.string sx, .string sy, .string ⟨#[119]⟩] 9)).size))); (have KK3 := Lib.hid ((KK2.out.alloc (.cells #[.string sx, .string sy, .string ⟨#[119]⟩] 9)).after hb)); (clear hb); (have hq0_3 := KK3.out.cell 0 _ rfl); (have hq1_3 := KK3.out.cell 1 _ rfl); (have hq2_3 := KK3.out.cell 2 _ rfl))
          go_wp2_with fail
          refine hK.out _ _ ?_ (fun hHeld2 => ?_)
          · try dsimp only
            go_keep
          clear hK K
          try simp only [Act.put, List.setIfInBounds_toArray, List.set_cons_zero, List.set_cons_succ]
          refine wpAnyH_ready (rs := [12]) (by kernel_rfl) (by simp) ?_
          refine AllReadyH.cons (o := { dst := some 18, op := Op.buildSlice 64 3 #[(0, Operand.tmp 8), (1, Operand.tmp 11), (2, Operand.tmp 17)], type := 64, pos := "l05_pose.go:75", after := #[{ on := 2, ground := Ground.data }, { on := 5, ground := Ground.data }, { on := 11, ground := Ground.data }], guard := none }) rfl (fun K hK => ?_) ?_
          · go_simp
            refine hK.out _ _ ?_ (fun hHeld2 => ?_)
            · try dsimp only
              go_keep
            clear hK K
            try simp only [Act.put, List.setIfInBounds_toArray, List.set_cons_zero, List.set_cons_succ]
            refine wpAnyH_ready (rs := [13]) (by kernel_rfl) (by simp) ?_
            refine AllReadyH.cons (o := { dst := some 19, op := Op.call { callee := Callee.value (Operand.func 43), args := #[Operand.const (Value.string { data := #[44] }), Operand.tmp 18], argTypes := #[9, 64] }, type := 9, pos := "l05_pose.go:75", after := #[{ on := 12, ground := Ground.data }, { on := 5, ground := Ground.chain }], guard := none }) rfl (fun K hK => ?_) ?_
            · go_simp
              first
                | ((go_at_call_of 44 (Value.int .i64 x)); (refine (formatInt_impl x _ (by have := HX.out; omega) (by have := HX.out; omega) (HL.out.below HB_1.out.drew)).mono ?_); (rintro e u1 ⟨rfl, hb⟩); (rw [EX.out]); (have KK1 := Lib.hid (K_p_1.out.drew.after hb)); (have HHB1 := Lib.hid ((HB_1.out.drew).trans (hb.mono (HB_1.out.drew).size))); (clear hb); (have hq0_1 := KK1.out.cell 0 _ rfl); (have hq1_1 := KK1.out.cell 1 _ rfl); (have hq2_1 := KK1.out.cell 2 _ rfl))
                | ((go_at_call_of 44 (Value.int .i64 y)); (refine (formatInt_impl y _ (by have := HY.out; omega) (by have := HY.out; omega) (HL.out.below HHB1.out)).mono ?_); (rintro e u2 ⟨rfl, hb⟩); (rw [EY.out]); (have KK2 := Lib.hid (KK1.out.after hb)); (have HHB2 := Lib.hid ((HHB1.out).trans (hb.mono (HHB1.out).size))); (clear hb); (have hq0_2 := KK2.out.cell 0 _ rfl); (have hq1_2 := KK2.out.cell 1 _ rfl); (have hq2_2 := KK2.out.cell 2 _ rfl))
                | ((go_at_call 43); (refine (joinAll_any _ 3 3 ⟨#[44]⟩ [sx, sy, ⟨#[119]⟩] _ (vrow3 u2 _ _ _ _) (by omega) (by decide) (by have := HSX.out; have := HSY.out; show 3 + (sx.size + (sy.size + (1 + 0))) ≤ _; omega) (by omega)).mono ?_); (rintro e u3 ⟨rfl, hb⟩); (rw [join3, HE.out]); (have HHB3 := Lib.hid ((HHB2.out.alloc HHB2.out.size (.cells #[.string sx, .string sy, .string ⟨#[119]⟩] 9)).trans (hb.mono (HHB2.out.alloc HHB2.out.size (.cells #[.string sx, .string sy, .string ⟨#[119]⟩] 9)).size))); (have KK3 := Lib.hid ((KK2.out.alloc (.cells #[.string sx, .string sy, .string ⟨#[119]⟩] 9)).after hb)); (clear hb); (have hq0_3 := KK3.out.cell 0 _ rfl); (have hq1_3 := KK3.out.cell 1 _ rfl); (have hq2_3 := KK3.out.cell 2 _ rfl))
              go_wp2_with fail
              refine hK.out _ _ ?_ (fun hHeld2 => ?_)
              · try dsimp only
                go_keep
              clear hK K
              try simp only [Act.put, List.setIfInBounds_toArray, List.set_cons_zero, List.set_cons_succ]
              refine wpAnyH_take (i := 14) (oi := { dst := some 2, op := Op.assign (Operand.tmp 19), type := 9, pos := "l05_pose.go:75", after := #[{ on := 13, ground := Ground.data }, { on := 13, ground := Ground.chain }, { on := 0, ground := Ground.phase }, { on := 1, ground := Ground.phase }, { on := 2, ground := Ground.phase }, { on := 3, ground := Ground.phase }, { on := 4, ground := Ground.phase }, { on := 5, ground := Ground.phase }, { on := 6, ground := Ground.phase }, { on := 7, ground := Ground.phase }, { on := 8, ground := Ground.phase }, { on := 9, ground := Ground.phase }, { on := 10, ground := Ground.phase }, { on := 11, ground := Ground.phase }, { on := 12, ground := Ground.phase }, { on := 13, ground := Ground.phase }], guard := none }) (v := ?_) rfl (by kernel_rfl) (by kernel_rfl) (by kernel_rfl) (fun _ _ _ h => h) (Or.inl ⟨by rfl, ?_⟩) (by assumption) ?_
              rotate_left
              · intro w9 hSw
                try dsimp only at hSw
                go_simp
                try with_reducible rfl
              try simp only [Act.put, List.setIfInBounds_toArray, List.set_cons_zero, List.set_cons_succ]
              refine wpAnyH_done (by kernel_rfl) ?_ _
              refine NoPanic.normal ?_
              go_wp2
              go_ret
              exact ⟨rfl, HHB3.out⟩
            exact AllReadyH.nil
          exact AllReadyH.nil
        exact AllReadyH.nil
      exact AllReadyH.nil
    · clear ht0 ht1
      have HE := Lib.hid (show sx ++ ⟨#[44]⟩ ++ sy ++ ⟨#[44]⟩ ++ ⟨#[115]⟩ = R from hr)
      clear hr
      have hw4 : IntKind.i64.wrap 4 = 4 := IntWalk.i64_in _ (by omega)
      have hsz4 : (⟨#[101, 110, 119, 115]⟩ : ByteArray).size = 4 := rfl
      have hex4 : (⟨#[101, 110, 119, 115]⟩ : ByteArray).extract 3 4 = ⟨#[115]⟩ := by decide
      have hsl4 : ∀ w9 : World, (Instr.slice 9 (.string ⟨#[101, 110, 119, 115]⟩) (some (.int .i64 3)) (some (.int .i64 4)) none).run Tryd.prog w9 = .ok (.string ⟨#[115]⟩) w9 := fun _ => by kernel_rfl
      have hk_p_0_1 := K_p_1.out.cell 0 _ rfl
      have hk_p_1_1 := K_p_1.out.cell 1 _ rfl
      have hk_p_2_1 := K_p_1.out.cell 2 _ rfl
      go_wp2
      refine wp_region_noPanic ?_
      refine wp_region_held_drew (S := (fun w' => w'.cell? ⟨w.heap.size, 0, none⟩ = some (.int .i64 3) ∧ w'.cell? ⟨w.heap.size, 1, none⟩ = some (.int .i64 x) ∧ w'.cell? ⟨w.heap.size, 2, none⟩ = some (.int .i64 y))) (by kernel_rfl) ?_ (fun hHeld => ?_)
      · try dsimp only
        go_keep
      refine wpAnyH_take (i := 0) (oi := { dst := some 6, op := Op.fieldAddr 24 (Operand.tmp 1) 1, type := 0, pos := "l05_pose.go:75", after := #[], guard := none }) (v := ?_) rfl (by kernel_rfl) (by kernel_rfl) (by kernel_rfl) (fun _ _ _ h => h) (Or.inl ⟨by rfl, ?_⟩) (by assumption) ?_
      rotate_left
      · intro w9 hSw
        try dsimp only at hSw
        go_simp
        try with_reducible rfl
      try simp only [Act.put, List.setIfInBounds_toArray, List.set_cons_zero, List.set_cons_succ]
      refine wpAnyH_take (i := 1) (oi := { dst := some 7, op := Op.load 3 (Operand.tmp 6), type := 3, pos := "l05_pose.go:75", after := #[{ on := 0, ground := Ground.data }], guard := none }) (v := ?_) rfl (by kernel_rfl) (by kernel_rfl) (by kernel_rfl) (fun _ _ _ h => h) (Or.inl ⟨by rfl, ?_⟩) (by assumption) ?_
      rotate_left
      · intro w9 hSw
        try dsimp only at hSw
        go_simp
        try with_reducible rfl
      try simp only [Act.put, List.setIfInBounds_toArray, List.set_cons_zero, List.set_cons_succ]
      refine wpAnyH_take (i := 3) (oi := { dst := some 9, op := Op.fieldAddr 24 (Operand.tmp 1) 2, type := 0, pos := "l05_pose.go:75", after := #[], guard := none }) (v := ?_) rfl (by kernel_rfl) (by kernel_rfl) (by kernel_rfl) (fun _ _ _ h => h) (Or.inl ⟨by rfl, ?_⟩) (by assumption) ?_
      rotate_left
      · intro w9 hSw
        try dsimp only at hSw
        go_simp
        try with_reducible rfl
      try simp only [Act.put, List.setIfInBounds_toArray, List.set_cons_zero, List.set_cons_succ]
      refine wpAnyH_take (i := 4) (oi := { dst := some 10, op := Op.load 3 (Operand.tmp 9), type := 3, pos := "l05_pose.go:75", after := #[{ on := 3, ground := Ground.data }], guard := none }) (v := ?_) rfl (by kernel_rfl) (by kernel_rfl) (by kernel_rfl) (fun _ _ _ h => h) (Or.inl ⟨by rfl, ?_⟩) (by assumption) ?_
      rotate_left
      · intro w9 hSw
        try dsimp only at hSw
        go_simp
        try with_reducible rfl
      try simp only [Act.put, List.setIfInBounds_toArray, List.set_cons_zero, List.set_cons_succ]
      refine wpAnyH_take (i := 6) (oi := { dst := some 12, op := Op.fieldAddr 24 (Operand.tmp 1) 0, type := 0, pos := "l05_pose.go:75", after := #[], guard := none }) (v := ?_) rfl (by kernel_rfl) (by kernel_rfl) (by kernel_rfl) (fun _ _ _ h => h) (Or.inl ⟨by rfl, ?_⟩) (by assumption) ?_
      rotate_left
      · intro w9 hSw
        try dsimp only at hSw
        go_simp
        try with_reducible rfl
      try simp only [Act.put, List.setIfInBounds_toArray, List.set_cons_zero, List.set_cons_succ]
      refine wpAnyH_take (i := 7) (oi := { dst := some 13, op := Op.load 3 (Operand.tmp 12), type := 3, pos := "l05_pose.go:75", after := #[{ on := 6, ground := Ground.data }], guard := none }) (v := ?_) rfl (by kernel_rfl) (by kernel_rfl) (by kernel_rfl) (fun _ _ _ h => h) (Or.inl ⟨by rfl, ?_⟩) (by assumption) ?_
      rotate_left
      · intro w9 hSw
        try dsimp only at hSw
        go_simp
        try with_reducible rfl
      try simp only [Act.put, List.setIfInBounds_toArray, List.set_cons_zero, List.set_cons_succ]
      refine wpAnyH_take (i := 8) (oi := { dst := some 14, op := Op.fieldAddr 24 (Operand.tmp 1) 0, type := 0, pos := "l05_pose.go:75", after := #[], guard := none }) (v := ?_) rfl (by kernel_rfl) (by kernel_rfl) (by kernel_rfl) (fun _ _ _ h => h) (Or.inl ⟨by rfl, ?_⟩) (by assumption) ?_
      rotate_left
      · intro w9 hSw
        try dsimp only at hSw
        go_simp
        try with_reducible rfl
      try simp only [Act.put, List.setIfInBounds_toArray, List.set_cons_zero, List.set_cons_succ]
      refine wpAnyH_take (i := 9) (oi := { dst := some 15, op := Op.load 3 (Operand.tmp 14), type := 3, pos := "l05_pose.go:75", after := #[{ on := 8, ground := Ground.data }], guard := none }) (v := ?_) rfl (by kernel_rfl) (by kernel_rfl) (by kernel_rfl) (fun _ _ _ h => h) (Or.inl ⟨by rfl, ?_⟩) (by assumption) ?_
      rotate_left
      · intro w9 hSw
        try dsimp only at hSw
        go_simp
        try with_reducible rfl
      try simp only [Act.put, List.setIfInBounds_toArray, List.set_cons_zero, List.set_cons_succ]
      refine wpAnyH_take (i := 10) (oi := { dst := some 16, op := Op.binOp BinOp.add 3 (Operand.tmp 15) (Operand.const (Value.int IntKind.i64 1)) 3, type := 3, pos := "l05_pose.go:75", after := #[{ on := 9, ground := Ground.data }], guard := none }) (v := ?_) rfl (by kernel_rfl) (by kernel_rfl) (by kernel_rfl) (fun _ _ _ h => h) (Or.inl ⟨by rfl, ?_⟩) (by assumption) ?_
      rotate_left
      · intro w9 hSw
        try dsimp only at hSw
        go_simp
        try with_reducible rfl
      try simp only [Act.put, List.setIfInBounds_toArray, List.set_cons_zero, List.set_cons_succ]
      refine wpAnyH_take (i := 11) (oi := { dst := some 17, op := Op.slice 9 (Operand.const (Value.string { data := #[101, 110, 119, 115] })) (some (Operand.tmp 13)) (some (Operand.tmp 16)) none, type := 9, pos := "l05_pose.go:75", after := #[{ on := 7, ground := Ground.data }, { on := 10, ground := Ground.data }], guard := none }) (v := ?_) rfl (by kernel_rfl) (by kernel_rfl) (by kernel_rfl) (fun _ _ _ h => h) (Or.inl ⟨by rfl, ?_⟩) (by assumption) ?_
      rotate_left
      · intro w9 hSw
        try dsimp only at hSw
        go_simp
        try with_reducible rfl
      try simp only [Act.put, List.setIfInBounds_toArray, List.set_cons_zero, List.set_cons_succ]
      refine wpAnyH_ready (rs := [2]) (by kernel_rfl) (by simp) ?_
      refine AllReadyH.cons (o := { dst := some 8, op := Op.call { callee := Callee.value (Operand.func 44), args := #[Operand.tmp 7], argTypes := #[3] }, type := 9, pos := "l05_pose.go:75", after := #[{ on := 1, ground := Ground.data }], guard := none }) rfl (fun K hK => ?_) ?_
      · go_simp
        first
          | ((go_at_call_of 44 (Value.int .i64 x)); (refine (formatInt_impl x _ (by have := HX.out; omega) (by have := HX.out; omega) (HL.out.below HB_1.out.drew)).mono ?_); (rintro e u1 ⟨rfl, hb⟩); (rw [EX.out]); (have KK1 := Lib.hid (K_p_1.out.drew.after hb)); (have HHB1 := Lib.hid ((HB_1.out.drew).trans (hb.mono (HB_1.out.drew).size))); (clear hb); (have hq0_1 := KK1.out.cell 0 _ rfl); (have hq1_1 := KK1.out.cell 1 _ rfl); (have hq2_1 := KK1.out.cell 2 _ rfl))
          | ((go_at_call_of 44 (Value.int .i64 y)); (refine (formatInt_impl y _ (by have := HY.out; omega) (by have := HY.out; omega) (HL.out.below HHB1.out)).mono ?_); (rintro e u2 ⟨rfl, hb⟩); (rw [EY.out]); (have KK2 := Lib.hid (KK1.out.after hb)); (have HHB2 := Lib.hid ((HHB1.out).trans (hb.mono (HHB1.out).size))); (clear hb); (have hq0_2 := KK2.out.cell 0 _ rfl); (have hq1_2 := KK2.out.cell 1 _ rfl); (have hq2_2 := KK2.out.cell 2 _ rfl))
          | ((go_at_call 43); (refine (joinAll_any _ 3 3 ⟨#[44]⟩ [sx, sy, ⟨#[115]⟩] _ (vrow3 u2 _ _ _ _) (by omega) (by decide) (by have := HSX.out; have := HSY.out; show 3 + (sx.size + (sy.size + (1 + 0))) ≤ _; omega) (by omega)).mono ?_); (rintro e u3 ⟨rfl, hb⟩); (rw [join3, HE.out]); (have HHB3 := Lib.hid ((HHB2.out.alloc HHB2.out.size (.cells #[.string sx, .string sy, .string ⟨#[115]⟩] 9)).trans (hb.mono (HHB2.out.alloc HHB2.out.size (.cells #[.string sx, .string sy, .string ⟨#[115]⟩] 9)).size))); (have KK3 := Lib.hid ((KK2.out.alloc (.cells #[.string sx, .string sy, .string ⟨#[115]⟩] 9)).after hb)); (clear hb); (have hq0_3 := KK3.out.cell 0 _ rfl); (have hq1_3 := KK3.out.cell 1 _ rfl); (have hq2_3 := KK3.out.cell 2 _ rfl))
        go_wp2_with fail
        refine hK.out _ _ ?_ (fun hHeld2 => ?_)
        · try dsimp only
          go_keep
        clear hK K
        try simp only [Act.put, List.setIfInBounds_toArray, List.set_cons_zero, List.set_cons_succ]
        refine wpAnyH_ready (rs := [5]) (by kernel_rfl) (by simp) ?_
        refine AllReadyH.cons (o := { dst := some 11, op := Op.call { callee := Callee.value (Operand.func 44), args := #[Operand.tmp 10], argTypes := #[3] }, type := 9, pos := "l05_pose.go:75", after := #[{ on := 4, ground := Ground.data }, { on := 2, ground := Ground.chain }], guard := none }) rfl (fun K hK => ?_) ?_
        · go_simp
          first
            | ((go_at_call_of 44 (Value.int .i64 x)); (refine (formatInt_impl x _ (by have := HX.out; omega) (by have := HX.out; omega) (HL.out.below HB_1.out.drew)).mono ?_); (rintro e u1 ⟨rfl, hb⟩); (rw [EX.out]); (have KK1 := Lib.hid (K_p_1.out.drew.after hb)); (have HHB1 := Lib.hid ((HB_1.out.drew).trans (hb.mono (HB_1.out.drew).size))); (clear hb); (have hq0_1 := KK1.out.cell 0 _ rfl); (have hq1_1 := KK1.out.cell 1 _ rfl); (have hq2_1 := KK1.out.cell 2 _ rfl))
            | ((go_at_call_of 44 (Value.int .i64 y)); (refine (formatInt_impl y _ (by have := HY.out; omega) (by have := HY.out; omega) (HL.out.below HHB1.out)).mono ?_); (rintro e u2 ⟨rfl, hb⟩); (rw [EY.out]); (have KK2 := Lib.hid (KK1.out.after hb)); (have HHB2 := Lib.hid ((HHB1.out).trans (hb.mono (HHB1.out).size))); (clear hb); (have hq0_2 := KK2.out.cell 0 _ rfl); (have hq1_2 := KK2.out.cell 1 _ rfl); (have hq2_2 := KK2.out.cell 2 _ rfl))
            | ((go_at_call 43); (refine (joinAll_any _ 3 3 ⟨#[44]⟩ [sx, sy, ⟨#[115]⟩] _ (vrow3 u2 _ _ _ _) (by omega) (by decide) (by have := HSX.out; have := HSY.out; show 3 + (sx.size + (sy.size + (1 + 0))) ≤ _; omega) (by omega)).mono ?_); (rintro e u3 ⟨rfl, hb⟩); (rw [join3, HE.out]); (have HHB3 := Lib.hid ((HHB2.out.alloc HHB2.out.size (.cells #[.string sx, .string sy, .string ⟨#[115]⟩] 9)).trans (hb.mono (HHB2.out.alloc HHB2.out.size (.cells #[.string sx, .string sy, .string ⟨#[115]⟩] 9)).size))); (have KK3 := Lib.hid ((KK2.out.alloc (.cells #[.string sx, .string sy, .string ⟨#[115]⟩] 9)).after hb)); (clear hb); (have hq0_3 := KK3.out.cell 0 _ rfl); (have hq1_3 := KK3.out.cell 1 _ rfl); (have hq2_3 := KK3.out.cell 2 _ rfl))
          go_wp2_with fail
          refine hK.out _ _ ?_ (fun hHeld2 => ?_)
          · try dsimp only
            go_keep
          clear hK K
          try simp only [Act.put, List.setIfInBounds_toArray, List.set_cons_zero, List.set_cons_succ]
          refine wpAnyH_ready (rs := [12]) (by kernel_rfl) (by simp) ?_
          refine AllReadyH.cons (o := { dst := some 18, op := Op.buildSlice 64 3 #[(0, Operand.tmp 8), (1, Operand.tmp 11), (2, Operand.tmp 17)], type := 64, pos := "l05_pose.go:75", after := #[{ on := 2, ground := Ground.data }, { on := 5, ground := Ground.data }, { on := 11, ground := Ground.data }], guard := none }) rfl (fun K hK => ?_) ?_
          · go_simp
            refine hK.out _ _ ?_ (fun hHeld2 => ?_)
            · try dsimp only
              go_keep
            clear hK K
            try simp only [Act.put, List.setIfInBounds_toArray, List.set_cons_zero, List.set_cons_succ]
            refine wpAnyH_ready (rs := [13]) (by kernel_rfl) (by simp) ?_
            refine AllReadyH.cons (o := { dst := some 19, op := Op.call { callee := Callee.value (Operand.func 43), args := #[Operand.const (Value.string { data := #[44] }), Operand.tmp 18], argTypes := #[9, 64] }, type := 9, pos := "l05_pose.go:75", after := #[{ on := 12, ground := Ground.data }, { on := 5, ground := Ground.chain }], guard := none }) rfl (fun K hK => ?_) ?_
            · go_simp
              first
                | ((go_at_call_of 44 (Value.int .i64 x)); (refine (formatInt_impl x _ (by have := HX.out; omega) (by have := HX.out; omega) (HL.out.below HB_1.out.drew)).mono ?_); (rintro e u1 ⟨rfl, hb⟩); (rw [EX.out]); (have KK1 := Lib.hid (K_p_1.out.drew.after hb)); (have HHB1 := Lib.hid ((HB_1.out.drew).trans (hb.mono (HB_1.out.drew).size))); (clear hb); (have hq0_1 := KK1.out.cell 0 _ rfl); (have hq1_1 := KK1.out.cell 1 _ rfl); (have hq2_1 := KK1.out.cell 2 _ rfl))
                | ((go_at_call_of 44 (Value.int .i64 y)); (refine (formatInt_impl y _ (by have := HY.out; omega) (by have := HY.out; omega) (HL.out.below HHB1.out)).mono ?_); (rintro e u2 ⟨rfl, hb⟩); (rw [EY.out]); (have KK2 := Lib.hid (KK1.out.after hb)); (have HHB2 := Lib.hid ((HHB1.out).trans (hb.mono (HHB1.out).size))); (clear hb); (have hq0_2 := KK2.out.cell 0 _ rfl); (have hq1_2 := KK2.out.cell 1 _ rfl); (have hq2_2 := KK2.out.cell 2 _ rfl))
                | ((go_at_call 43); (refine (joinAll_any _ 3 3 ⟨#[44]⟩ [sx, sy, ⟨#[115]⟩] _ (vrow3 u2 _ _ _ _) (by omega) (by decide) (by have := HSX.out; have := HSY.out; show 3 + (sx.size + (sy.size + (1 + 0))) ≤ _; omega) (by omega)).mono ?_); (rintro e u3 ⟨rfl, hb⟩); (rw [join3, HE.out]); (have HHB3 := Lib.hid ((HHB2.out.alloc HHB2.out.size (.cells #[.string sx, .string sy, .string ⟨#[115]⟩] 9)).trans (hb.mono (HHB2.out.alloc HHB2.out.size (.cells #[.string sx, .string sy, .string ⟨#[115]⟩] 9)).size))); (have KK3 := Lib.hid ((KK2.out.alloc (.cells #[.string sx, .string sy, .string ⟨#[115]⟩] 9)).after hb)); (clear hb); (have hq0_3 := KK3.out.cell 0 _ rfl); (have hq1_3 := KK3.out.cell 1 _ rfl); (have hq2_3 := KK3.out.cell 2 _ rfl))
              go_wp2_with fail
              refine hK.out _ _ ?_ (fun hHeld2 => ?_)
              · try dsimp only
                go_keep
              clear hK K
              try simp only [Act.put, List.setIfInBounds_toArray, List.set_cons_zero, List.set_cons_succ]
              refine wpAnyH_take (i := 14) (oi := { dst := some 2, op := Op.assign (Operand.tmp 19), type := 9, pos := "l05_pose.go:75", after := #[{ on := 13, ground := Ground.data }, { on := 13, ground := Ground.chain }, { on := 0, ground := Ground.phase }, { on := 1, ground := Ground.phase }, { on := 2, ground := Ground.phase }, { on := 3, ground := Ground.phase }, { on := 4, ground := Ground.phase }, { on := 5, ground := Ground.phase }, { on := 6, ground := Ground.phase }, { on := 7, ground := Ground.phase }, { on := 8, ground := Ground.phase }, { on := 9, ground := Ground.phase }, { on := 10, ground := Ground.phase }, { on := 11, ground := Ground.phase }, { on := 12, ground := Ground.phase }, { on := 13, ground := Ground.phase }], guard := none }) (v := ?_) rfl (by kernel_rfl) (by kernel_rfl) (by kernel_rfl) (fun _ _ _ h => h) (Or.inl ⟨by rfl, ?_⟩) (by assumption) ?_
              rotate_left
              · intro w9 hSw
                try dsimp only at hSw
                go_simp
                try with_reducible rfl
              try simp only [Act.put, List.setIfInBounds_toArray, List.set_cons_zero, List.set_cons_succ]
              refine wpAnyH_done (by kernel_rfl) ?_ _
              refine NoPanic.normal ?_
              go_wp2
              go_ret
              exact ⟨rfl, HHB3.out⟩
            exact AllReadyH.nil
          exact AllReadyH.nil
        exact AllReadyH.nil
      exact AllReadyH.nil
  · rw [Bool.not_eq_true] at hp
    rw [hp]
    have HE := Lib.hid ((fmtP_no hp).symm.trans HR.out)
    clear hp HR
    go_wp2
    go_ret
    exact ⟨by rw [← HE.out]; rfl, HB_1.out⟩
end Go.Proofs.YtdilgjakodimbaaDoor
