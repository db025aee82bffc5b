/- Links: IsLinkSet, the model. Conditions: none. -/
import Derived.Test.YtgjaennedihckaaGreatIsSet
namespace Go.Proofs.YtgjaennedihckaaGreat
open Go.RowKit Nt Fr
set_option linter.unusedVariables false

set_option maxRecDepth 100000 in
set_option maxHeartbeats 4000000 in
theorem isLinkSet_s (A : Option Addr) (n c : Nat) (zs : List Lr) (w : World) (hA : LArg w A n zs) (hn : n ≤ 1048576) :
    Calls Tryz.prog 51 #[.slice A n c] w fun e w' => e = .returned (.bool (okSet zs)) ∧ Below w.heap.size w w' := by
  have HA := Lib.hid hA
  have HL := Lib.hid hA.row.1
  obtain ⟨ok, hok⟩ : ∃ z, okSet zs = z := ⟨_, rfl⟩
  rw [hok]
  have HOK := Lib.hid hok
  clear hA hok
  go_enter Tryz.func51, Tryz.ntmps51
  go_wp2
  go_loopw [7] (fun i wr => ∃ k : Nat, k ≤ n ∧ i = .int .i64 k ∧ validP zs k ∧ ascP zs k ∧ Below w.heap.size w wr) (fun i _ => n - (intOf i).toNat)
  case atStart => exact ⟨0, Nat.zero_le _, rfl, fun i z hi => by omega, asc_le (Nat.zero_le _), Below.refl _ _⟩
  case round =>
    obtain ⟨k0, hk, rfl, hv, ha, hb⟩ := hrel
    have HV := Lib.hid hv
    have HAS := Lib.hid ha
    have S_0 := Lib.hid (show St wr wr [] [] from St.start wr)
    have HB := Lib.hid hb
    clear hv ha hb
    by_cases hlt : k0 < n
    · obtain ⟨g, o, z, rfl, hg, hz, hr, hc⟩ := (HA.out.below HB.out).at_ hlt
      obtain ⟨ZA, ZB, ZP, ZQ, ZR, a0, n0, c0, a1, n1, c1, a2, n2, c2, a3, n3, c3, a4, n4, c4, a5, n5, c5, rfl⟩ := LArg.shapes hr
      have HZ := Lib.hid hz
      have HR := Lib.hid (show LkA wr ZP ZQ ZR (.slice a0 n0 c0) (.slice a1 n1 c1) (.slice a2 n2 c2) (.slice a3 n3 c3) (.slice a4 n4 c4) (.slice a5 n5 c5) from hr)
      have S_1 := Lib.hid (S_0.out.alloc [.int .i64 ZA, .int .i64 ZB, .bool ZP.s, (.slice a0 n0 c0), (.slice a1 n1 c1), .bool ZQ.s, (.slice a2 n2 c2), (.slice a3 n3 c3), .bool ZR.s, (.slice a4 n4 c4), (.slice a5 n5 c5)] 38)
      have hi0 : (0 : Int) ≤ (k0 : Int) := by omega
      have hi1 : (k0 : Int) < (n : Int) := by omega
      cases k0 with
      | zero =>
        have d0 : wr.cell? ⟨g, o, none⟩ = some (.int .i64 ZA) := by simpa using hc 0 _ rfl
        have d1 : wr.cell? ⟨g, o + 1, none⟩ = some (.int .i64 ZB) := by simpa using hc 1 _ rfl
        have d2 : wr.cell? ⟨g, o + 2, none⟩ = some (.bool ZP.s) := by simpa using hc 2 _ rfl
        have d3 : wr.cell? ⟨g, o + 3, none⟩ = some ((.slice a0 n0 c0)) := by simpa using hc 3 _ rfl
        have d4 : wr.cell? ⟨g, o + 4, none⟩ = some ((.slice a1 n1 c1)) := by simpa using hc 4 _ rfl
        have d5 : wr.cell? ⟨g, o + 5, none⟩ = some (.bool ZQ.s) := by simpa using hc 5 _ rfl
        have d6 : wr.cell? ⟨g, o + 6, none⟩ = some ((.slice a2 n2 c2)) := by simpa using hc 6 _ rfl
        have d7 : wr.cell? ⟨g, o + 7, none⟩ = some ((.slice a3 n3 c3)) := by simpa using hc 7 _ rfl
        have d8 : wr.cell? ⟨g, o + 8, none⟩ = some (.bool ZR.s) := by simpa using hc 8 _ rfl
        have d9 : wr.cell? ⟨g, o + 9, none⟩ = some ((.slice a4 n4 c4)) := by simpa using hc 9 _ rfl
        have d10 : wr.cell? ⟨g, o + 10, none⟩ = some ((.slice a5 n5 c5)) := by simpa using hc 10 _ rfl
        clear hz hr hc
        by_cases hzk : okK ZA ZB ZP ZQ ZR = true
        · have HZK := Lib.hid hzk
          have HV2 := Lib.hid (valid_step HV.out HZ.out hzk)
          clear hzk
          go_wp2
          refine wp_region_noPanic ?_
          refine wp_region_held_drew (S := (fun w' => w'.cell? ⟨wr.heap.size, 0, none⟩ = some (.int .i64 ZA) ∧ w'.cell? ⟨wr.heap.size, 1, none⟩ = some (.int .i64 ZB) ∧ w'.cell? ⟨wr.heap.size, 2, none⟩ = some (.bool ZP.s) ∧ w'.cell? ⟨wr.heap.size, 3, none⟩ = some ((.slice a0 n0 c0)) ∧ w'.cell? ⟨wr.heap.size, 4, none⟩ = some ((.slice a1 n1 c1)) ∧ w'.cell? ⟨wr.heap.size, 5, none⟩ = some (.bool ZQ.s) ∧ w'.cell? ⟨wr.heap.size, 6, none⟩ = some ((.slice a2 n2 c2)) ∧ w'.cell? ⟨wr.heap.size, 7, none⟩ = some ((.slice a3 n3 c3)) ∧ w'.cell? ⟨wr.heap.size, 8, none⟩ = some (.bool ZR.s) ∧ w'.cell? ⟨wr.heap.size, 9, none⟩ = some ((.slice a4 n4 c4)) ∧ w'.cell? ⟨wr.heap.size, 10, none⟩ = some ((.slice a5 n5 c5)))) (by kernel_rfl) ?_ (fun hHeld => ?_)
          · try dsimp only
            go_keep
          refine wpAnyH_take (i := 0) (oi := { dst := some 12, op := Op.load 38 (Operand.tmp 4), type := 38, pos := "l06_links.go:62", after := #[], guard := none }) (v := ?_) rfl (by kernel_rfl) (by kernel_rfl) (by kernel_rfl) (fun _ _ _ h => h) (Or.inl ⟨by rfl, ?_⟩) (by assumption) ?_
          rotate_left
          · intro w9 hSw
            try dsimp only at hSw
            go_simp
            try with_reducible rfl
          try simp only [Act.put, List.setIfInBounds_toArray, List.set_cons_zero, List.set_cons_succ]
          refine wpAnyH_ready (rs := [1]) (by kernel_rfl) (by simp) ?_
          refine AllReadyH.cons (o := { dst := some 13, op := Op.call { callee := Callee.value (Operand.func 38), args := #[Operand.tmp 12], argTypes := #[38] }, type := 4, pos := "l06_links.go:62", after := #[{ on := 0, ground := Ground.data }], guard := none }) rfl (fun K hK => ?_) ?_
          · go_simp
            go_at_call 38
            refine (isValidLink_s ZA ZB ZP ZQ ZR (.slice a0 n0 c0) (.slice a1 n1 c1) (.slice a2 n2 c2) (.slice a3 n3 c3) (.slice a4 n4 c4) (.slice a5 n5 c5) _ (HR.out.below (((Below.refl _ _).alloc (Nat.le_refl _) _).drew))).mono ?_
            rintro e w1 ⟨rfl, hb⟩
            rw [HZK.out]
            have S_2 := Lib.hid (S_1.out.drew.call hb)
            have x0 := S_2.out.cell 0 0 rfl rfl
            have x1 := S_2.out.cell 0 1 rfl rfl
            have x2 := S_2.out.cell 0 2 rfl rfl
            have x3 := S_2.out.cell 0 3 rfl rfl
            have x4 := S_2.out.cell 0 4 rfl rfl
            have x5 := S_2.out.cell 0 5 rfl rfl
            have x6 := S_2.out.cell 0 6 rfl rfl
            have x7 := S_2.out.cell 0 7 rfl rfl
            have x8 := S_2.out.cell 0 8 rfl rfl
            have x9 := S_2.out.cell 0 9 rfl rfl
            have x10 := S_2.out.cell 0 10 rfl rfl
            clear hb
            refine hK.out _ _ ?_ (fun hHeld1 => ?_)
            · try dsimp only
              go_keep
            clear hK K
            try simp only [Act.put, List.setIfInBounds_toArray, List.set_cons_zero, List.set_cons_succ]
            refine wpAnyH_take (i := 2) (oi := { dst := some 14, op := Op.unOp UnOp.not 4 (Operand.tmp 13), type := 4, pos := "l06_links.go:62", after := #[{ on := 1, ground := Ground.data }], guard := none }) (v := ?_) rfl (by kernel_rfl) (by kernel_rfl) (by kernel_rfl) (fun _ _ _ h => h) (Or.inl ⟨by rfl, ?_⟩) (by assumption) ?_
            rotate_left
            · intro w9 hSw
              try dsimp only at hSw
              go_simp
              try with_reducible rfl
            try simp only [Act.put, List.setIfInBounds_toArray, List.set_cons_zero, List.set_cons_succ]
            refine wpAnyH_take (i := 3) (oi := { dst := some 15, op := Op.move (Operand.tmp 14), type := 4, pos := "l06_links.go:62", after := #[{ on := 2, ground := Ground.data }, { on := 1, ground := Ground.chain }], guard := none }) (v := ?_) rfl (by kernel_rfl) (by kernel_rfl) (by kernel_rfl) (fun _ _ _ h => h) (Or.inl ⟨by rfl, ?_⟩) (by assumption) ?_
            rotate_left
            · intro w9 hSw
              try dsimp only at hSw
              go_simp
              try with_reducible rfl
            try simp only [Act.put, List.setIfInBounds_toArray, List.set_cons_zero, List.set_cons_succ]
            refine wpAnyH_take (i := 4) (oi := { dst := some 16, op := Op.move (Operand.tmp 3), type := 3, pos := "l06_links.go:62", after := #[{ on := 3, ground := Ground.guard }], guard := some (3, false) }) (v := ?_) rfl (by kernel_rfl) (by kernel_rfl) (by kernel_rfl) (fun _ _ _ h => h) (Or.inl ⟨by rfl, ?_⟩) (by assumption) ?_
            rotate_left
            · intro w9 hSw
              try dsimp only at hSw
              go_simp
              try with_reducible rfl
            try simp only [Act.put, List.setIfInBounds_toArray, List.set_cons_zero, List.set_cons_succ]
            refine wpAnyH_take (i := 5) (oi := { dst := some 17, op := Op.binOp BinOp.gtr 3 (Operand.tmp 16) (Operand.const (Value.int IntKind.i64 0)) 3, type := 4, pos := "l06_links.go:62", after := #[{ on := 4, ground := Ground.data }, { on := 3, ground := Ground.guard }], guard := some (3, false) }) (v := ?_) rfl (by kernel_rfl) (by kernel_rfl) (by kernel_rfl) (fun _ _ _ h => h) (Or.inl ⟨by rfl, ?_⟩) (by assumption) ?_
            rotate_left
            · intro w9 hSw
              try dsimp only at hSw
              go_simp
              try with_reducible rfl
            try simp only [Act.put, List.setIfInBounds_toArray, List.set_cons_zero, List.set_cons_succ]
            refine wpAnyH_take (i := 6) (oi := { dst := some 18, op := Op.move (Operand.tmp 17), type := 4, pos := "l06_links.go:62", after := #[{ on := 5, ground := Ground.data }, { on := 3, ground := Ground.chain }, { on := 3, ground := Ground.guard }], guard := some (3, false) }) (v := ?_) rfl (by kernel_rfl) (by kernel_rfl) (by kernel_rfl) (fun _ _ _ h => h) (Or.inl ⟨by rfl, ?_⟩) (by assumption) ?_
            rotate_left
            · intro w9 hSw
              try dsimp only at hSw
              go_simp
              try with_reducible rfl
            try simp only [Act.put, List.setIfInBounds_toArray, List.set_cons_zero, List.set_cons_succ]
            refine wpAnyH_take (i := 7) (oi := { dst := some 19, op := Op.move (Operand.tmp 0), type := 53, pos := "l06_links.go:62", after := #[{ on := 6, ground := Ground.guard }], guard := some (6, true) }) (v := undef) rfl (by kernel_rfl) (by kernel_rfl) (by kernel_rfl) (fun _ _ _ h => h) (Or.inr ⟨by rfl, rfl⟩) (by assumption) ?_
            try simp only [Act.put, List.setIfInBounds_toArray, List.set_cons_zero, List.set_cons_succ]
            refine wpAnyH_take (i := 8) (oi := { dst := some 20, op := Op.move (Operand.tmp 3), type := 3, pos := "l06_links.go:62", after := #[{ on := 6, ground := Ground.guard }], guard := some (6, true) }) (v := undef) rfl (by kernel_rfl) (by kernel_rfl) (by kernel_rfl) (fun _ _ _ h => h) (Or.inr ⟨by rfl, rfl⟩) (by assumption) ?_
            try simp only [Act.put, List.setIfInBounds_toArray, List.set_cons_zero, List.set_cons_succ]
            refine wpAnyH_take (i := 12) (oi := { dst := some 24, op := Op.load 38 (Operand.tmp 4), type := 38, pos := "l06_links.go:62", after := #[{ on := 6, ground := Ground.guard }], guard := some (6, true) }) (v := undef) rfl (by kernel_rfl) (by kernel_rfl) (by kernel_rfl) (fun _ _ _ h => h) (Or.inr ⟨by rfl, rfl⟩) (by assumption) ?_
            try simp only [Act.put, List.setIfInBounds_toArray, List.set_cons_zero, List.set_cons_succ]
            refine wpAnyH_take (i := 9) (oi := { dst := some 21, op := Op.binOp BinOp.sub 3 (Operand.tmp 20) (Operand.const (Value.int IntKind.i64 1)) 3, type := 3, pos := "l06_links.go:62", after := #[{ on := 8, ground := Ground.data }, { on := 6, ground := Ground.guard }], guard := some (6, true) }) (v := undef) rfl (by kernel_rfl) (by kernel_rfl) (by kernel_rfl) (fun _ _ _ h => h) (Or.inr ⟨by rfl, rfl⟩) (by assumption) ?_
            try simp only [Act.put, List.setIfInBounds_toArray, List.set_cons_zero, List.set_cons_succ]
            refine wpAnyH_take (i := 10) (oi := { dst := some 22, op := Op.indexAddr 53 (Operand.tmp 19) (Operand.tmp 21), type := 0, pos := "l06_links.go:62", after := #[{ on := 7, ground := Ground.data }, { on := 9, ground := Ground.data }, { on := 6, ground := Ground.guard }], guard := some (6, true) }) (v := undef) rfl (by kernel_rfl) (by kernel_rfl) (by kernel_rfl) (fun _ _ _ h => h) (Or.inr ⟨by rfl, rfl⟩) (by assumption) ?_
            try simp only [Act.put, List.setIfInBounds_toArray, List.set_cons_zero, List.set_cons_succ]
            refine wpAnyH_take (i := 11) (oi := { dst := some 23, op := Op.load 38 (Operand.tmp 22), type := 38, pos := "l06_links.go:62", after := #[{ on := 10, ground := Ground.data }, { on := 6, ground := Ground.guard }], guard := some (6, true) }) (v := undef) rfl (by kernel_rfl) (by kernel_rfl) (by kernel_rfl) (fun _ _ _ h => h) (Or.inr ⟨by rfl, rfl⟩) (by assumption) ?_
            try simp only [Act.put, List.setIfInBounds_toArray, List.set_cons_zero, List.set_cons_succ]
            refine wpAnyH_ready (rs := [13]) (by kernel_rfl) (by simp) ?_
            refine AllReadyH.cons (o := { dst := some 25, op := Op.call { callee := Callee.value (Operand.func 83), args := #[Operand.tmp 23, Operand.tmp 24], argTypes := #[38, 38] }, type := 4, pos := "l06_links.go:62", after := #[{ on := 11, ground := Ground.data }, { on := 12, ground := Ground.data }, { on := 6, ground := Ground.chain }, { on := 6, ground := Ground.guard }], guard := some (6, true) }) rfl (fun K hK => ?_) ?_
            · go_simp
              refine hK.out _ _ ?_ (fun hHeld13 => ?_)
              · try dsimp only
                go_keep
              clear hK K
              try simp only [Act.put, List.setIfInBounds_toArray, List.set_cons_zero, List.set_cons_succ]
              refine wpAnyH_take (i := 14) (oi := { dst := some 26, op := Op.unOp UnOp.not 4 (Operand.tmp 25), type := 4, pos := "l06_links.go:62", after := #[{ on := 13, ground := Ground.data }, { on := 6, ground := Ground.guard }], guard := some (6, true) }) (v := undef) rfl (by kernel_rfl) (by kernel_rfl) (by kernel_rfl) (fun _ _ _ h => h) (Or.inr ⟨by rfl, rfl⟩) (by assumption) ?_
              try simp only [Act.put, List.setIfInBounds_toArray, List.set_cons_zero, List.set_cons_succ]
              refine wpAnyH_take (i := 15) (oi := { dst := some 27, op := Op.pick (Operand.tmp 18) (Operand.tmp 26) (Operand.const (Value.bool false)), type := 4, pos := "l06_links.go:62", after := #[{ on := 6, ground := Ground.data }, { on := 14, ground := Ground.data }, { on := 3, ground := Ground.guard }], guard := some (3, false) }) (v := ?_) rfl (by kernel_rfl) (by kernel_rfl) (by kernel_rfl) (fun _ _ _ h => h) (Or.inl ⟨by rfl, ?_⟩) (by assumption) ?_
              rotate_left
              · intro w9 hSw
                try dsimp only at hSw
                go_simp
                try with_reducible rfl
              try simp only [Act.put, List.setIfInBounds_toArray, List.set_cons_zero, List.set_cons_succ]
              refine wpAnyH_take (i := 16) (oi := { dst := some 28, op := Op.pick (Operand.tmp 15) (Operand.const (Value.bool true)) (Operand.tmp 27), type := 4, pos := "l06_links.go:62", after := #[{ on := 3, ground := Ground.data }, { on := 15, ground := Ground.data }], guard := none }) (v := ?_) rfl (by kernel_rfl) (by kernel_rfl) (by kernel_rfl) (fun _ _ _ h => h) (Or.inl ⟨by rfl, ?_⟩) (by assumption) ?_
              rotate_left
              · intro w9 hSw
                try dsimp only at hSw
                go_simp
                try with_reducible rfl
              try simp only [Act.put, List.setIfInBounds_toArray, List.set_cons_zero, List.set_cons_succ]
              refine wpAnyH_done (by kernel_rfl) ?_ _
              refine NoPanic.normal ?_
              go_wp2
              exact ⟨⟨1, by omega, by first | rfl | go_num, HV2.out, asc_le (Nat.le_refl _), HB.out.trans (S_2.out.below.mono HB.out.size)⟩, by simp [intOf]; omega⟩
            exact AllReadyH.nil
          exact AllReadyH.nil
        · rw [Bool.not_eq_true] at hzk
          have HZK := Lib.hid hzk
          have HE := Lib.hid (show false = ok by rw [← HOK.out]; exact (okSet_bad HZ.out hzk).symm)
          clear hzk
          go_wp2
          refine wp_region_noPanic ?_
          refine wp_region_held_drew (S := (fun w' => w'.cell? ⟨wr.heap.size, 0, none⟩ = some (.int .i64 ZA) ∧ w'.cell? ⟨wr.heap.size, 1, none⟩ = some (.int .i64 ZB) ∧ w'.cell? ⟨wr.heap.size, 2, none⟩ = some (.bool ZP.s) ∧ w'.cell? ⟨wr.heap.size, 3, none⟩ = some ((.slice a0 n0 c0)) ∧ w'.cell? ⟨wr.heap.size, 4, none⟩ = some ((.slice a1 n1 c1)) ∧ w'.cell? ⟨wr.heap.size, 5, none⟩ = some (.bool ZQ.s) ∧ w'.cell? ⟨wr.heap.size, 6, none⟩ = some ((.slice a2 n2 c2)) ∧ w'.cell? ⟨wr.heap.size, 7, none⟩ = some ((.slice a3 n3 c3)) ∧ w'.cell? ⟨wr.heap.size, 8, none⟩ = some (.bool ZR.s) ∧ w'.cell? ⟨wr.heap.size, 9, none⟩ = some ((.slice a4 n4 c4)) ∧ w'.cell? ⟨wr.heap.size, 10, none⟩ = some ((.slice a5 n5 c5)))) (by kernel_rfl) ?_ (fun hHeld => ?_)
          · try dsimp only
            go_keep
          refine wpAnyH_take (i := 0) (oi := { dst := some 12, op := Op.load 38 (Operand.tmp 4), type := 38, pos := "l06_links.go:62", after := #[], guard := none }) (v := ?_) rfl (by kernel_rfl) (by kernel_rfl) (by kernel_rfl) (fun _ _ _ h => h) (Or.inl ⟨by rfl, ?_⟩) (by assumption) ?_
          rotate_left
          · intro w9 hSw
            try dsimp only at hSw
            go_simp
            try with_reducible rfl
          try simp only [Act.put, List.setIfInBounds_toArray, List.set_cons_zero, List.set_cons_succ]
          refine wpAnyH_ready (rs := [1]) (by kernel_rfl) (by simp) ?_
          refine AllReadyH.cons (o := { dst := some 13, op := Op.call { callee := Callee.value (Operand.func 38), args := #[Operand.tmp 12], argTypes := #[38] }, type := 4, pos := "l06_links.go:62", after := #[{ on := 0, ground := Ground.data }], guard := none }) rfl (fun K hK => ?_) ?_
          · go_simp
            go_at_call 38
            refine (isValidLink_s ZA ZB ZP ZQ ZR (.slice a0 n0 c0) (.slice a1 n1 c1) (.slice a2 n2 c2) (.slice a3 n3 c3) (.slice a4 n4 c4) (.slice a5 n5 c5) _ (HR.out.below (((Below.refl _ _).alloc (Nat.le_refl _) _).drew))).mono ?_
            rintro e w1 ⟨rfl, hb⟩
            rw [HZK.out]
            have S_2 := Lib.hid (S_1.out.drew.call hb)
            have x0 := S_2.out.cell 0 0 rfl rfl
            have x1 := S_2.out.cell 0 1 rfl rfl
            have x2 := S_2.out.cell 0 2 rfl rfl
            have x3 := S_2.out.cell 0 3 rfl rfl
            have x4 := S_2.out.cell 0 4 rfl rfl
            have x5 := S_2.out.cell 0 5 rfl rfl
            have x6 := S_2.out.cell 0 6 rfl rfl
            have x7 := S_2.out.cell 0 7 rfl rfl
            have x8 := S_2.out.cell 0 8 rfl rfl
            have x9 := S_2.out.cell 0 9 rfl rfl
            have x10 := S_2.out.cell 0 10 rfl rfl
            clear hb
            refine hK.out _ _ ?_ (fun hHeld1 => ?_)
            · try dsimp only
              go_keep
            clear hK K
            try simp only [Act.put, List.setIfInBounds_toArray, List.set_cons_zero, List.set_cons_succ]
            refine wpAnyH_take (i := 2) (oi := { dst := some 14, op := Op.unOp UnOp.not 4 (Operand.tmp 13), type := 4, pos := "l06_links.go:62", after := #[{ on := 1, ground := Ground.data }], guard := none }) (v := ?_) rfl (by kernel_rfl) (by kernel_rfl) (by kernel_rfl) (fun _ _ _ h => h) (Or.inl ⟨by rfl, ?_⟩) (by assumption) ?_
            rotate_left
            · intro w9 hSw
              try dsimp only at hSw
              go_simp
              try with_reducible rfl
            try simp only [Act.put, List.setIfInBounds_toArray, List.set_cons_zero, List.set_cons_succ]
            refine wpAnyH_take (i := 3) (oi := { dst := some 15, op := Op.move (Operand.tmp 14), type := 4, pos := "l06_links.go:62", after := #[{ on := 2, ground := Ground.data }, { on := 1, ground := Ground.chain }], guard := none }) (v := ?_) rfl (by kernel_rfl) (by kernel_rfl) (by kernel_rfl) (fun _ _ _ h => h) (Or.inl ⟨by rfl, ?_⟩) (by assumption) ?_
            rotate_left
            · intro w9 hSw
              try dsimp only at hSw
              go_simp
              try with_reducible rfl
            try simp only [Act.put, List.setIfInBounds_toArray, List.set_cons_zero, List.set_cons_succ]
            refine wpAnyH_take (i := 4) (oi := { dst := some 16, op := Op.move (Operand.tmp 3), type := 3, pos := "l06_links.go:62", after := #[{ on := 3, ground := Ground.guard }], guard := some (3, false) }) (v := undef) rfl (by kernel_rfl) (by kernel_rfl) (by kernel_rfl) (fun _ _ _ h => h) (Or.inr ⟨by rfl, rfl⟩) (by assumption) ?_
            try simp only [Act.put, List.setIfInBounds_toArray, List.set_cons_zero, List.set_cons_succ]
            refine wpAnyH_take (i := 5) (oi := { dst := some 17, op := Op.binOp BinOp.gtr 3 (Operand.tmp 16) (Operand.const (Value.int IntKind.i64 0)) 3, type := 4, pos := "l06_links.go:62", after := #[{ on := 4, ground := Ground.data }, { on := 3, ground := Ground.guard }], guard := some (3, false) }) (v := undef) rfl (by kernel_rfl) (by kernel_rfl) (by kernel_rfl) (fun _ _ _ h => h) (Or.inr ⟨by rfl, rfl⟩) (by assumption) ?_
            try simp only [Act.put, List.setIfInBounds_toArray, List.set_cons_zero, List.set_cons_succ]
            refine wpAnyH_take (i := 6) (oi := { dst := some 18, op := Op.move (Operand.tmp 17), type := 4, pos := "l06_links.go:62", after := #[{ on := 5, ground := Ground.data }, { on := 3, ground := Ground.chain }, { on := 3, ground := Ground.guard }], guard := some (3, false) }) (v := undef) rfl (by kernel_rfl) (by kernel_rfl) (by kernel_rfl) (fun _ _ _ h => h) (Or.inr ⟨by rfl, rfl⟩) (by assumption) ?_
            try simp only [Act.put, List.setIfInBounds_toArray, List.set_cons_zero, List.set_cons_succ]
            refine wpAnyH_take (i := 7) (oi := { dst := some 19, op := Op.move (Operand.tmp 0), type := 53, pos := "l06_links.go:62", after := #[{ on := 6, ground := Ground.guard }], guard := some (6, true) }) (v := undef) rfl (by kernel_rfl) (by kernel_rfl) (by kernel_rfl) (fun _ _ _ h => h) (Or.inr ⟨by rfl, rfl⟩) (by assumption) ?_
            try simp only [Act.put, List.setIfInBounds_toArray, List.set_cons_zero, List.set_cons_succ]
            refine wpAnyH_take (i := 8) (oi := { dst := some 20, op := Op.move (Operand.tmp 3), type := 3, pos := "l06_links.go:62", after := #[{ on := 6, ground := Ground.guard }], guard := some (6, true) }) (v := undef) rfl (by kernel_rfl) (by kernel_rfl) (by kernel_rfl) (fun _ _ _ h => h) (Or.inr ⟨by rfl, rfl⟩) (by assumption) ?_
            try simp only [Act.put, List.setIfInBounds_toArray, List.set_cons_zero, List.set_cons_succ]
            refine wpAnyH_take (i := 12) (oi := { dst := some 24, op := Op.load 38 (Operand.tmp 4), type := 38, pos := "l06_links.go:62", after := #[{ on := 6, ground := Ground.guard }], guard := some (6, true) }) (v := undef) rfl (by kernel_rfl) (by kernel_rfl) (by kernel_rfl) (fun _ _ _ h => h) (Or.inr ⟨by rfl, rfl⟩) (by assumption) ?_
            try simp only [Act.put, List.setIfInBounds_toArray, List.set_cons_zero, List.set_cons_succ]
            refine wpAnyH_take (i := 9) (oi := { dst := some 21, op := Op.binOp BinOp.sub 3 (Operand.tmp 20) (Operand.const (Value.int IntKind.i64 1)) 3, type := 3, pos := "l06_links.go:62", after := #[{ on := 8, ground := Ground.data }, { on := 6, ground := Ground.guard }], guard := some (6, true) }) (v := undef) rfl (by kernel_rfl) (by kernel_rfl) (by kernel_rfl) (fun _ _ _ h => h) (Or.inr ⟨by rfl, rfl⟩) (by assumption) ?_
            try simp only [Act.put, List.setIfInBounds_toArray, List.set_cons_zero, List.set_cons_succ]
            refine wpAnyH_take (i := 10) (oi := { dst := some 22, op := Op.indexAddr 53 (Operand.tmp 19) (Operand.tmp 21), type := 0, pos := "l06_links.go:62", after := #[{ on := 7, ground := Ground.data }, { on := 9, ground := Ground.data }, { on := 6, ground := Ground.guard }], guard := some (6, true) }) (v := undef) rfl (by kernel_rfl) (by kernel_rfl) (by kernel_rfl) (fun _ _ _ h => h) (Or.inr ⟨by rfl, rfl⟩) (by assumption) ?_
            try simp only [Act.put, List.setIfInBounds_toArray, List.set_cons_zero, List.set_cons_succ]
            refine wpAnyH_take (i := 11) (oi := { dst := some 23, op := Op.load 38 (Operand.tmp 22), type := 38, pos := "l06_links.go:62", after := #[{ on := 10, ground := Ground.data }, { on := 6, ground := Ground.guard }], guard := some (6, true) }) (v := undef) rfl (by kernel_rfl) (by kernel_rfl) (by kernel_rfl) (fun _ _ _ h => h) (Or.inr ⟨by rfl, rfl⟩) (by assumption) ?_
            try simp only [Act.put, List.setIfInBounds_toArray, List.set_cons_zero, List.set_cons_succ]
            refine wpAnyH_ready (rs := [13]) (by kernel_rfl) (by simp) ?_
            refine AllReadyH.cons (o := { dst := some 25, op := Op.call { callee := Callee.value (Operand.func 83), args := #[Operand.tmp 23, Operand.tmp 24], argTypes := #[38, 38] }, type := 4, pos := "l06_links.go:62", after := #[{ on := 11, ground := Ground.data }, { on := 12, ground := Ground.data }, { on := 6, ground := Ground.chain }, { on := 6, ground := Ground.guard }], guard := some (6, true) }) rfl (fun K hK => ?_) ?_
            · go_simp
              refine hK.out _ _ ?_ (fun hHeld13 => ?_)
              · try dsimp only
                go_keep
              clear hK K
              try simp only [Act.put, List.setIfInBounds_toArray, List.set_cons_zero, List.set_cons_succ]
              refine wpAnyH_take (i := 14) (oi := { dst := some 26, op := Op.unOp UnOp.not 4 (Operand.tmp 25), type := 4, pos := "l06_links.go:62", after := #[{ on := 13, ground := Ground.data }, { on := 6, ground := Ground.guard }], guard := some (6, true) }) (v := undef) rfl (by kernel_rfl) (by kernel_rfl) (by kernel_rfl) (fun _ _ _ h => h) (Or.inr ⟨by rfl, rfl⟩) (by assumption) ?_
              try simp only [Act.put, List.setIfInBounds_toArray, List.set_cons_zero, List.set_cons_succ]
              refine wpAnyH_take (i := 15) (oi := { dst := some 27, op := Op.pick (Operand.tmp 18) (Operand.tmp 26) (Operand.const (Value.bool false)), type := 4, pos := "l06_links.go:62", after := #[{ on := 6, ground := Ground.data }, { on := 14, ground := Ground.data }, { on := 3, ground := Ground.guard }], guard := some (3, false) }) (v := undef) rfl (by kernel_rfl) (by kernel_rfl) (by kernel_rfl) (fun _ _ _ h => h) (Or.inr ⟨by rfl, rfl⟩) (by assumption) ?_
              try simp only [Act.put, List.setIfInBounds_toArray, List.set_cons_zero, List.set_cons_succ]
              refine wpAnyH_take (i := 16) (oi := { dst := some 28, op := Op.pick (Operand.tmp 15) (Operand.const (Value.bool true)) (Operand.tmp 27), type := 4, pos := "l06_links.go:62", after := #[{ on := 3, ground := Ground.data }, { on := 15, ground := Ground.data }], guard := none }) (v := ?_) rfl (by kernel_rfl) (by kernel_rfl) (by kernel_rfl) (fun _ _ _ h => h) (Or.inl ⟨by rfl, ?_⟩) (by assumption) ?_
              rotate_left
              · intro w9 hSw
                try dsimp only at hSw
                go_simp
                try with_reducible rfl
              try simp only [Act.put, List.setIfInBounds_toArray, List.set_cons_zero, List.set_cons_succ]
              refine wpAnyH_done (by kernel_rfl) ?_ _
              refine NoPanic.normal ?_
              go_wp2
              go_ret
              exact ⟨ret_bool HE.out, HB.out.trans (S_2.out.below.mono HB.out.size)⟩
            exact AllReadyH.nil
          exact AllReadyH.nil
      | succ k =>
        obtain ⟨g', o', y, hgo, _, hy, hry, hcy⟩ := (HA.out.below HB.out).at_ (show k < n by omega)
        obtain ⟨rfl, rfl⟩ : g = g' ∧ o = o' := by simpa using hgo
        obtain ⟨YA, YB, YP, YQ, YR, b0, m0, e0, b1, m1, e1, b2, m2, e2, b3, m3, e3, b4, m4, e4, b5, m5, e5, rfl⟩ := LArg.shapes hry
        have HY := Lib.hid hy
        have y0 : wr.cell? ⟨g, o + k * 11, none⟩ = some (.int .i64 YA) := hcy 0 _ rfl
        have y1 : wr.cell? ⟨g, o + k * 11 + 1, none⟩ = some (.int .i64 YB) := hcy 1 _ rfl
        have y2 : wr.cell? ⟨g, o + k * 11 + 2, none⟩ = some (.bool YP.s) := hcy 2 _ rfl
        have y3 : wr.cell? ⟨g, o + k * 11 + 3, none⟩ = some ((.slice b0 m0 e0)) := hcy 3 _ rfl
        have y4 : wr.cell? ⟨g, o + k * 11 + 4, none⟩ = some ((.slice b1 m1 e1)) := hcy 4 _ rfl
        have y5 : wr.cell? ⟨g, o + k * 11 + 5, none⟩ = some (.bool YQ.s) := hcy 5 _ rfl
        have y6 : wr.cell? ⟨g, o + k * 11 + 6, none⟩ = some ((.slice b2 m2 e2)) := hcy 6 _ rfl
        have y7 : wr.cell? ⟨g, o + k * 11 + 7, none⟩ = some ((.slice b3 m3 e3)) := hcy 7 _ rfl
        have y8 : wr.cell? ⟨g, o + k * 11 + 8, none⟩ = some (.bool YR.s) := hcy 8 _ rfl
        have y9 : wr.cell? ⟨g, o + k * 11 + 9, none⟩ = some ((.slice b4 m4 e4)) := hcy 9 _ rfl
        have y10 : wr.cell? ⟨g, o + k * 11 + 10, none⟩ = some ((.slice b5 m5 e5)) := hcy 10 _ rfl
        have d0 : wr.cell? ⟨g, o + (k + 1) * 11, none⟩ = some (.int .i64 ZA) := hc 0 _ rfl
        have d1 : wr.cell? ⟨g, o + (k + 1) * 11 + 1, none⟩ = some (.int .i64 ZB) := hc 1 _ rfl
        have d2 : wr.cell? ⟨g, o + (k + 1) * 11 + 2, none⟩ = some (.bool ZP.s) := hc 2 _ rfl
        have d3 : wr.cell? ⟨g, o + (k + 1) * 11 + 3, none⟩ = some ((.slice a0 n0 c0)) := hc 3 _ rfl
        have d4 : wr.cell? ⟨g, o + (k + 1) * 11 + 4, none⟩ = some ((.slice a1 n1 c1)) := hc 4 _ rfl
        have d5 : wr.cell? ⟨g, o + (k + 1) * 11 + 5, none⟩ = some (.bool ZQ.s) := hc 5 _ rfl
        have d6 : wr.cell? ⟨g, o + (k + 1) * 11 + 6, none⟩ = some ((.slice a2 n2 c2)) := hc 6 _ rfl
        have d7 : wr.cell? ⟨g, o + (k + 1) * 11 + 7, none⟩ = some ((.slice a3 n3 c3)) := hc 7 _ rfl
        have d8 : wr.cell? ⟨g, o + (k + 1) * 11 + 8, none⟩ = some (.bool ZR.s) := hc 8 _ rfl
        have d9 : wr.cell? ⟨g, o + (k + 1) * 11 + 9, none⟩ = some ((.slice a4 n4 c4)) := hc 9 _ rfl
        have d10 : wr.cell? ⟨g, o + (k + 1) * 11 + 10, none⟩ = some ((.slice a5 n5 c5)) := hc 10 _ rfl
        clear hz hr hc hy hry hcy hgo
        have hk0 : (0 : Int) ≤ (k : Int) := by omega
        have hk2 : (k : Int) < (n : Int) := by omega
        have hk6 : IntKind.i64.wrap (k : Int) = (k : Int) := by rw [IntKind.wrap_i64]; omega
        have hk7 : IntKind.i64.wrap ((k : Int) + 1 - 1) = (k : Int) := by rw [IntKind.wrap_i64]; omega
        have hk8 : (k : Int) + 1 < (n : Int) := by omega
        have hk9 : (0 : Int) < (k : Int) + 1 := by omega
        have hk5 : (0 : Int) ≤ (k : Int) + 1 := by omega
        by_cases hzk : okK ZA ZB ZP ZQ ZR = true
        · have HZK := Lib.hid hzk
          have HV2 := Lib.hid (valid_step HV.out HZ.out hzk)
          clear hzk
          by_cases hls : lessK YA YB ZA ZB = true
          · have HLS := Lib.hid hls
            have HA2 := Lib.hid (asc_step HAS.out HY.out HZ.out hls)
            clear hls
            go_wp2
            first | (go_region_held3 (fun w' => w'.cell? ⟨wr.heap.size, 0, none⟩ = some (.int .i64 ZA) ∧ w'.cell? ⟨wr.heap.size, 1, none⟩ = some (.int .i64 ZB) ∧ w'.cell? ⟨wr.heap.size, 2, none⟩ = some (.bool ZP.s) ∧ w'.cell? ⟨wr.heap.size, 3, none⟩ = some ((.slice a0 n0 c0)) ∧ w'.cell? ⟨wr.heap.size, 4, none⟩ = some ((.slice a1 n1 c1)) ∧ w'.cell? ⟨wr.heap.size, 5, none⟩ = some (.bool ZQ.s) ∧ w'.cell? ⟨wr.heap.size, 6, none⟩ = some ((.slice a2 n2 c2)) ∧ w'.cell? ⟨wr.heap.size, 7, none⟩ = some ((.slice a3 n3 c3)) ∧ w'.cell? ⟨wr.heap.size, 8, none⟩ = some (.bool ZR.s) ∧ w'.cell? ⟨wr.heap.size, 9, none⟩ = some ((.slice a4 n4 c4)) ∧ w'.cell? ⟨wr.heap.size, 10, none⟩ = some ((.slice a5 n5 c5)) ∧ w'.cell? ⟨g, o + k * 11, none⟩ = some (.int .i64 YA) ∧ w'.cell? ⟨g, o + k * 11 + 1, none⟩ = some (.int .i64 YB) ∧ w'.cell? ⟨g, o + k * 11 + 2, none⟩ = some (.bool YP.s) ∧ w'.cell? ⟨g, o + k * 11 + 3, none⟩ = some ((.slice b0 m0 e0)) ∧ w'.cell? ⟨g, o + k * 11 + 4, none⟩ = some ((.slice b1 m1 e1)) ∧ w'.cell? ⟨g, o + k * 11 + 5, none⟩ = some (.bool YQ.s) ∧ w'.cell? ⟨g, o + k * 11 + 6, none⟩ = some ((.slice b2 m2 e2)) ∧ w'.cell? ⟨g, o + k * 11 + 7, none⟩ = some ((.slice b3 m3 e3)) ∧ w'.cell? ⟨g, o + k * 11 + 8, none⟩ = some (.bool YR.s) ∧ w'.cell? ⟨g, o + k * 11 + 9, none⟩ = some ((.slice b4 m4 e4)) ∧ w'.cell? ⟨g, o + k * 11 + 10, none⟩ = some ((.slice b5 m5 e5))) (go_keep)
              (first
                | (go_at_call 38
                   refine (isValidLink_s ZA ZB ZP ZQ ZR (.slice a0 n0 c0) (.slice a1 n1 c1) (.slice a2 n2 c2) (.slice a3 n3 c3) (.slice a4 n4 c4) (.slice a5 n5 c5) _ (HR.out.below (((Below.refl _ _).alloc (Nat.le_refl _) _).drew))).mono ?_
                   rintro e w1 ⟨rfl, hb⟩
                   rw [HZK.out]
                   have S_2 := Lib.hid (S_1.out.drew.call hb)
                   have x0 := S_2.out.cell 0 0 rfl rfl
                   have x1 := S_2.out.cell 0 1 rfl rfl
                   have x2 := S_2.out.cell 0 2 rfl rfl
                   have x3 := S_2.out.cell 0 3 rfl rfl
                   have x4 := S_2.out.cell 0 4 rfl rfl
                   have x5 := S_2.out.cell 0 5 rfl rfl
                   have x6 := S_2.out.cell 0 6 rfl rfl
                   have x7 := S_2.out.cell 0 7 rfl rfl
                   have x8 := S_2.out.cell 0 8 rfl rfl
                   have x9 := S_2.out.cell 0 9 rfl rfl
                   have x10 := S_2.out.cell 0 10 rfl rfl
                   have v0 := (S_2.out.below.cell (p := ⟨g, o + k * 11, none⟩) hg).trans y0
                   have v1 := (S_2.out.below.cell (p := ⟨g, o + k * 11 + 1, none⟩) hg).trans y1
                   have v2 := (S_2.out.below.cell (p := ⟨g, o + k * 11 + 2, none⟩) hg).trans y2
                   have v3 := (S_2.out.below.cell (p := ⟨g, o + k * 11 + 3, none⟩) hg).trans y3
                   have v4 := (S_2.out.below.cell (p := ⟨g, o + k * 11 + 4, none⟩) hg).trans y4
                   have v5 := (S_2.out.below.cell (p := ⟨g, o + k * 11 + 5, none⟩) hg).trans y5
                   have v6 := (S_2.out.below.cell (p := ⟨g, o + k * 11 + 6, none⟩) hg).trans y6
                   have v7 := (S_2.out.below.cell (p := ⟨g, o + k * 11 + 7, none⟩) hg).trans y7
                   have v8 := (S_2.out.below.cell (p := ⟨g, o + k * 11 + 8, none⟩) hg).trans y8
                   have v9 := (S_2.out.below.cell (p := ⟨g, o + k * 11 + 9, none⟩) hg).trans y9
                   have v10 := (S_2.out.below.cell (p := ⟨g, o + k * 11 + 10, none⟩) hg).trans y10
                   clear hb)
                | (go_at_call 83
                   refine (l06Less_f YA YB YP YQ YR (.slice b0 m0 e0) (.slice b1 m1 e1) (.slice b2 m2 e2) (.slice b3 m3 e3) (.slice b4 m4 e4) (.slice b5 m5 e5) ZA ZB ZP ZQ ZR (.slice a0 n0 c0) (.slice a1 n1 c1) (.slice a2 n2 c2) (.slice a3 n3 c3) (.slice a4 n4 c4) (.slice a5 n5 c5) _).mono ?_
                   rintro e w2 ⟨rfl, hb⟩
                   rw [HLS.out]
                   have S_3 := Lib.hid (S_2.out.call hb)
                   have x20 := S_3.out.cell 0 0 rfl rfl
                   have x21 := S_3.out.cell 0 1 rfl rfl
                   have x22 := S_3.out.cell 0 2 rfl rfl
                   have x23 := S_3.out.cell 0 3 rfl rfl
                   have x24 := S_3.out.cell 0 4 rfl rfl
                   have x25 := S_3.out.cell 0 5 rfl rfl
                   have x26 := S_3.out.cell 0 6 rfl rfl
                   have x27 := S_3.out.cell 0 7 rfl rfl
                   have x28 := S_3.out.cell 0 8 rfl rfl
                   have x29 := S_3.out.cell 0 9 rfl rfl
                   have x210 := S_3.out.cell 0 10 rfl rfl
                   have u0 := (S_3.out.below.cell (p := ⟨g, o + k * 11, none⟩) hg).trans y0
                   have u1 := (S_3.out.below.cell (p := ⟨g, o + k * 11 + 1, none⟩) hg).trans y1
                   have u2 := (S_3.out.below.cell (p := ⟨g, o + k * 11 + 2, none⟩) hg).trans y2
                   have u3 := (S_3.out.below.cell (p := ⟨g, o + k * 11 + 3, none⟩) hg).trans y3
                   have u4 := (S_3.out.below.cell (p := ⟨g, o + k * 11 + 4, none⟩) hg).trans y4
                   have u5 := (S_3.out.below.cell (p := ⟨g, o + k * 11 + 5, none⟩) hg).trans y5
                   have u6 := (S_3.out.below.cell (p := ⟨g, o + k * 11 + 6, none⟩) hg).trans y6
                   have u7 := (S_3.out.below.cell (p := ⟨g, o + k * 11 + 7, none⟩) hg).trans y7
                   have u8 := (S_3.out.below.cell (p := ⟨g, o + k * 11 + 8, none⟩) hg).trans y8
                   have u9 := (S_3.out.below.cell (p := ⟨g, o + k * 11 + 9, none⟩) hg).trans y9
                   have u10 := (S_3.out.below.cell (p := ⟨g, o + k * 11 + 10, none⟩) hg).trans y10
                   clear hb))) | fail
            all_goals go_wp2
            all_goals exact ⟨⟨k + 2, by omega, by go_num, HV2.out, HA2.out, HB.out.trans (S_3.out.below.mono HB.out.size)⟩, by simp [intOf]; omega⟩
          · rw [Bool.not_eq_true] at hls
            have HLS := Lib.hid hls
            have HE := Lib.hid (show false = ok by rw [← HOK.out]; exact (okSet_no fun h => asc_bad HY.out HZ.out hls h.2).symm)
            clear hls
            go_wp2
            first | (go_region_held3 (fun w' => w'.cell? ⟨wr.heap.size, 0, none⟩ = some (.int .i64 ZA) ∧ w'.cell? ⟨wr.heap.size, 1, none⟩ = some (.int .i64 ZB) ∧ w'.cell? ⟨wr.heap.size, 2, none⟩ = some (.bool ZP.s) ∧ w'.cell? ⟨wr.heap.size, 3, none⟩ = some ((.slice a0 n0 c0)) ∧ w'.cell? ⟨wr.heap.size, 4, none⟩ = some ((.slice a1 n1 c1)) ∧ w'.cell? ⟨wr.heap.size, 5, none⟩ = some (.bool ZQ.s) ∧ w'.cell? ⟨wr.heap.size, 6, none⟩ = some ((.slice a2 n2 c2)) ∧ w'.cell? ⟨wr.heap.size, 7, none⟩ = some ((.slice a3 n3 c3)) ∧ w'.cell? ⟨wr.heap.size, 8, none⟩ = some (.bool ZR.s) ∧ w'.cell? ⟨wr.heap.size, 9, none⟩ = some ((.slice a4 n4 c4)) ∧ w'.cell? ⟨wr.heap.size, 10, none⟩ = some ((.slice a5 n5 c5)) ∧ w'.cell? ⟨g, o + k * 11, none⟩ = some (.int .i64 YA) ∧ w'.cell? ⟨g, o + k * 11 + 1, none⟩ = some (.int .i64 YB) ∧ w'.cell? ⟨g, o + k * 11 + 2, none⟩ = some (.bool YP.s) ∧ w'.cell? ⟨g, o + k * 11 + 3, none⟩ = some ((.slice b0 m0 e0)) ∧ w'.cell? ⟨g, o + k * 11 + 4, none⟩ = some ((.slice b1 m1 e1)) ∧ w'.cell? ⟨g, o + k * 11 + 5, none⟩ = some (.bool YQ.s) ∧ w'.cell? ⟨g, o + k * 11 + 6, none⟩ = some ((.slice b2 m2 e2)) ∧ w'.cell? ⟨g, o + k * 11 + 7, none⟩ = some ((.slice b3 m3 e3)) ∧ w'.cell? ⟨g, o + k * 11 + 8, none⟩ = some (.bool YR.s) ∧ w'.cell? ⟨g, o + k * 11 + 9, none⟩ = some ((.slice b4 m4 e4)) ∧ w'.cell? ⟨g, o + k * 11 + 10, none⟩ = some ((.slice b5 m5 e5))) (go_keep)
              (first
                | (go_at_call 38
                   refine (isValidLink_s ZA ZB ZP ZQ ZR (.slice a0 n0 c0) (.slice a1 n1 c1) (.slice a2 n2 c2) (.slice a3 n3 c3) (.slice a4 n4 c4) (.slice a5 n5 c5) _ (HR.out.below (((Below.refl _ _).alloc (Nat.le_refl _) _).drew))).mono ?_
                   rintro e w1 ⟨rfl, hb⟩
                   rw [HZK.out]
                   have S_2 := Lib.hid (S_1.out.drew.call hb)
                   have x0 := S_2.out.cell 0 0 rfl rfl
                   have x1 := S_2.out.cell 0 1 rfl rfl
                   have x2 := S_2.out.cell 0 2 rfl rfl
                   have x3 := S_2.out.cell 0 3 rfl rfl
                   have x4 := S_2.out.cell 0 4 rfl rfl
                   have x5 := S_2.out.cell 0 5 rfl rfl
                   have x6 := S_2.out.cell 0 6 rfl rfl
                   have x7 := S_2.out.cell 0 7 rfl rfl
                   have x8 := S_2.out.cell 0 8 rfl rfl
                   have x9 := S_2.out.cell 0 9 rfl rfl
                   have x10 := S_2.out.cell 0 10 rfl rfl
                   have v0 := (S_2.out.below.cell (p := ⟨g, o + k * 11, none⟩) hg).trans y0
                   have v1 := (S_2.out.below.cell (p := ⟨g, o + k * 11 + 1, none⟩) hg).trans y1
                   have v2 := (S_2.out.below.cell (p := ⟨g, o + k * 11 + 2, none⟩) hg).trans y2
                   have v3 := (S_2.out.below.cell (p := ⟨g, o + k * 11 + 3, none⟩) hg).trans y3
                   have v4 := (S_2.out.below.cell (p := ⟨g, o + k * 11 + 4, none⟩) hg).trans y4
                   have v5 := (S_2.out.below.cell (p := ⟨g, o + k * 11 + 5, none⟩) hg).trans y5
                   have v6 := (S_2.out.below.cell (p := ⟨g, o + k * 11 + 6, none⟩) hg).trans y6
                   have v7 := (S_2.out.below.cell (p := ⟨g, o + k * 11 + 7, none⟩) hg).trans y7
                   have v8 := (S_2.out.below.cell (p := ⟨g, o + k * 11 + 8, none⟩) hg).trans y8
                   have v9 := (S_2.out.below.cell (p := ⟨g, o + k * 11 + 9, none⟩) hg).trans y9
                   have v10 := (S_2.out.below.cell (p := ⟨g, o + k * 11 + 10, none⟩) hg).trans y10
                   clear hb)
                | (go_at_call 83
                   refine (l06Less_f YA YB YP YQ YR (.slice b0 m0 e0) (.slice b1 m1 e1) (.slice b2 m2 e2) (.slice b3 m3 e3) (.slice b4 m4 e4) (.slice b5 m5 e5) ZA ZB ZP ZQ ZR (.slice a0 n0 c0) (.slice a1 n1 c1) (.slice a2 n2 c2) (.slice a3 n3 c3) (.slice a4 n4 c4) (.slice a5 n5 c5) _).mono ?_
                   rintro e w2 ⟨rfl, hb⟩
                   rw [HLS.out]
                   have S_3 := Lib.hid (S_2.out.call hb)
                   have x20 := S_3.out.cell 0 0 rfl rfl
                   have x21 := S_3.out.cell 0 1 rfl rfl
                   have x22 := S_3.out.cell 0 2 rfl rfl
                   have x23 := S_3.out.cell 0 3 rfl rfl
                   have x24 := S_3.out.cell 0 4 rfl rfl
                   have x25 := S_3.out.cell 0 5 rfl rfl
                   have x26 := S_3.out.cell 0 6 rfl rfl
                   have x27 := S_3.out.cell 0 7 rfl rfl
                   have x28 := S_3.out.cell 0 8 rfl rfl
                   have x29 := S_3.out.cell 0 9 rfl rfl
                   have x210 := S_3.out.cell 0 10 rfl rfl
                   have u0 := (S_3.out.below.cell (p := ⟨g, o + k * 11, none⟩) hg).trans y0
                   have u1 := (S_3.out.below.cell (p := ⟨g, o + k * 11 + 1, none⟩) hg).trans y1
                   have u2 := (S_3.out.below.cell (p := ⟨g, o + k * 11 + 2, none⟩) hg).trans y2
                   have u3 := (S_3.out.below.cell (p := ⟨g, o + k * 11 + 3, none⟩) hg).trans y3
                   have u4 := (S_3.out.below.cell (p := ⟨g, o + k * 11 + 4, none⟩) hg).trans y4
                   have u5 := (S_3.out.below.cell (p := ⟨g, o + k * 11 + 5, none⟩) hg).trans y5
                   have u6 := (S_3.out.below.cell (p := ⟨g, o + k * 11 + 6, none⟩) hg).trans y6
                   have u7 := (S_3.out.below.cell (p := ⟨g, o + k * 11 + 7, none⟩) hg).trans y7
                   have u8 := (S_3.out.below.cell (p := ⟨g, o + k * 11 + 8, none⟩) hg).trans y8
                   have u9 := (S_3.out.below.cell (p := ⟨g, o + k * 11 + 9, none⟩) hg).trans y9
                   have u10 := (S_3.out.below.cell (p := ⟨g, o + k * 11 + 10, none⟩) hg).trans y10
                   clear hb))) | fail
            all_goals go_wp2
            all_goals go_ret
            all_goals exact ⟨ret_bool HE.out, HB.out.trans (S_3.out.below.mono HB.out.size)⟩
        · rw [Bool.not_eq_true] at hzk
          have HZK := Lib.hid hzk
          have HE := Lib.hid (show false = ok by rw [← HOK.out]; exact (okSet_bad HZ.out hzk).symm)
          clear hzk
          go_wp2
          refine wp_region_noPanic ?_
          refine wp_region_held_drew (S := (fun w' => w'.cell? ⟨wr.heap.size, 0, none⟩ = some (.int .i64 ZA) ∧ w'.cell? ⟨wr.heap.size, 1, none⟩ = some (.int .i64 ZB) ∧ w'.cell? ⟨wr.heap.size, 2, none⟩ = some (.bool ZP.s) ∧ w'.cell? ⟨wr.heap.size, 3, none⟩ = some ((.slice a0 n0 c0)) ∧ w'.cell? ⟨wr.heap.size, 4, none⟩ = some ((.slice a1 n1 c1)) ∧ w'.cell? ⟨wr.heap.size, 5, none⟩ = some (.bool ZQ.s) ∧ w'.cell? ⟨wr.heap.size, 6, none⟩ = some ((.slice a2 n2 c2)) ∧ w'.cell? ⟨wr.heap.size, 7, none⟩ = some ((.slice a3 n3 c3)) ∧ w'.cell? ⟨wr.heap.size, 8, none⟩ = some (.bool ZR.s) ∧ w'.cell? ⟨wr.heap.size, 9, none⟩ = some ((.slice a4 n4 c4)) ∧ w'.cell? ⟨wr.heap.size, 10, none⟩ = some ((.slice a5 n5 c5)))) (by kernel_rfl) ?_ (fun hHeld => ?_)
          · try dsimp only
            go_keep
          refine wpAnyH_take (i := 0) (oi := { dst := some 12, op := Op.load 38 (Operand.tmp 4), type := 38, pos := "l06_links.go:62", after := #[], guard := none }) (v := ?_) rfl (by kernel_rfl) (by kernel_rfl) (by kernel_rfl) (fun _ _ _ h => h) (Or.inl ⟨by rfl, ?_⟩) (by assumption) ?_
          rotate_left
          · intro w9 hSw
            try dsimp only at hSw
            go_simp
            try with_reducible rfl
          try simp only [Act.put, List.setIfInBounds_toArray, List.set_cons_zero, List.set_cons_succ]
          refine wpAnyH_ready (rs := [1]) (by kernel_rfl) (by simp) ?_
          refine AllReadyH.cons (o := { dst := some 13, op := Op.call { callee := Callee.value (Operand.func 38), args := #[Operand.tmp 12], argTypes := #[38] }, type := 4, pos := "l06_links.go:62", after := #[{ on := 0, ground := Ground.data }], guard := none }) rfl (fun K hK => ?_) ?_
          · go_simp
            go_at_call 38
            refine (isValidLink_s ZA ZB ZP ZQ ZR (.slice a0 n0 c0) (.slice a1 n1 c1) (.slice a2 n2 c2) (.slice a3 n3 c3) (.slice a4 n4 c4) (.slice a5 n5 c5) _ (HR.out.below (((Below.refl _ _).alloc (Nat.le_refl _) _).drew))).mono ?_
            rintro e w1 ⟨rfl, hb⟩
            rw [HZK.out]
            have S_2 := Lib.hid (S_1.out.drew.call hb)
            have x0 := S_2.out.cell 0 0 rfl rfl
            have x1 := S_2.out.cell 0 1 rfl rfl
            have x2 := S_2.out.cell 0 2 rfl rfl
            have x3 := S_2.out.cell 0 3 rfl rfl
            have x4 := S_2.out.cell 0 4 rfl rfl
            have x5 := S_2.out.cell 0 5 rfl rfl
            have x6 := S_2.out.cell 0 6 rfl rfl
            have x7 := S_2.out.cell 0 7 rfl rfl
            have x8 := S_2.out.cell 0 8 rfl rfl
            have x9 := S_2.out.cell 0 9 rfl rfl
            have x10 := S_2.out.cell 0 10 rfl rfl
            clear hb
            refine hK.out _ _ ?_ (fun hHeld1 => ?_)
            · try dsimp only
              go_keep
            clear hK K
            try simp only [Act.put, List.setIfInBounds_toArray, List.set_cons_zero, List.set_cons_succ]
            refine wpAnyH_take (i := 2) (oi := { dst := some 14, op := Op.unOp UnOp.not 4 (Operand.tmp 13), type := 4, pos := "l06_links.go:62", after := #[{ on := 1, ground := Ground.data }], guard := none }) (v := ?_) rfl (by kernel_rfl) (by kernel_rfl) (by kernel_rfl) (fun _ _ _ h => h) (Or.inl ⟨by rfl, ?_⟩) (by assumption) ?_
            rotate_left
            · intro w9 hSw
              try dsimp only at hSw
              go_simp
              try with_reducible rfl
            try simp only [Act.put, List.setIfInBounds_toArray, List.set_cons_zero, List.set_cons_succ]
            refine wpAnyH_take (i := 3) (oi := { dst := some 15, op := Op.move (Operand.tmp 14), type := 4, pos := "l06_links.go:62", after := #[{ on := 2, ground := Ground.data }, { on := 1, ground := Ground.chain }], guard := none }) (v := ?_) rfl (by kernel_rfl) (by kernel_rfl) (by kernel_rfl) (fun _ _ _ h => h) (Or.inl ⟨by rfl, ?_⟩) (by assumption) ?_
            rotate_left
            · intro w9 hSw
              try dsimp only at hSw
              go_simp
              try with_reducible rfl
            try simp only [Act.put, List.setIfInBounds_toArray, List.set_cons_zero, List.set_cons_succ]
            refine wpAnyH_take (i := 4) (oi := { dst := some 16, op := Op.move (Operand.tmp 3), type := 3, pos := "l06_links.go:62", after := #[{ on := 3, ground := Ground.guard }], guard := some (3, false) }) (v := undef) rfl (by kernel_rfl) (by kernel_rfl) (by kernel_rfl) (fun _ _ _ h => h) (Or.inr ⟨by rfl, rfl⟩) (by assumption) ?_
            try simp only [Act.put, List.setIfInBounds_toArray, List.set_cons_zero, List.set_cons_succ]
            refine wpAnyH_take (i := 5) (oi := { dst := some 17, op := Op.binOp BinOp.gtr 3 (Operand.tmp 16) (Operand.const (Value.int IntKind.i64 0)) 3, type := 4, pos := "l06_links.go:62", after := #[{ on := 4, ground := Ground.data }, { on := 3, ground := Ground.guard }], guard := some (3, false) }) (v := undef) rfl (by kernel_rfl) (by kernel_rfl) (by kernel_rfl) (fun _ _ _ h => h) (Or.inr ⟨by rfl, rfl⟩) (by assumption) ?_
            try simp only [Act.put, List.setIfInBounds_toArray, List.set_cons_zero, List.set_cons_succ]
            refine wpAnyH_take (i := 6) (oi := { dst := some 18, op := Op.move (Operand.tmp 17), type := 4, pos := "l06_links.go:62", after := #[{ on := 5, ground := Ground.data }, { on := 3, ground := Ground.chain }, { on := 3, ground := Ground.guard }], guard := some (3, false) }) (v := undef) rfl (by kernel_rfl) (by kernel_rfl) (by kernel_rfl) (fun _ _ _ h => h) (Or.inr ⟨by rfl, rfl⟩) (by assumption) ?_
            try simp only [Act.put, List.setIfInBounds_toArray, List.set_cons_zero, List.set_cons_succ]
            refine wpAnyH_take (i := 7) (oi := { dst := some 19, op := Op.move (Operand.tmp 0), type := 53, pos := "l06_links.go:62", after := #[{ on := 6, ground := Ground.guard }], guard := some (6, true) }) (v := undef) rfl (by kernel_rfl) (by kernel_rfl) (by kernel_rfl) (fun _ _ _ h => h) (Or.inr ⟨by rfl, rfl⟩) (by assumption) ?_
            try simp only [Act.put, List.setIfInBounds_toArray, List.set_cons_zero, List.set_cons_succ]
            refine wpAnyH_take (i := 8) (oi := { dst := some 20, op := Op.move (Operand.tmp 3), type := 3, pos := "l06_links.go:62", after := #[{ on := 6, ground := Ground.guard }], guard := some (6, true) }) (v := undef) rfl (by kernel_rfl) (by kernel_rfl) (by kernel_rfl) (fun _ _ _ h => h) (Or.inr ⟨by rfl, rfl⟩) (by assumption) ?_
            try simp only [Act.put, List.setIfInBounds_toArray, List.set_cons_zero, List.set_cons_succ]
            refine wpAnyH_take (i := 12) (oi := { dst := some 24, op := Op.load 38 (Operand.tmp 4), type := 38, pos := "l06_links.go:62", after := #[{ on := 6, ground := Ground.guard }], guard := some (6, true) }) (v := undef) rfl (by kernel_rfl) (by kernel_rfl) (by kernel_rfl) (fun _ _ _ h => h) (Or.inr ⟨by rfl, rfl⟩) (by assumption) ?_
            try simp only [Act.put, List.setIfInBounds_toArray, List.set_cons_zero, List.set_cons_succ]
            refine wpAnyH_take (i := 9) (oi := { dst := some 21, op := Op.binOp BinOp.sub 3 (Operand.tmp 20) (Operand.const (Value.int IntKind.i64 1)) 3, type := 3, pos := "l06_links.go:62", after := #[{ on := 8, ground := Ground.data }, { on := 6, ground := Ground.guard }], guard := some (6, true) }) (v := undef) rfl (by kernel_rfl) (by kernel_rfl) (by kernel_rfl) (fun _ _ _ h => h) (Or.inr ⟨by rfl, rfl⟩) (by assumption) ?_
            try simp only [Act.put, List.setIfInBounds_toArray, List.set_cons_zero, List.set_cons_succ]
            refine wpAnyH_take (i := 10) (oi := { dst := some 22, op := Op.indexAddr 53 (Operand.tmp 19) (Operand.tmp 21), type := 0, pos := "l06_links.go:62", after := #[{ on := 7, ground := Ground.data }, { on := 9, ground := Ground.data }, { on := 6, ground := Ground.guard }], guard := some (6, true) }) (v := undef) rfl (by kernel_rfl) (by kernel_rfl) (by kernel_rfl) (fun _ _ _ h => h) (Or.inr ⟨by rfl, rfl⟩) (by assumption) ?_
            try simp only [Act.put, List.setIfInBounds_toArray, List.set_cons_zero, List.set_cons_succ]
            refine wpAnyH_take (i := 11) (oi := { dst := some 23, op := Op.load 38 (Operand.tmp 22), type := 38, pos := "l06_links.go:62", after := #[{ on := 10, ground := Ground.data }, { on := 6, ground := Ground.guard }], guard := some (6, true) }) (v := undef) rfl (by kernel_rfl) (by kernel_rfl) (by kernel_rfl) (fun _ _ _ h => h) (Or.inr ⟨by rfl, rfl⟩) (by assumption) ?_
            try simp only [Act.put, List.setIfInBounds_toArray, List.set_cons_zero, List.set_cons_succ]
            refine wpAnyH_ready (rs := [13]) (by kernel_rfl) (by simp) ?_
            refine AllReadyH.cons (o := { dst := some 25, op := Op.call { callee := Callee.value (Operand.func 83), args := #[Operand.tmp 23, Operand.tmp 24], argTypes := #[38, 38] }, type := 4, pos := "l06_links.go:62", after := #[{ on := 11, ground := Ground.data }, { on := 12, ground := Ground.data }, { on := 6, ground := Ground.chain }, { on := 6, ground := Ground.guard }], guard := some (6, true) }) rfl (fun K hK => ?_) ?_
            · go_simp
              refine hK.out _ _ ?_ (fun hHeld13 => ?_)
              · try dsimp only
                go_keep
              clear hK K
              try simp only [Act.put, List.setIfInBounds_toArray, List.set_cons_zero, List.set_cons_succ]
              refine wpAnyH_take (i := 14) (oi := { dst := some 26, op := Op.unOp UnOp.not 4 (Operand.tmp 25), type := 4, pos := "l06_links.go:62", after := #[{ on := 13, ground := Ground.data }, { on := 6, ground := Ground.guard }], guard := some (6, true) }) (v := undef) rfl (by kernel_rfl) (by kernel_rfl) (by kernel_rfl) (fun _ _ _ h => h) (Or.inr ⟨by rfl, rfl⟩) (by assumption) ?_
              try simp only [Act.put, List.setIfInBounds_toArray, List.set_cons_zero, List.set_cons_succ]
              refine wpAnyH_take (i := 15) (oi := { dst := some 27, op := Op.pick (Operand.tmp 18) (Operand.tmp 26) (Operand.const (Value.bool false)), type := 4, pos := "l06_links.go:62", after := #[{ on := 6, ground := Ground.data }, { on := 14, ground := Ground.data }, { on := 3, ground := Ground.guard }], guard := some (3, false) }) (v := undef) rfl (by kernel_rfl) (by kernel_rfl) (by kernel_rfl) (fun _ _ _ h => h) (Or.inr ⟨by rfl, rfl⟩) (by assumption) ?_
              try simp only [Act.put, List.setIfInBounds_toArray, List.set_cons_zero, List.set_cons_succ]
              refine wpAnyH_take (i := 16) (oi := { dst := some 28, op := Op.pick (Operand.tmp 15) (Operand.const (Value.bool true)) (Operand.tmp 27), type := 4, pos := "l06_links.go:62", after := #[{ on := 3, ground := Ground.data }, { on := 15, ground := Ground.data }], guard := none }) (v := ?_) rfl (by kernel_rfl) (by kernel_rfl) (by kernel_rfl) (fun _ _ _ h => h) (Or.inl ⟨by rfl, ?_⟩) (by assumption) ?_
              rotate_left
              · intro w9 hSw
                try dsimp only at hSw
                go_simp
                try with_reducible rfl
              try simp only [Act.put, List.setIfInBounds_toArray, List.set_cons_zero, List.set_cons_succ]
              refine wpAnyH_done (by kernel_rfl) ?_ _
              refine NoPanic.normal ?_
              go_wp2
              go_ret
              exact ⟨ret_bool HE.out, HB.out.trans (S_2.out.below.mono HB.out.size)⟩
            exact AllReadyH.nil
          exact AllReadyH.nil
    · obtain rfl : k0 = n := by omega
      have HE := Lib.hid (show true = ok by rw [← HOK.out]; exact (okSet_iff.mpr (by rw [HL.out]; exact ⟨HV.out, HAS.out⟩)).symm)
      go_wp2
      go_ret
      exact ⟨ret_bool HE.out, HB.out⟩
end Go.Proofs.YtgjaennedihckaaGreat
