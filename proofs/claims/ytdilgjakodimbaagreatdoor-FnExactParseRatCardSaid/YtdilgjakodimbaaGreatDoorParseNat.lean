/- Contracts of ParseNat, of the model and of the program. Conditions: none. -/
import Derived.Test.YtdilgjakodimbaaGreatDoorProg
import Derived.Test.YtdilgjakodimbaaGreatDoorParseMath
import Derived.Test.YtdilgjakodimbaaGreatDoorNatOf
import Derived.Test.YtdilgjakodimbaaGreatDoorNatAdd
import Derived.Test.YtdilgjakodimbaaGreatDoorDigits
namespace Go.Proofs.YtdilgjakodimbaaGreatDoor
open Go.RowKit Nt Wm
set_option linter.unusedVariables false

/-- What a function leaves that returns a row in new memory and whether there is one. -/
def OwnB (e : TypeId) (xs : List Value) (b : Bool) (w : World) (en : Ending) (w' : World) : Prop :=
  ∃ v, en = .returned (.tuple #[v, .bool b]) ∧ OwnV w' w.heap.size e v xs ∧ Below w.heap.size w w'
theorem ownB_no {e : TypeId} {s : ByteArray} {w w' : World} (h : pOk s = false) (hb : Below w.heap.size w w') : OwnB e (nats (parseN s)) (pOk s) w (.returned (.tuple #[.slice none 0 0, .bool false])) w' := by
  rw [h, parseN_no h]
  exact ⟨_, rfl, OwnV.nil _ _ _, hb⟩
theorem bytes_len (s : ByteArray) : s.data.toList.length = s.size := by simp
theorem bytes_head {s : ByteArray} (h : 0 < s.size) : s.data.toList.head? = some (s[0]'h) := by
  have hl : 0 < s.data.toList.length := by rw [bytes_len]; exact h
  rw [List.head?_eq_getElem?, List.getElem?_eq_getElem hl]
  rfl
theorem bytes_at {s : ByteArray} {k : Nat} (h : k < s.size) : s.data.toList[k]? = some (s[k]'h) := by
  have hl : k < s.data.toList.length := by rw [bytes_len]; exact h
  rw [List.getElem?_eq_getElem hl]
  rfl
theorem limbs_take {l : List UInt8} {e : Nat} (h0 : 0 < e) (he : e ≤ l.length) : limbs (l.take e) = Nu.val 0 ((l.take e).drop (e - 9)) :: limbs (l.take (e - 9)) := by
  have hl : (l.take e).length = e := by simp; omega
  have hne : l.take e ≠ [] := by intro h; rw [h] at hl; simp at hl; omega
  rw [limbs_step hne, hl, List.take_take, Nat.min_eq_left (by omega)]

set_option maxRecDepth 100000 in
set_option maxHeartbeats 2000000 in
theorem parseNat_spec (s : ByteArray) (w : World) (hs : s.size ≤ maxLen) :
    Calls Tryz.prog 11 #[.string s] w (OwnB 3 (nats (parseN s)) (pOk s) w) := by
  obtain ⟨i0, hi, hz0, hz1, hz2⟩ := info_parts info_int
  have HS := Lib.hid hs
  unfold maxLen at hs
  go_enter Tryz.func11, Tryz.ntmps11
  go_wp2_with fail
  refine (isDigits_spec s _ HS.out).mono ?_
  rintro e w1 ⟨rfl, rfl⟩
  cases hd : digs s with
  | false =>
    have HP := Lib.hid (show pOk s = false by simp [pOk, hd])
    go_wp2
    go_ret2
    exact ownB_no HP.out (Below.refl _ _)
  | true =>
    obtain ⟨hda, hpos⟩ := digs_iff.mp hd
    by_cases h540 : 540 < s.size
    · have HP := Lib.hid (show pOk s = false by simp [pOk, hd]; omega)
      clear hd hda
      go_wp2
      go_ret2
      exact ownB_no HP.out (Below.refl _ _)
    have hbc := bytes_head hpos
    by_cases h1 : 1 < s.size ∧ s[0].toNat = 48
    · obtain ⟨h1, h48⟩ := h1
      have HP := Lib.hid (show pOk s = false by
        have e : s[0] = 48 := UInt8.toNat_inj.mp (by simpa using h48)
        simp only [pOk, hbc, e]
        simp
        omega)
      have h48z : ((s[0].toNat : Int) == 48) = true := by simp; omega
      clear hd hda hbc
      go_wp2
      go_ret2
      exact ownB_no HP.out (Below.refl _ _)
    · have hok : pOk s = true := by
        rw [pOk_iff]
        refine ⟨hd, by omega, ?_⟩
        by_cases h2 : s.size ≤ 1
        · exact .inl h2
        · refine .inr ?_
          rw [hbc]
          intro e
          apply h1
          have e2 : s[0] = 48 := Option.some.inj e
          exact ⟨by omega, by rw [e2]; rfl⟩
      have HOK := Lib.hid hok
      have HPN := Lib.hid (parseN_yes hok)
      have hlen := limbs_len _ s.data.toList (Nat.le_refl _)
      rw [bytes_len] at hlen
      have HLD := Lib.hid (limbs_digs _ s.data.toList (Nat.le_refl _) hda)
      have HDA := Lib.hid hda
      have hg1 : (decide ((1 : Int) < (s.size : Int)) && ((s[0].toNat : Int) == 48)) = false := by
        by_cases h2 : 1 < s.size
        · have h3 : ¬ s[0].toNat = 48 := fun e => h1 ⟨h2, e⟩
          simp
          omega
        · simp
          omega
      clear hd hda hbc hok
      by_cases h2 : 1 < s.size
      · have h3z : ((s[0].toNat : Int) == 48) = false := by
          have h3 : ¬ s[0].toNat = 48 := fun e => h1 ⟨h2, e⟩
          exact beq_eq_false_iff_ne.mpr (by omega)
        clear hg1 h1
        go_wp2
        go_loopw [4, 5] (fun v i wr => ∃ (z : Int) (ps : List Nat), i = .int .i64 z ∧ z ≤ s.size ∧ -9 ≤ z ∧ ps ++ limbs (s.data.toList.take z.toNat) = limbs s.data.toList ∧ wr.ownsRow w.heap.size 3 1 v ps.length (nats ps) ∧ Below w.heap.size w wr) (fun _ i _ => (intOf i + 9).toNat)
        case atStart => exact ⟨s.size, [], rfl, Int.le_refl _, by omega, by rw [Int.toNat_natCast, List.take_of_length_le (by rw [bytes_len]; exact Nat.le_refl _)]; rfl, World.ownsRow_made w #[] 0 (Nat.le_refl _) (Nat.zero_le _) rfl, (Below.refl _ _).alloc (Nat.le_refl _) _⟩
        case round =>
          obtain ⟨z, ps, rfl, hzs, hz9, heq, ho, hb⟩ := hrel
          have hpl : ps.length ≤ 61 := by
            have h := congrArg List.length heq
            rw [List.length_append] at h
            omega
          have HEQ := Lib.hid heq
          have HO := Lib.hid ho
          have HB := Lib.hid hb
          clear heq ho hb
          by_cases hz : 0 < z
          · obtain ⟨e, rfl⟩ : ∃ e : Nat, z = e := ⟨z.toNat, by omega⟩
            have HLT := Lib.hid (limbs_take (l := s.data.toList) (e := e) (by omega) (by rw [bytes_len]; omega))
            obtain ⟨f, hf⟩ : ∃ f, e - 9 = f := ⟨_, rfl⟩
            rw [hf] at HLT
            by_cases h9 : e < 9
            · have hneg : (e : Int) - 9 < 0 := by omega
              have HF0 := Lib.hid (show f = 0 by omega)
              go_wp2
              go_loop [7, 8] (fun a i => ∃ j nv : Nat, f ≤ j ∧ j ≤ e ∧ i = .int .i64 j ∧ a = .int .i64 nv ∧ nv = Nu.val 0 ((s.data.toList.take j).drop f)) (fun _ i => e - (intOf i).toNat)
              case atStart => exact ⟨f, 0, Nat.le_refl _, by omega, by first | rfl | (rw [← hfz]) | (rw [HF0.out]; rfl) | go_num, rfl, by rw [List.drop_of_length_le (by simp; omega)]; rfl⟩
              case round =>
                obtain ⟨j, nv, hj1, hj2, rfl, rfl, hnv⟩ := hrel
                have hdd : digAll ((s.data.toList.take j).drop f) = true := digAll_drop _ _ (digAll_take _ _ HDA.out)
                have hnb := val_9 _ hdd (by simp; omega)
                rw [← hnv] at hnb
                have HNV := Lib.hid hnv
                clear hnv hdd
                by_cases hje : j < e
                · have hjs : j < s.size := by omega
                  have hat := bytes_at hjs
                  have hjl : j < s.data.toList.length := by rw [bytes_len]; exact hjs
                  have hdj : 48 ≤ s[j].toNat ∧ s[j].toNat ≤ 57 := by
                    have h := HDA.out
                    simp only [digAll, List.all_eq_true] at h
                    have hm := h s[j] (List.mem_of_getElem? hat)
                    simpa [Wm.dg] using hm
                  have hst : Nu.val 0 ((s.data.toList.take (j + 1)).drop f) = nv * 10 + (s[j].toNat - 48) := by
                    rw [List.take_add_one, hat, Option.toList_some, List.drop_append_of_le_length (by simp; omega), Nu.val_append, ← HNV.out]
                    rfl
                  have HST := Lib.hid hst
                  clear hst hat
                  have hjez : (j : Int) < (e : Int) := by omega
                  go_wp2
                  exact ⟨⟨j + 1, nv * 10 + (s[j].toNat - 48), by omega, by omega, by go_num, by go_num, HST.out.symm⟩, by simp [intOf]; omega⟩
                · obtain rfl : j = e := by omega
                  have hnv := HNV.out
                  have HCELL := Lib.hid (cell_new wr (.int .i64 (nv : Int)) 3)
                  clear hnv
                  go_wp2_with (at_builtin; refine wpList_append_own _ rfl (.tmp 52) (.tmp 54) 22 rfl w.heap.size 3 i0 _ 1 8 Tryz.underlying22 hi hz0 hz1 hz2 rfl (by decide) u4 ps.length (nats ps) rfl (HO.out.alloc _) ⟨wr.heap.size, 0, none⟩ 1 1 [.int .i64 (nv : Int)] rfl rfl HCELL.out (by simp [Value.oneCell']) (by unfold maxLen; omega) (by omega) (by have := HB.out.size; simp; omega) ?_; intro v' w4 hown' hgrow _)
                  have HW := Lib.hid hown'
                  have HG := Lib.hid hgrow
                  clear hown' hgrow
                  go_wp2
                  refine ⟨⟨(j : Int) - 9, ps ++ [nv], by go_num, by omega, by omega, ?_, ?_, ?_⟩, by simp [intOf]; omega⟩
                  · have h := HEQ.out
                    have e1 : ((j : Int) - 9).toNat = j - 9 := by omega
                    rw [Int.toNat_natCast, HLT.out, ← HNV.out] at h
                    rw [e1, List.append_assoc, List.singleton_append]
                    first | exact h | (rw [hf]; exact h)
                  · rw [List.length_append, nats_app]; exact HW.out
                  · exact (HB.out.alloc HB.out.size _).grown HG.out (by have := HB.out.size; simp; omega) (fun k hk => (HO.out.lt k hk).1)
            · have hneg : ¬ (e : Int) - 9 < 0 := by omega
              have hfz : (e : Int) - 9 = (f : Int) := by omega
              go_wp2
              go_loop [7, 8] (fun a i => ∃ j nv : Nat, f ≤ j ∧ j ≤ e ∧ i = .int .i64 j ∧ a = .int .i64 nv ∧ nv = Nu.val 0 ((s.data.toList.take j).drop f)) (fun _ i => e - (intOf i).toNat)
              case atStart => exact ⟨f, 0, Nat.le_refl _, by omega, by first | rfl | (rw [← hfz]) | (rw [HF0.out]; rfl) | go_num, rfl, by rw [List.drop_of_length_le (by simp; omega)]; rfl⟩
              case round =>
                obtain ⟨j, nv, hj1, hj2, rfl, rfl, hnv⟩ := hrel
                have hdd : digAll ((s.data.toList.take j).drop f) = true := digAll_drop _ _ (digAll_take _ _ HDA.out)
                have hnb := val_9 _ hdd (by simp; omega)
                rw [← hnv] at hnb
                have HNV := Lib.hid hnv
                clear hnv hdd
                by_cases hje : j < e
                · have hjs : j < s.size := by omega
                  have hat := bytes_at hjs
                  have hjl : j < s.data.toList.length := by rw [bytes_len]; exact hjs
                  have hdj : 48 ≤ s[j].toNat ∧ s[j].toNat ≤ 57 := by
                    have h := HDA.out
                    simp only [digAll, List.all_eq_true] at h
                    have hm := h s[j] (List.mem_of_getElem? hat)
                    simpa [Wm.dg] using hm
                  have hst : Nu.val 0 ((s.data.toList.take (j + 1)).drop f) = nv * 10 + (s[j].toNat - 48) := by
                    rw [List.take_add_one, hat, Option.toList_some, List.drop_append_of_le_length (by simp; omega), Nu.val_append, ← HNV.out]
                    rfl
                  have HST := Lib.hid hst
                  clear hst hat
                  have hjez : (j : Int) < (e : Int) := by omega
                  go_wp2
                  exact ⟨⟨j + 1, nv * 10 + (s[j].toNat - 48), by omega, by omega, by go_num, by go_num, HST.out.symm⟩, by simp [intOf]; omega⟩
                · obtain rfl : j = e := by omega
                  have hnv := HNV.out
                  have HCELL := Lib.hid (cell_new wr (.int .i64 (nv : Int)) 3)
                  clear hnv
                  go_wp2_with (at_builtin; refine wpList_append_own _ rfl (.tmp 52) (.tmp 54) 22 rfl w.heap.size 3 i0 _ 1 8 Tryz.underlying22 hi hz0 hz1 hz2 rfl (by decide) u4 ps.length (nats ps) rfl (HO.out.alloc _) ⟨wr.heap.size, 0, none⟩ 1 1 [.int .i64 (nv : Int)] rfl rfl HCELL.out (by simp [Value.oneCell']) (by unfold maxLen; omega) (by omega) (by have := HB.out.size; simp; omega) ?_; intro v' w4 hown' hgrow _)
                  have HW := Lib.hid hown'
                  have HG := Lib.hid hgrow
                  clear hown' hgrow
                  go_wp2
                  refine ⟨⟨(j : Int) - 9, ps ++ [nv], by go_num, by omega, by omega, ?_, ?_, ?_⟩, by simp [intOf]; omega⟩
                  · have h := HEQ.out
                    have e1 : ((j : Int) - 9).toNat = j - 9 := by omega
                    rw [Int.toNat_natCast, HLT.out, ← HNV.out] at h
                    rw [e1, List.append_assoc, List.singleton_append]
                    first | exact h | (rw [hf]; exact h)
                  · rw [List.length_append, nats_app]; exact HW.out
                  · exact (HB.out.alloc HB.out.size _).grown HG.out (by have := HB.out.size; simp; omega) (fun k hk => (HO.out.lt k hk).1)
          · have hnil : limbs (s.data.toList.take z.toNat) = [] := by
              have e0 : z.toNat = 0 := by omega
              rw [e0, List.take_zero, limbs_nil]
            have heq := HEQ.out
            rw [hnil, List.append_nil] at heq
            obtain ⟨A9, c9, rfl⟩ := own_shape HO.out
            have HOV := Lib.hid (OwnV.of_own HO.out)
            have HPS := Lib.hid heq
            clear hnil heq
            go_wp2_with fail
            refine (l02Trim_own _ _ _ _ _ _ HOV.out (by rw [HPS.out]; exact HLD.out)).mono ?_
            rintro e w2 ⟨rfl, hov, rfl⟩
            have HOV2 := Lib.hid hov
            clear hov
            go_wp2
            go_ret2
            rw [HOK.out, HPN.out, ← HPS.out]
            exact ⟨_, rfl, HOV2.out, HB.out⟩
      · clear hg1 h1
        go_wp2
        go_loopw [4, 5] (fun v i wr => ∃ (z : Int) (ps : List Nat), i = .int .i64 z ∧ z ≤ s.size ∧ -9 ≤ z ∧ ps ++ limbs (s.data.toList.take z.toNat) = limbs s.data.toList ∧ wr.ownsRow w.heap.size 3 1 v ps.length (nats ps) ∧ Below w.heap.size w wr) (fun _ i _ => (intOf i + 9).toNat)
        case atStart => exact ⟨s.size, [], rfl, Int.le_refl _, by omega, by rw [Int.toNat_natCast, List.take_of_length_le (by rw [bytes_len]; exact Nat.le_refl _)]; rfl, World.ownsRow_made w #[] 0 (Nat.le_refl _) (Nat.zero_le _) rfl, (Below.refl _ _).alloc (Nat.le_refl _) _⟩
        case round =>
          obtain ⟨z, ps, rfl, hzs, hz9, heq, ho, hb⟩ := hrel
          have hpl : ps.length ≤ 61 := by
            have h := congrArg List.length heq
            rw [List.length_append] at h
            omega
          have HEQ := Lib.hid heq
          have HO := Lib.hid ho
          have HB := Lib.hid hb
          clear heq ho hb
          by_cases hz : 0 < z
          · obtain ⟨e, rfl⟩ : ∃ e : Nat, z = e := ⟨z.toNat, by omega⟩
            have HLT := Lib.hid (limbs_take (l := s.data.toList) (e := e) (by omega) (by rw [bytes_len]; omega))
            obtain ⟨f, hf⟩ : ∃ f, e - 9 = f := ⟨_, rfl⟩
            rw [hf] at HLT
            by_cases h9 : e < 9
            · have hneg : (e : Int) - 9 < 0 := by omega
              have HF0 := Lib.hid (show f = 0 by omega)
              go_wp2
              go_loop [7, 8] (fun a i => ∃ j nv : Nat, f ≤ j ∧ j ≤ e ∧ i = .int .i64 j ∧ a = .int .i64 nv ∧ nv = Nu.val 0 ((s.data.toList.take j).drop f)) (fun _ i => e - (intOf i).toNat)
              case atStart => exact ⟨f, 0, Nat.le_refl _, by omega, by first | rfl | (rw [← hfz]) | (rw [HF0.out]; rfl) | go_num, rfl, by rw [List.drop_of_length_le (by simp; omega)]; rfl⟩
              case round =>
                obtain ⟨j, nv, hj1, hj2, rfl, rfl, hnv⟩ := hrel
                have hdd : digAll ((s.data.toList.take j).drop f) = true := digAll_drop _ _ (digAll_take _ _ HDA.out)
                have hnb := val_9 _ hdd (by simp; omega)
                rw [← hnv] at hnb
                have HNV := Lib.hid hnv
                clear hnv hdd
                by_cases hje : j < e
                · have hjs : j < s.size := by omega
                  have hat := bytes_at hjs
                  have hjl : j < s.data.toList.length := by rw [bytes_len]; exact hjs
                  have hdj : 48 ≤ s[j].toNat ∧ s[j].toNat ≤ 57 := by
                    have h := HDA.out
                    simp only [digAll, List.all_eq_true] at h
                    have hm := h s[j] (List.mem_of_getElem? hat)
                    simpa [Wm.dg] using hm
                  have hst : Nu.val 0 ((s.data.toList.take (j + 1)).drop f) = nv * 10 + (s[j].toNat - 48) := by
                    rw [List.take_add_one, hat, Option.toList_some, List.drop_append_of_le_length (by simp; omega), Nu.val_append, ← HNV.out]
                    rfl
                  have HST := Lib.hid hst
                  clear hst hat
                  have hjez : (j : Int) < (e : Int) := by omega
                  go_wp2
                  exact ⟨⟨j + 1, nv * 10 + (s[j].toNat - 48), by omega, by omega, by go_num, by go_num, HST.out.symm⟩, by simp [intOf]; omega⟩
                · obtain rfl : j = e := by omega
                  have hnv := HNV.out
                  have HCELL := Lib.hid (cell_new wr (.int .i64 (nv : Int)) 3)
                  clear hnv
                  go_wp2_with (at_builtin; refine wpList_append_own _ rfl (.tmp 52) (.tmp 54) 22 rfl w.heap.size 3 i0 _ 1 8 Tryz.underlying22 hi hz0 hz1 hz2 rfl (by decide) u4 ps.length (nats ps) rfl (HO.out.alloc _) ⟨wr.heap.size, 0, none⟩ 1 1 [.int .i64 (nv : Int)] rfl rfl HCELL.out (by simp [Value.oneCell']) (by unfold maxLen; omega) (by omega) (by have := HB.out.size; simp; omega) ?_; intro v' w4 hown' hgrow _)
                  have HW := Lib.hid hown'
                  have HG := Lib.hid hgrow
                  clear hown' hgrow
                  go_wp2
                  refine ⟨⟨(j : Int) - 9, ps ++ [nv], by go_num, by omega, by omega, ?_, ?_, ?_⟩, by simp [intOf]; omega⟩
                  · have h := HEQ.out
                    have e1 : ((j : Int) - 9).toNat = j - 9 := by omega
                    rw [Int.toNat_natCast, HLT.out, ← HNV.out] at h
                    rw [e1, List.append_assoc, List.singleton_append]
                    first | exact h | (rw [hf]; exact h)
                  · rw [List.length_append, nats_app]; exact HW.out
                  · exact (HB.out.alloc HB.out.size _).grown HG.out (by have := HB.out.size; simp; omega) (fun k hk => (HO.out.lt k hk).1)
            · omega
          · have hnil : limbs (s.data.toList.take z.toNat) = [] := by
              have e0 : z.toNat = 0 := by omega
              rw [e0, List.take_zero, limbs_nil]
            have heq := HEQ.out
            rw [hnil, List.append_nil] at heq
            obtain ⟨A9, c9, rfl⟩ := own_shape HO.out
            have HOV := Lib.hid (OwnV.of_own HO.out)
            have HPS := Lib.hid heq
            clear hnil heq
            go_wp2_with fail
            refine (l02Trim_own _ _ _ _ _ _ HOV.out (by rw [HPS.out]; exact HLD.out)).mono ?_
            rintro e w2 ⟨rfl, hov, rfl⟩
            have HOV2 := Lib.hid hov
            clear hov
            go_wp2
            go_ret2
            rw [HOK.out, HPN.out, ← HPS.out]
            exact ⟨_, rfl, HOV2.out, HB.out⟩
/-- Atoi at a group of digits. -/
theorem atoi_dig (s : ByteArray) (l : List UInt8) (hl : s.data.toList = l) (w : World) (h : digAll l = true) (h0 : l ≠ []) (h9 : l.length ≤ 9) :
    Calls Tryz.prog 35 #[.string s] w fun e w' => e = .returned (.tuple #[.int .i64 ((Nu.val 0 l : Nat) : Int), .nilIface]) ∧ Below w.heap.size w w' := by
  subst hl
  refine (Tryz.strconv_Atoi_ok s (by have : s.data.toList.length = s.size := bytes_len s; omega) _ (atoi_digits _ h h0 h9) w).mono fun e w' ⟨he, hw⟩ => ⟨he, ?_⟩
  rcases hw with rfl | ⟨t, rfl⟩
  · exact Below.refl _ _
  · exact Lib.bytesWorld_below _ _ _
theorem extract_list (s : ByteArray) (a b : Nat) : (s.extract a b).data.toList = (s.data.toList.take b).drop a := by
  rw [ByteArray.data_extract, Array.toList_extract, List.extract_eq_take_drop, List.drop_take]
set_option maxRecDepth 100000 in
set_option maxHeartbeats 2000000 in
theorem parseNat_impl (s : ByteArray) (w : World) (hs : s.size ≤ maxLen) :
    Calls Tryz.prog 16 #[.string s] w (OwnB 3 (nats (parseN s)) (pOk s) w) := by
  obtain ⟨i0, hi, hz0, hz1, hz2⟩ := info_parts info_int
  have HS := Lib.hid hs
  unfold maxLen at hs
  by_cases hz : s = ⟨#[48]⟩
  · have HP := Lib.hid (show pOk s = true by rw [hz]; decide)
    have HN := Lib.hid (show parseN s = [] by
      rw [parseN_yes HP.out, hz]
      rw [limbs_short (by simp) (by simp)]
      exact dig_zero)
    subst hz
    go_enter Tryz.func16, Tryz.ntmps16
    go_wp2
    go_ret2
    rw [HP.out, HN.out]
    exact ⟨_, rfl, OwnV.nil _ _ _, Below.refl _ _⟩
  have hnef := (str_ne s ⟨#[48]⟩ hz).1
  have hlit : (⟨#[48]⟩ : ByteArray).toList = [48] := by simp
  rw [hlit] at hnef
  clear hlit
  by_cases h540 : 540 < s.size
  · have HP := Lib.hid (show pOk s = false by
      cases e : pOk s with
      | false => rfl
      | true => have := (pOk_iff.mp e).2.1; omega)
    go_enter Tryz.func16, Tryz.ntmps16
    go_wp2
    go_ret2
    exact ownB_no HP.out (Below.refl _ _)
  go_enter Tryz.func16, Tryz.ntmps16
  go_wp2_with fail
  refine (isDigits_impl s _ HS.out).mono ?_
  rintro e w1 ⟨rfl, hb1⟩
  have HB1 := Lib.hid hb1
  clear hb1
  cases hd : digs s with
  | false =>
    have HP := Lib.hid (show pOk s = false by simp [pOk, hd])
    clear hd
    go_wp2
    go_ret2
    exact ownB_no HP.out HB1.out
  | true =>
    obtain ⟨hda, hpos⟩ := digs_iff.mp hd
    have hbc := bytes_head hpos
    by_cases h48 : s[0].toNat = 48
    · have hs1 : 1 < s.size := by
        rcases Nat.lt_or_ge 1 s.size with h | h
        · exact h
        · exfalso
          apply hz
          apply bytes_ext
          have e0 : s[0] = 48 := UInt8.toNat_inj.mp (by simpa using h48)
          have hl := bytes_len s
          match hm : s.data.toList with
          | [] => rw [hm] at hl; simp at hl; omega
          | [c] => rw [hm] at hbc; simp at hbc; rw [hbc, e0]
          | c :: d :: r => rw [hm] at hl; simp at hl; omega
      have HP := Lib.hid (show pOk s = false by
        have e : s[0] = 48 := UInt8.toNat_inj.mp (by simpa using h48)
        simp only [pOk, hbc, e]
        simp
        omega)
      have h48z : ((s[0].toNat : Int) == 48) = true := by simp; omega
      clear hd hda hbc
      go_wp2
      go_ret2
      exact ownB_no HP.out HB1.out
    · have hhd : s.data.toList.head? ≠ some 48 := by
        rw [hbc]
        intro e
        have e2 : s[0] = 48 := Option.some.inj e
        apply h48
        rw [e2]; rfl
      have hok : pOk s = true := by
        rw [pOk_iff]
        exact ⟨hd, by omega, .inr hhd⟩
      have HOK := Lib.hid hok
      have HPC := Lib.hid (parseN_can hok hhd)
      have hlen := limbs_len _ s.data.toList (Nat.le_refl _)
      rw [bytes_len] at hlen
      have HDA := Lib.hid hda
      have h48z : ((s[0].toNat : Int) == 48) = false := beq_eq_false_iff_ne.mpr (by omega)
      clear hd hda hbc hok hhd
      go_wp2
      go_loopw [4, 5] (fun v i wr => ∃ (z : Int) (ps : List Nat), i = .int .i64 z ∧ z ≤ s.size ∧ -9 ≤ z ∧ ps ++ limbs (s.data.toList.take z.toNat) = limbs s.data.toList ∧ wr.ownsRow w.heap.size 3 1 v ps.length (nats ps) ∧ Below w.heap.size w wr) (fun _ i _ => (intOf i + 9).toNat)
      case atStart => exact ⟨s.size, [], rfl, Int.le_refl _, by omega, by rw [Int.toNat_natCast, List.take_of_length_le (by rw [bytes_len]; exact Nat.le_refl _)]; rfl, World.ownsRow_nil _ _ _ _, HB1.out⟩
      case round =>
        obtain ⟨z, ps, rfl, hzs, hz9, heq, ho, hb⟩ := hrel
        have hpl : ps.length ≤ 61 := by
          have h := congrArg List.length heq
          rw [List.length_append] at h
          omega
        have HEQ := Lib.hid heq
        have HO := Lib.hid ho
        have HB := Lib.hid hb
        clear heq ho hb
        by_cases hzp : 0 < z
        · obtain ⟨e, rfl⟩ : ∃ e : Nat, z = e := ⟨z.toNat, by omega⟩
          have HLT := Lib.hid (limbs_take (l := s.data.toList) (e := e) (by omega) (by rw [bytes_len]; omega))
          have hdd : digAll ((s.data.toList.take e).drop (e - 9)) = true := digAll_drop _ _ (digAll_take _ _ HDA.out)
          have hln : ((s.data.toList.take e).drop (e - 9)).length = e - (e - 9) := by
            rw [List.length_drop, List.length_take, bytes_len]
            omega
          have HAT := Lib.hid (fun W => atoi_dig (s.extract (e - 9) e) _ (extract_list s (e - 9) e) W hdd (by intro h; rw [h] at hln; simp at hln; omega) (by omega))
          have hnb := val_9 _ hdd (by omega)
          obtain ⟨nv, hnv⟩ : ∃ nv, Nu.val 0 ((s.data.toList.take e).drop (e - 9)) = nv := ⟨_, rfl⟩
          rw [hnv] at HLT HAT hnb
          clear hnv hdd hln
          have hmx : max (0 : Int) ((e : Int) - 9) = ((e - 9 : Nat) : Int) := by omega
          obtain ⟨f, hf⟩ : ∃ f, e - 9 = f := ⟨_, rfl⟩
          rw [hf] at HLT HAT hmx
          have hfe : f < e := by omega
          have hfez : (f : Int) ≤ (e : Int) := by omega
          have hes : e ≤ s.size := by omega
          have HF := Lib.hid hf
          clear hf
          go_wp2_with fail
          refine (HAT.out _).mono ?_
          rintro e9 w3 ⟨rfl, hb3⟩
          have HB3 := Lib.hid (HB.out.trans (hb3.mono HB.out.size))
          have HO3 := Lib.hid (own_below HO.out hb3)
          have HCELL := Lib.hid (cell_new w3 (.int .i64 (nv : Int)) 3)
          clear hb3
          go_wp2_with (at_builtin; refine wpList_append_own _ rfl (.tmp 39) (.tmp 41) 22 rfl w.heap.size 3 i0 _ 1 8 Tryz.underlying22 hi hz0 hz1 hz2 rfl (by decide) u4 ps.length (nats ps) rfl (HO3.out.alloc _) ⟨w3.heap.size, 0, none⟩ 1 1 [.int .i64 (nv : Int)] rfl rfl HCELL.out (by simp [Value.oneCell']) (by unfold maxLen; omega) (by omega) (by have := HB3.out.size; simp; omega) ?_; intro v' w4 hown' hgrow _)
          have HW := Lib.hid hown'
          have HG := Lib.hid hgrow
          clear hown' hgrow
          go_wp2
          refine ⟨⟨(e : Int) - 9, ps ++ [nv], by go_num, by omega, by omega, ?_, ?_, ?_⟩, by simp [intOf]; omega⟩
          · have h := HEQ.out
            have e1 : ((e : Int) - 9).toNat = f := by have := HF.out; omega
            rw [Int.toNat_natCast, HLT.out] at h
            rw [e1, List.append_assoc, List.singleton_append]
            exact h
          · rw [List.length_append, nats_app]; exact HW.out
          · exact (HB3.out.alloc HB3.out.size _).grown HG.out (by have := HB3.out.size; simp; omega) (fun k hk => (HO3.out.lt k hk).1)
        · have hnil : limbs (s.data.toList.take z.toNat) = [] := by
            have e0 : z.toNat = 0 := by omega
            rw [e0, List.take_zero, limbs_nil]
          have heq := HEQ.out
          rw [hnil, List.append_nil] at heq
          have HPS := Lib.hid heq
          clear hnil heq
          go_wp2
          go_ret2
          rw [HOK.out, HPC.out.1, ← HPS.out]
          exact ⟨_, rfl, OwnV.of_own HO.out, HB.out⟩
end Go.Proofs.YtdilgjakodimbaaGreatDoor
