/- Contracts of the laws' own helpers over strings: markText, eqStringS, markStringS, heldStringS. -/
import Derived.Test.YtnifekbiggeekaaProg
import Derived.Test.YtnifekbiggeekaaMem
namespace Go.Proofs.Ytnifekbiggeekaa
open Go.RowKit
set_option linter.unusedVariables false

theorem info_str : (Try.prog.info? 9).map (fun i => (i.zero, i.size, i.bytes)) = some (some (.string ⟨#[]⟩), 1, 16) := by kernel_rfl

/-- What a function leaves that returns the strings xs in new memory: nothing old has turned. -/
def OwnS (xs : List ByteArray) (w : World) (e : Ending) (w' : World) : Prop :=
  ∃ v, e = .returned v ∧ w'.ownsRow w.heap.size 9 1 v xs.length (xs.map .string) ∧ Below w.heap.size w w'

/-- The decimal digits of k, as markText spells them (none for 0). -/
def mdig (k : Nat) : List UInt8 := if h : k = 0 then [] else mdig (k / 10) ++ [UInt8.ofNat (48 + k % 10)]
termination_by k
decreasing_by omega
/-- What markText answers for a positive k. -/
def mtext (k : Nat) : ByteArray := ⟨(109 :: mdig k).toArray⟩

set_option maxHeartbeats 400000 in
theorem eqStringS_same (A B : Option Addr) (n c d : Nat) (xs : List ByteArray) (w : World) (hA : VRow w A n (xs.map .string)) (hB : VRow w B n (xs.map .string)) (hn : n ≤ maxLen) :
    Calls Try.prog 15 #[.slice A n c, .slice B n d] w fun e w' => e = .returned (.bool true) ∧ ∃ k, w' = w.drewN k := by
  unfold maxLen at hn
  have hl : xs.length = n := by simpa using hA.1
  have HL := Lib.hid hl
  clear hl
  go_enter Try.func15, Try.ntmps15
  go_wp2
  go_loopw [5] (fun i wr => ∃ k q : Nat, k ≤ n ∧ i = .int .i64 k ∧ wr = w.drewN q) (fun i _ => n - (intOf i).toNat)
  case atStart => exact ⟨0, 0, Nat.zero_le _, rfl, rfl⟩
  case round =>
    obtain ⟨k, q, hk, rfl, rfl⟩ := hrel
    by_cases hlt : k < n
    · obtain ⟨g, o, rfl, hg, hc⟩ := hA.at_ hlt
      obtain ⟨g', o', rfl, hg', hc'⟩ := hB.at_ hlt
      simp only [List.getElem_map] at hc hc'
      go_wp2
      go_quiet (fail)
      go_wp2
      exact ⟨⟨k + 1, q + nq, by omega, by go_num, rfl⟩, by simp [intOf]; omega⟩
    · go_wp2
      go_ret
      exact ⟨rfl, q, rfl⟩

theorem mdig_len (k : Nat) : (mdig k).length ≤ k := by
  induction k using Nat.strongRecOn with
  | _ k ih =>
    rw [mdig]
    split
    · simp
    · have := ih (k / 10) (by omega)
      simp; omega
theorem mdig_step (m : Nat) (h : 0 < m) : mdig m = mdig (m / 10) ++ [UInt8.ofNat (48 + m % 10)] := by
  rw [mdig, dif_neg (by omega)]
theorem mdig_zero : mdig 0 = [] := by rw [mdig, dif_pos rfl]
theorem app_data (a b : ByteArray) : (a ++ b).data.toList = a.data.toList ++ b.data.toList := by
  simp [ByteArray.data_append]
theorem bytes_ext {a b : ByteArray} (h : a.data.toList = b.data.toList) : a = b := by
  cases a; cases b; simp at h; simpa using h

set_option maxHeartbeats 400000 in
theorem markText_any (k : Nat) (w : World) (hk : 0 < k) (hk2 : k ≤ 1099511627776) :
    Calls Try.prog 29 #[.int .i64 k] w fun e w' => e = .returned (.string (mtext k)) ∧ Below w.heap.size w w' := by
  have hkl := mdig_len k
  go_enter Try.func29, Try.ntmps29
  go_wp2
  go_loopw [0, 3] (fun kk out wr => ∃ (m : Nat) (o : ByteArray), m ≤ k ∧ kk = .int .i64 m ∧ out = .string o ∧ mdig m ++ o.data.toList = mdig k ∧ Below w.heap.size w wr) (fun kk _ _ => (intOf kk).toNat)
  case atStart => exact ⟨k, _, Nat.le_refl _, rfl, rfl, by simp, Below.refl _ _⟩
  case round =>
    obtain ⟨m, o, hm, rfl, rfl, hd, hbel⟩ := hrel
    have ho : o.size ≤ k := by
      have h1 : (mdig m ++ o.data.toList).length = (mdig k).length := by rw [hd]
      have h2 : o.data.toList.length = o.size := by simp
      rw [List.length_append, h2] at h1
      omega
    have HD := Lib.hid hd
    clear hd
    by_cases hlt : 0 < m
    · have hcv := fun W => conv_one (P := Try.prog) 39 9 5 (48 + (m : Int) % 10) Try.underlying39 Try.underlying5 Try.underlying9 (by omega) (by omega) W
      go_wp2
      go_roundw
      case rel =>
        refine ⟨m / 10, _, by omega, by go_num, rfl, ?_, hbel.alloc hbel.size _⟩
        rw [← HD.out, mdig_step m hlt, app_data]
        simp
      case measure => simp [intOf]; omega
    · go_wp2
      go_ret
      refine ⟨ret_str (bytes_ext ?_), hbel⟩
      obtain rfl : m = 0 := by omega
      rw [app_data, mtext, ← HD.out, mdig_zero]
      rfl
/-- The marks k, k + 1, .. of n strings. -/
def marksS (k n : Nat) : List Value := (List.range n).map fun i => Value.string (mtext (k + i))

set_option maxHeartbeats 400000 in
theorem markStringS_any (A : Option Addr) (n c k base : Nat) (xs : List Value) (w : World) (hown : w.ownsRow base 9 1 (.slice A n c) n xs) (hk : 0 < k) (hn : k + n ≤ 1099511627776) :
    Calls Try.prog 16 #[.slice A n c, .int .i64 k] w fun e w' => e = .returned (.int .i64 (k + n : Nat)) ∧ w'.ownsRow base 9 1 (.slice A n c) n (marksS k n) ∧ w.grownBy w' (Value.slice A n c).ownBlock := by
  have hl : xs.length = n := by simpa using hown.1
  have HL := Lib.hid hl
  clear hl
  go_enter Try.func16, Try.ntmps16
  go_wp2
  go_loopw [1, 5] (fun kk i wr => ∃ j : Nat, j ≤ n ∧ i = .int .i64 j ∧ kk = .int .i64 (k + j : Nat) ∧ wr.ownsRow base 9 1 (.slice A n c) n (marksS k j ++ xs.drop j) ∧ w.grownBy wr (Value.slice A n c).ownBlock) (fun _ i _ => n - (intOf i).toNat)
  case atStart => exact ⟨0, Nat.zero_le _, rfl, rfl, by simpa [marksS] using hown, World.grownBy.refl _ _⟩
  case round =>
    obtain ⟨j, hj, rfl, rfl, ho, hg⟩ := hrel
    have HO := Lib.hid ho
    have HG := Lib.hid hg
    clear ho hg
    by_cases hlt : j < n
    · obtain ⟨g, cap, hv, _, _⟩ := HO.out.form (by omega)
      obtain ⟨rfl, rfl⟩ : A = some ⟨g, 0, none⟩ ∧ c = cap := by simpa using hv
      clear hv
      go_wp2_with fail
      refine (markText_any _ _ (by omega) (by omega)).mono ?_
      rintro e w1 ⟨rfl, hb⟩
      have ho1 := Lib.hid (own_below HO.out hb)
      have hc : w1.cell? ⟨g, j, none⟩ = some ((marksS k j ++ xs.drop j)[j]'(by have := HL.out; simp [marksS]; omega)) := by
        rw [ho1.out.cellAt j (by omega)]; exact List.getElem?_eq_getElem _
      have hf : w1.frozen? ⟨g, j, none⟩ = false := ho1.out.frozenAt j
      obtain ⟨HS1, HS2⟩ := ho1.out.stored j (Value.string (mtext (k + j)))
      have H1 := Lib.hid HS1
      have H2 := Lib.hid HS2
      have HB := Lib.hid hb
      clear HS1 HS2 hb
      go_wp2
      refine ⟨⟨j + 1, by omega, by go_num, by go_num, ?_, grown_grown (grown_then HG.out HB.out) H2.out⟩, by simp [intOf]; omega⟩
      have hs := set_step (fun i => Value.string (mtext (k + i))) xs j (by have := HL.out; omega)
      have := H1.out
      unfold marksS at this ⊢
      rwa [hs] at this
    · go_wp2
      go_ret
      obtain rfl : j = n := by omega
      refine ⟨rfl, ?_, HG.out⟩
      have := HO.out
      rwa [List.drop_of_length_le (by have := HL.out; omega), List.append_nil] at this

set_option maxHeartbeats 400000 in
theorem heldStringS_same (A : Option Addr) (n c k : Nat) (w : World) (hA : VRow w A n (marksS k n)) (hk : 0 < k) (hn : k + n ≤ 1099511627776) :
    Calls Try.prog 17 #[.slice A n c, .int .i64 k] w fun e w' => e = .returned (.int .i64 (k + n : Nat)) ∧ Below w.heap.size w w' := by
  go_enter Try.func17, Try.ntmps17
  go_wp2
  go_loopw [1, 5] (fun kk i wr => ∃ j : Nat, j ≤ n ∧ i = .int .i64 j ∧ kk = .int .i64 (k + j : Nat) ∧ Below w.heap.size w wr) (fun _ i _ => n - (intOf i).toNat)
  case atStart => exact ⟨0, Nat.zero_le _, rfl, rfl, Below.refl _ _⟩
  case round =>
    obtain ⟨j, hj, rfl, rfl, hbel⟩ := hrel
    by_cases hlt : j < n
    · obtain ⟨g, o, rfl, hg, hc⟩ := (hA.below hbel (Nat.le_refl _)).at_ hlt
      have hc' : wr.cell? ⟨g, o + j, none⟩ = some (Value.string (mtext (k + j))) := by rw [hc]; simp [marksS]
      clear hc
      go_wp2
      go_region_held3 (fun w' => w'.cell? ⟨g, o + j, none⟩ = some (Value.string (mtext (k + j)))) (go_keep)
        (first | (go_at_call 29; refine (markText_any _ _ (by omega) (by omega)).mono ?_; rintro e w1 ⟨rfl, hb⟩; have hq : w1.cell? ⟨g, o + j, none⟩ = some (Value.string (mtext (k + j))) := (hb.cell (p := ⟨g, o + j, none⟩) (by simpa using hg)).trans (by simpa using hc')))
      clear hq hc'
      go_wp2
      exact ⟨⟨j + 1, by omega, by go_num, by go_num, hbel.drew.trans (hb.mono hbel.size)⟩, by simp [intOf]; omega⟩
    · go_wp2
      go_ret
      obtain rfl : j = n := by omega
      exact ⟨rfl, hbel⟩
/-- The two contracts above, the first mark given as an integer. -/
theorem markStringS_at (A : Option Addr) (n c k base : Nat) (K : Int) (hK : K = (k : Int)) (xs : List Value) (w : World) (hown : w.ownsRow base 9 1 (.slice A n c) n xs) (hk : 0 < k) (hn : k + n ≤ 1099511627776) :
    Calls Try.prog 16 #[.slice A n c, .int .i64 K] w fun e w' => e = .returned (.int .i64 (k + n : Nat)) ∧ w'.ownsRow base 9 1 (.slice A n c) n (marksS k n) ∧ w.grownBy w' (Value.slice A n c).ownBlock := by
  subst hK
  exact markStringS_any A n c k base xs w hown hk hn
theorem heldStringS_at (A : Option Addr) (n c k : Nat) (K : Int) (hK : K = (k : Int)) (w : World) (hA : VRow w A n (marksS k n)) (hk : 0 < k) (hn : k + n ≤ 1099511627776) :
    Calls Try.prog 17 #[.slice A n c, .int .i64 K] w fun e w' => e = .returned (.int .i64 (k + n : Nat)) ∧ Below w.heap.size w w' := by
  subst hK
  exact heldStringS_same A n c k w hA hk hn
end Go.Proofs.Ytnifekbiggeekaa
