/- LinkOf of both sides. Conditions: none. -/
import Derived.Test.YtbbjckihikhdhaaLkCopy
import Derived.Test.YtbbjckihikhdhaaGraphSet
import Derived.Test.YtbbjckihikhdhaaIsSetS
namespace Go.Proofs.Ytbbjckihikhdhaa
open Go.RowKit Nt Fr
set_option linter.unusedVariables false

/-- A link without its memory. -/
structure Dt where
  A : Int
  B : Int
  P : Fr
  Q : Fr
  R : Fr
def Lr.d (z : Lr) : Dt := ⟨z.A, z.B, z.P, z.Q, z.R⟩
def dts (zs : List Lr) : List Dt := zs.map Lr.d
theorem like_d {y z : Lr} (h : y.like z) : y.d = z.d := by obtain ⟨h1, h2, h3, h4, h5⟩ := h; simp [Lr.d, h1, h2, h3, h4, h5]
theorem d_like {y z : Lr} (h : y.d = z.d) : y.like z := by simp only [Lr.d, Dt.mk.injEq] at h; exact h
theorem dts_like {ys zs : List Lr} {n : Nat} (hy : ys.length = n) (hz : zs.length = n) (h : ∀ (i : Nat) (y z : Lr), ys[i]? = some y → zs[i]? = some z → y.like z) : dts ys = dts zs := by
  apply List.ext_getElem (by simp [dts]; omega)
  intro i h1 h2
  simp only [dts, List.length_map] at h1 h2
  simp only [dts, List.getElem_map]
  exact like_d (h i _ _ (List.getElem?_eq_getElem h1) (List.getElem?_eq_getElem h2))
theorem like_dts {ys zs : List Lr} (h : dts ys = dts zs) : ∀ (i : Nat) (y z : Lr), ys[i]? = some y → zs[i]? = some z → y.like z := by
  intro i y z hy hz
  have h1 : (dts ys)[i]? = some y.d := by simp [dts, hy]
  have h2 : (dts zs)[i]? = some z.d := by simp [dts, hz]
  rw [h, h2] at h1
  exact d_like (Option.some.inj h1).symm
theorem dts_at {zs : List Lr} {k : Nat} {z : Lr} (h : zs[k]? = some z) : (dts zs)[k]? = some z.d := by simp [dts, h]
/-- Does a link have these ends, in either order? -/
def hit (a b : Int) (d : Dt) : Bool := decide ((d.A = a ∧ d.B = b) ∨ (d.A = b ∧ d.B = a))
def lkAns (ok : Bool) (ds : List Dt) (a b : Int) : Option Dt := if ok = true then ds.find? (hit a b) else none
def anA : Option Dt → Int | some d => d.A | none => 0
def anB : Option Dt → Int | some d => d.B | none => 0
def anP : Option Dt → Fr | some d => d.P | none => Fr.zero
def anQ : Option Dt → Fr | some d => d.Q | none => Fr.zero
def anR : Option Dt → Fr | some d => d.R | none => Fr.zero
theorem find_first {α : Type} {p : α → Bool} {l : List α} {k : Nat} {x : α} (h : l[k]? = some x) (hx : p x = true) (hb : ∀ (j : Nat) (y : α), j < k → l[j]? = some y → p y = false) : l.find? p = some x := by
  induction l generalizing k with
  | nil => simp at h
  | cons a r ih =>
    cases k with
    | zero => simp at h; subst h; simp [hx]
    | succ k =>
      simp at h
      have := hb 0 a (by omega) rfl
      simp only [List.find?_cons, this]
      exact ih h (fun j y hj hy => hb (j + 1) y (by omega) (by simpa using hy))
theorem find_none {α : Type} {p : α → Bool} {l : List α} (hb : ∀ (j : Nat) (y : α), l[j]? = some y → p y = false) : l.find? p = none := by
  rw [List.find?_eq_none]
  intro x hx
  obtain ⟨j, hj⟩ := List.mem_iff_getElem?.mp hx
  rw [hb j x hj]; simp
/-- What a function leaves that answers a link and whether there is one. -/
def OwnAns (r : Option Dt) (w : World) (en : Ending) (w' : World) : Prop := OwnKB (anA r) (anB r) (anP r) (anQ r) (anR r) r.isSome w en w'
theorem ownAns_none {r : Option Dt} {w w' : World} (h : r = none) (hb : Below w.heap.size w w') : OwnAns r w (.returned (.tuple #[.agg #[.int .i64 0, .int .i64 0, .bool false, .slice none 0 0, .slice none 0 0, .bool false, .slice none 0 0, .slice none 0 0, .bool false, .slice none 0 0, .slice none 0 0], .bool false])) w' := by
  subst h
  exact ⟨_, _, _, _, _, _, rfl, Owns.nils _ _ 6, hb⟩
theorem ownAns_some {r : Option Dt} {A B : Int} {P Q R : Fr} {w w' : World} {v0 v1 v2 v3 v4 v5 : Value} (h : r = some ⟨A, B, P, Q, R⟩) (ho : Owns w' w.heap.size (rowsK P Q R v0 v1 v2 v3 v4 v5)) (hb : Below w.heap.size w w') : OwnAns r w (.returned (.tuple #[.agg #[.int .i64 A, .int .i64 B, .bool P.s, v0, v1, .bool Q.s, v2, v3, .bool R.s, v4, v5], .bool true])) w' := by
  subst h
  exact ⟨_, _, _, _, _, _, rfl, ho, hb⟩
set_option maxRecDepth 100000 in
set_option maxHeartbeats 4000000 in
theorem linkOf_s (A : Option Addr) (n c : Nat) (zs : List Lr) (a b : Int) (w : World) (hA : LArg w A n zs) (hn : n ≤ 1048576) :
    Calls Try.prog 50 #[.slice A n c, .int .i64 a, .int .i64 b] w (OwnAns (lkAns (okSet zs) (dts zs) a b) w) := by
  have HA := Lib.hid hA
  have HL := Lib.hid hA.row.1
  clear hA
  obtain ⟨ok, hok⟩ : ∃ q, okSet zs = q := ⟨_, rfl⟩
  have HOK := Lib.hid hok
  rw [hok]
  obtain ⟨r, hr⟩ : ∃ q, lkAns ok (dts zs) a b = q := ⟨_, rfl⟩
  have HRr := Lib.hid hr
  rw [hr]
  clear hok hr
  have S_0 := Lib.hid ((St.start w).alloc [.int .i64 0, .int .i64 0, .bool false, .slice none 0 0, .slice none 0 0, .bool false, .slice none 0 0, .slice none 0 0, .bool false, .slice none 0 0, .slice none 0 0] 42)
  go_enter Try.func50, Try.ntmps50
  go_wp2_with fail
  refine (isLinkSet_s A n c zs _ (HA.out.below (S_0.out.below)) hn).mono ?_
  rintro e w1 ⟨rfl, hb⟩
  rw [HOK.out]
  have S_1 := Lib.hid (S_0.out.call hb)
  clear hb S_0
  obtain ⟨bx, hbx⟩ : ∃ u, w.heap.size = u := ⟨_, rfl⟩
  rw [hbx] at S_1 ⊢
  have HBX := Lib.hid hbx
  clear hbx
  cases ok with
  | false =>
    have HE := Lib.hid (show r = none by rw [← HRr.out]; rfl)
    have z0 := S_1.out.cell 0 0 rfl rfl
    have f0 := S_1.out.froz 0 0 rfl rfl
    have z1 := S_1.out.cell 0 1 rfl rfl
    have f1 := S_1.out.froz 0 1 rfl rfl
    have z2 := S_1.out.cell 0 2 rfl rfl
    have f2 := S_1.out.froz 0 2 rfl rfl
    have z3 := S_1.out.cell 0 3 rfl rfl
    have f3 := S_1.out.froz 0 3 rfl rfl
    have z4 := S_1.out.cell 0 4 rfl rfl
    have f4 := S_1.out.froz 0 4 rfl rfl
    have z5 := S_1.out.cell 0 5 rfl rfl
    have f5 := S_1.out.froz 0 5 rfl rfl
    have z6 := S_1.out.cell 0 6 rfl rfl
    have f6 := S_1.out.froz 0 6 rfl rfl
    have z7 := S_1.out.cell 0 7 rfl rfl
    have f7 := S_1.out.froz 0 7 rfl rfl
    have z8 := S_1.out.cell 0 8 rfl rfl
    have f8 := S_1.out.froz 0 8 rfl rfl
    have z9 := S_1.out.cell 0 9 rfl rfl
    have f9 := S_1.out.froz 0 9 rfl rfl
    have z10 := S_1.out.cell 0 10 rfl rfl
    have f10 := S_1.out.froz 0 10 rfl rfl
    go_wp2
    have SZ := Lib.hid (S_1.out.setAll 0 [.int .i64 0, .int .i64 0, .bool false, .slice none 0 0, .slice none 0 0, .bool false, .slice none 0 0, .slice none 0 0, .bool false, .slice none 0 0, .slice none 0 0] rfl rfl)
    exact bodyPost_ret (v := .tuple #[.agg #[.int .i64 0, .int .i64 0, .bool false, .slice none 0 0, .slice none 0 0, .bool false, .slice none 0 0, .slice none 0 0, .bool false, .slice none 0 0, .slice none 0 0], .bool false]) (by simp [results, Try.results50, go_sem, z0, z1, z2, z3, z4, z5, z6, z7, z8, z9, z10]) rfl (ownAns_none HE.out SZ.out.below)
  | true =>
    have HV := Lib.hid (okSet_ok HOK.out)
    go_wp2
    go_loopw [16] (fun i wr => ∃ k : Nat, k ≤ n ∧ i = .int .i64 k ∧ (∀ (j : Nat) (z : Dt), j < k → (dts zs)[j]? = some z → hit a b z = false) ∧ St w wr [(bx, [.int .i64 0, .int .i64 0, .bool false, .slice none 0 0, .slice none 0 0, .bool false, .slice none 0 0, .slice none 0 0, .bool false, .slice none 0 0, .slice none 0 0])] []) (fun i _ => n - (intOf i).toNat)
    case atStart => exact ⟨0, Nat.zero_le _, rfl, fun j z hj => by omega, S_1.out⟩
    case round =>
      obtain ⟨k, hk, rfl, hlt, hst⟩ := hrel
      have S_2 := Lib.hid hst
      have HT := Lib.hid hlt
      clear hst hlt S_1
      by_cases hkn : k < n
      · obtain ⟨g, o, z, rfl, hg, hz, hr, hc⟩ := (HA.out.below S_2.out.below).at_ hkn
        have hzk := HV.out z (List.mem_of_getElem? hz)
        obtain ⟨ZA, ZB, ZP, ZQ, ZR, a0, n0, d0, a1, n1, d1, a2, n2, d2, a3, n3, d3, a4, n4, d4, a5, n5, d5, rfl⟩ := LArg.shapes hr
        have HZ := Lib.hid (dts_at hz)
        have HZK := Lib.hid (show okK ZA ZB ZP ZQ ZR = true from hzk)
        have hbl := S_2.out.lt 0 rfl
        have c0 : wr.cell? ⟨g, o + k * 11, none⟩ = some (.int .i64 ZA) := hc 0 _ rfl
        have c1 : wr.cell? ⟨g, o + k * 11 + 1, none⟩ = some (.int .i64 ZB) := hc 1 _ rfl
        have c2 : wr.cell? ⟨g, o + k * 11 + 2, none⟩ = some (.bool ZP.s) := hc 2 _ rfl
        have c3 : wr.cell? ⟨g, o + k * 11 + 3, none⟩ = some ((.slice a0 n0 d0)) := hc 3 _ rfl
        have c4 : wr.cell? ⟨g, o + k * 11 + 4, none⟩ = some ((.slice a1 n1 d1)) := hc 4 _ rfl
        have c5 : wr.cell? ⟨g, o + k * 11 + 5, none⟩ = some (.bool ZQ.s) := hc 5 _ rfl
        have c6 : wr.cell? ⟨g, o + k * 11 + 6, none⟩ = some ((.slice a2 n2 d2)) := hc 6 _ rfl
        have c7 : wr.cell? ⟨g, o + k * 11 + 7, none⟩ = some ((.slice a3 n3 d3)) := hc 7 _ rfl
        have c8 : wr.cell? ⟨g, o + k * 11 + 8, none⟩ = some (.bool ZR.s) := hc 8 _ rfl
        have c9 : wr.cell? ⟨g, o + k * 11 + 9, none⟩ = some ((.slice a4 n4 d4)) := hc 9 _ rfl
        have c10 : wr.cell? ⟨g, o + k * 11 + 10, none⟩ = some ((.slice a5 n5 d5)) := hc 10 _ rfl
        have S_3 := Lib.hid (S_2.out.allocE [.int .i64 ZA, .int .i64 ZB, .bool ZP.s, (.slice a0 n0 d0), (.slice a1 n1 d1), .bool ZQ.s, (.slice a2 n2 d2), (.slice a3 n3 d3), .bool ZR.s, (.slice a4 n4 d4), (.slice a5 n5 d5)] 42)
        have HR3 := Lib.hid (show LkA (wr.alloc (.cells #[.int .i64 ZA, .int .i64 ZB, .bool ZP.s, (.slice a0 n0 d0), (.slice a1 n1 d1), .bool ZQ.s, (.slice a2 n2 d2), (.slice a3 n3 d3), .bool ZR.s, (.slice a4 n4 d4), (.slice a5 n5 d5)] 42)) ZP ZQ ZR (.slice a0 n0 d0) (.slice a1 n1 d1) (.slice a2 n2 d2) (.slice a3 n3 d3) (.slice a4 n4 d4) (.slice a5 n5 d5) from LkA.below hr ((Below.refl _ _).alloc (Nat.le_refl _) (.cells #[.int .i64 ZA, .int .i64 ZB, .bool ZP.s, (.slice a0 n0 d0), (.slice a1 n1 d1), .bool ZQ.s, (.slice a2 n2 d2), (.slice a3 n3 d3), .bool ZR.s, (.slice a4 n4 d4), (.slice a5 n5 d5)] 42)))
        clear hz hr hc hzk S_2
        by_cases e1 : ZA = a
        · by_cases e2 : ZB = b
          · have ge1 : (ZA == a) = true := by simpa using e1
            have He1 := Lib.hid e1
            clear e1
            have ge2 : (ZB == b) = true := by simpa using e2
            have He2 := Lib.hid e2
            clear e2
            have HE := Lib.hid (show r = some ⟨ZA, ZB, ZP, ZQ, ZR⟩ by rw [← HRr.out]; exact find_first HZ.out (by have e1 := He1.out; have e2 := He2.out; unfold hit; exact decide_eq_true (by simp only; omega)) HT.out)
            go_wp2_with fail
            refine (l06Copy_f ZA ZB ZP ZQ ZR (.slice a0 n0 d0) (.slice a1 n1 d1) (.slice a2 n2 d2) (.slice a3 n3 d3) (.slice a4 n4 d4) (.slice a5 n5 d5) _ HZK.out HR3.out).mono ?_
            rintro e w3 ⟨x0, x1, x2, x3, x4, x5, rfl, ho, hb⟩
            obtain ⟨e0, m0, h0, rfl⟩ := (ho.at_ 0 rfl).shape3
            obtain ⟨e1, m1, h1, rfl⟩ := (ho.at_ 1 rfl).shape3
            obtain ⟨e2, m2, h2, rfl⟩ := (ho.at_ 2 rfl).shape3
            obtain ⟨e3, m3, h3, rfl⟩ := (ho.at_ 3 rfl).shape3
            obtain ⟨e4, m4, h4, rfl⟩ := (ho.at_ 4 rfl).shape3
            obtain ⟨e5, m5, h5, rfl⟩ := (ho.at_ 5 rfl).shape3
            have S_4 := Lib.hid (S_3.out.rows ho hb)
            clear ho hb S_3
            have z0 := S_4.out.cell 0 0 rfl rfl
            have f0 := S_4.out.froz 0 0 rfl rfl
            have z1 := S_4.out.cell 0 1 rfl rfl
            have f1 := S_4.out.froz 0 1 rfl rfl
            have z2 := S_4.out.cell 0 2 rfl rfl
            have f2 := S_4.out.froz 0 2 rfl rfl
            have z3 := S_4.out.cell 0 3 rfl rfl
            have f3 := S_4.out.froz 0 3 rfl rfl
            have z4 := S_4.out.cell 0 4 rfl rfl
            have f4 := S_4.out.froz 0 4 rfl rfl
            have z5 := S_4.out.cell 0 5 rfl rfl
            have f5 := S_4.out.froz 0 5 rfl rfl
            have z6 := S_4.out.cell 0 6 rfl rfl
            have f6 := S_4.out.froz 0 6 rfl rfl
            have z7 := S_4.out.cell 0 7 rfl rfl
            have f7 := S_4.out.froz 0 7 rfl rfl
            have z8 := S_4.out.cell 0 8 rfl rfl
            have f8 := S_4.out.froz 0 8 rfl rfl
            have z9 := S_4.out.cell 0 9 rfl rfl
            have f9 := S_4.out.froz 0 9 rfl rfl
            have z10 := S_4.out.cell 0 10 rfl rfl
            have f10 := S_4.out.froz 0 10 rfl rfl
            go_wp2
            have SR := Lib.hid (S_4.out.setAll 0 [.int .i64 ZA, .int .i64 ZB, .bool ZP.s, (.slice e0 m0 h0), (.slice e1 m1 h1), .bool ZQ.s, (.slice e2 m2 h2), (.slice e3 m3 h3), .bool ZR.s, (.slice e4 m4 h4), (.slice e5 m5 h5)] rfl rfl)
            exact bodyPost_ret (v := .tuple #[.agg #[.int .i64 ZA, .int .i64 ZB, .bool ZP.s, (.slice e0 m0 h0), (.slice e1 m1 h1), .bool ZQ.s, (.slice e2 m2 h2), (.slice e3 m3 h3), .bool ZR.s, (.slice e4 m4 h4), (.slice e5 m5 h5)], .bool true]) (by simp [results, Try.results50, go_sem, z0, z1, z2, z3, z4, z5, z6, z7, z8, z9, z10]) rfl (ownAns_some HE.out (SR.out.own 0 rfl) SR.out.below)
          · by_cases e3 : ZA = b
            · by_cases e4 : ZB = a
              · have ge1 : (ZA == a) = true := by simpa using e1
                have He1 := Lib.hid e1
                clear e1
                have ge2 : (ZB == b) = false := by simpa using e2
                have He2 := Lib.hid e2
                clear e2
                have ge3 : (ZA == b) = true := by simpa using e3
                have He3 := Lib.hid e3
                clear e3
                have ge4 : (ZB == a) = true := by simpa using e4
                have He4 := Lib.hid e4
                clear e4
                have HE := Lib.hid (show r = some ⟨ZA, ZB, ZP, ZQ, ZR⟩ by rw [← HRr.out]; exact find_first HZ.out (by have e1 := He1.out; have e2 := He2.out; have e3 := He3.out; have e4 := He4.out; unfold hit; exact decide_eq_true (by simp only; omega)) HT.out)
                go_wp2_with fail
                refine (l06Copy_f ZA ZB ZP ZQ ZR (.slice a0 n0 d0) (.slice a1 n1 d1) (.slice a2 n2 d2) (.slice a3 n3 d3) (.slice a4 n4 d4) (.slice a5 n5 d5) _ HZK.out HR3.out).mono ?_
                rintro e w3 ⟨x0, x1, x2, x3, x4, x5, rfl, ho, hb⟩
                obtain ⟨e0, m0, h0, rfl⟩ := (ho.at_ 0 rfl).shape3
                obtain ⟨e1, m1, h1, rfl⟩ := (ho.at_ 1 rfl).shape3
                obtain ⟨e2, m2, h2, rfl⟩ := (ho.at_ 2 rfl).shape3
                obtain ⟨e3, m3, h3, rfl⟩ := (ho.at_ 3 rfl).shape3
                obtain ⟨e4, m4, h4, rfl⟩ := (ho.at_ 4 rfl).shape3
                obtain ⟨e5, m5, h5, rfl⟩ := (ho.at_ 5 rfl).shape3
                have S_4 := Lib.hid (S_3.out.rows ho hb)
                clear ho hb S_3
                have z0 := S_4.out.cell 0 0 rfl rfl
                have f0 := S_4.out.froz 0 0 rfl rfl
                have z1 := S_4.out.cell 0 1 rfl rfl
                have f1 := S_4.out.froz 0 1 rfl rfl
                have z2 := S_4.out.cell 0 2 rfl rfl
                have f2 := S_4.out.froz 0 2 rfl rfl
                have z3 := S_4.out.cell 0 3 rfl rfl
                have f3 := S_4.out.froz 0 3 rfl rfl
                have z4 := S_4.out.cell 0 4 rfl rfl
                have f4 := S_4.out.froz 0 4 rfl rfl
                have z5 := S_4.out.cell 0 5 rfl rfl
                have f5 := S_4.out.froz 0 5 rfl rfl
                have z6 := S_4.out.cell 0 6 rfl rfl
                have f6 := S_4.out.froz 0 6 rfl rfl
                have z7 := S_4.out.cell 0 7 rfl rfl
                have f7 := S_4.out.froz 0 7 rfl rfl
                have z8 := S_4.out.cell 0 8 rfl rfl
                have f8 := S_4.out.froz 0 8 rfl rfl
                have z9 := S_4.out.cell 0 9 rfl rfl
                have f9 := S_4.out.froz 0 9 rfl rfl
                have z10 := S_4.out.cell 0 10 rfl rfl
                have f10 := S_4.out.froz 0 10 rfl rfl
                go_wp2
                have SR := Lib.hid (S_4.out.setAll 0 [.int .i64 ZA, .int .i64 ZB, .bool ZP.s, (.slice e0 m0 h0), (.slice e1 m1 h1), .bool ZQ.s, (.slice e2 m2 h2), (.slice e3 m3 h3), .bool ZR.s, (.slice e4 m4 h4), (.slice e5 m5 h5)] rfl rfl)
                exact bodyPost_ret (v := .tuple #[.agg #[.int .i64 ZA, .int .i64 ZB, .bool ZP.s, (.slice e0 m0 h0), (.slice e1 m1 h1), .bool ZQ.s, (.slice e2 m2 h2), (.slice e3 m3 h3), .bool ZR.s, (.slice e4 m4 h4), (.slice e5 m5 h5)], .bool true]) (by simp [results, Try.results50, go_sem, z0, z1, z2, z3, z4, z5, z6, z7, z8, z9, z10]) rfl (ownAns_some HE.out (SR.out.own 0 rfl) SR.out.below)
              · have ge1 : (ZA == a) = true := by simpa using e1
                have He1 := Lib.hid e1
                clear e1
                have ge2 : (ZB == b) = false := by simpa using e2
                have He2 := Lib.hid e2
                clear e2
                have ge3 : (ZA == b) = true := by simpa using e3
                have He3 := Lib.hid e3
                clear e3
                have ge4 : (ZB == a) = false := by simpa using e4
                have He4 := Lib.hid e4
                clear e4
                have HT2 := Lib.hid (show ∀ (j : Nat) (z : Dt), j < k + 1 → (dts zs)[j]? = some z → hit a b z = false from fun j z hj hz => by
                  by_cases e : j = k
                  · subst e
                    obtain rfl := Option.some.inj (HZ.out.symm.trans hz)
                    have e1 := He1.out; have e2 := He2.out; have e3 := He3.out; have e4 := He4.out
                    unfold hit; exact decide_eq_false (by simp only [Lr.d]; omega)
                  · exact HT.out j z (by omega) hz)
                have S_5 := Lib.hid (S_3.out.dropBox 1)
                clear S_3
                go_wp2
                exact ⟨⟨k + 1, by omega, by go_num, HT2.out, S_5.out⟩, by simp [intOf]; omega⟩
            · have ge1 : (ZA == a) = true := by simpa using e1
              have He1 := Lib.hid e1
              clear e1
              have ge2 : (ZB == b) = false := by simpa using e2
              have He2 := Lib.hid e2
              clear e2
              have ge3 : (ZA == b) = false := by simpa using e3
              have He3 := Lib.hid e3
              clear e3
              have HT2 := Lib.hid (show ∀ (j : Nat) (z : Dt), j < k + 1 → (dts zs)[j]? = some z → hit a b z = false from fun j z hj hz => by
                by_cases e : j = k
                · subst e
                  obtain rfl := Option.some.inj (HZ.out.symm.trans hz)
                  have e1 := He1.out; have e2 := He2.out; have e3 := He3.out
                  unfold hit; exact decide_eq_false (by simp only [Lr.d]; omega)
                · exact HT.out j z (by omega) hz)
              have S_5 := Lib.hid (S_3.out.dropBox 1)
              clear S_3
              go_wp2
              exact ⟨⟨k + 1, by omega, by go_num, HT2.out, S_5.out⟩, by simp [intOf]; omega⟩
        · by_cases e3 : ZA = b
          · by_cases e4 : ZB = a
            · have ge1 : (ZA == a) = false := by simpa using e1
              have He1 := Lib.hid e1
              clear e1
              have ge3 : (ZA == b) = true := by simpa using e3
              have He3 := Lib.hid e3
              clear e3
              have ge4 : (ZB == a) = true := by simpa using e4
              have He4 := Lib.hid e4
              clear e4
              have HE := Lib.hid (show r = some ⟨ZA, ZB, ZP, ZQ, ZR⟩ by rw [← HRr.out]; exact find_first HZ.out (by have e1 := He1.out; have e3 := He3.out; have e4 := He4.out; unfold hit; exact decide_eq_true (by simp only; omega)) HT.out)
              go_wp2_with fail
              refine (l06Copy_f ZA ZB ZP ZQ ZR (.slice a0 n0 d0) (.slice a1 n1 d1) (.slice a2 n2 d2) (.slice a3 n3 d3) (.slice a4 n4 d4) (.slice a5 n5 d5) _ HZK.out HR3.out).mono ?_
              rintro e w3 ⟨x0, x1, x2, x3, x4, x5, rfl, ho, hb⟩
              obtain ⟨e0, m0, h0, rfl⟩ := (ho.at_ 0 rfl).shape3
              obtain ⟨e1, m1, h1, rfl⟩ := (ho.at_ 1 rfl).shape3
              obtain ⟨e2, m2, h2, rfl⟩ := (ho.at_ 2 rfl).shape3
              obtain ⟨e3, m3, h3, rfl⟩ := (ho.at_ 3 rfl).shape3
              obtain ⟨e4, m4, h4, rfl⟩ := (ho.at_ 4 rfl).shape3
              obtain ⟨e5, m5, h5, rfl⟩ := (ho.at_ 5 rfl).shape3
              have S_4 := Lib.hid (S_3.out.rows ho hb)
              clear ho hb S_3
              have z0 := S_4.out.cell 0 0 rfl rfl
              have f0 := S_4.out.froz 0 0 rfl rfl
              have z1 := S_4.out.cell 0 1 rfl rfl
              have f1 := S_4.out.froz 0 1 rfl rfl
              have z2 := S_4.out.cell 0 2 rfl rfl
              have f2 := S_4.out.froz 0 2 rfl rfl
              have z3 := S_4.out.cell 0 3 rfl rfl
              have f3 := S_4.out.froz 0 3 rfl rfl
              have z4 := S_4.out.cell 0 4 rfl rfl
              have f4 := S_4.out.froz 0 4 rfl rfl
              have z5 := S_4.out.cell 0 5 rfl rfl
              have f5 := S_4.out.froz 0 5 rfl rfl
              have z6 := S_4.out.cell 0 6 rfl rfl
              have f6 := S_4.out.froz 0 6 rfl rfl
              have z7 := S_4.out.cell 0 7 rfl rfl
              have f7 := S_4.out.froz 0 7 rfl rfl
              have z8 := S_4.out.cell 0 8 rfl rfl
              have f8 := S_4.out.froz 0 8 rfl rfl
              have z9 := S_4.out.cell 0 9 rfl rfl
              have f9 := S_4.out.froz 0 9 rfl rfl
              have z10 := S_4.out.cell 0 10 rfl rfl
              have f10 := S_4.out.froz 0 10 rfl rfl
              go_wp2
              have SR := Lib.hid (S_4.out.setAll 0 [.int .i64 ZA, .int .i64 ZB, .bool ZP.s, (.slice e0 m0 h0), (.slice e1 m1 h1), .bool ZQ.s, (.slice e2 m2 h2), (.slice e3 m3 h3), .bool ZR.s, (.slice e4 m4 h4), (.slice e5 m5 h5)] rfl rfl)
              exact bodyPost_ret (v := .tuple #[.agg #[.int .i64 ZA, .int .i64 ZB, .bool ZP.s, (.slice e0 m0 h0), (.slice e1 m1 h1), .bool ZQ.s, (.slice e2 m2 h2), (.slice e3 m3 h3), .bool ZR.s, (.slice e4 m4 h4), (.slice e5 m5 h5)], .bool true]) (by simp [results, Try.results50, go_sem, z0, z1, z2, z3, z4, z5, z6, z7, z8, z9, z10]) rfl (ownAns_some HE.out (SR.out.own 0 rfl) SR.out.below)
            · have ge1 : (ZA == a) = false := by simpa using e1
              have He1 := Lib.hid e1
              clear e1
              have ge3 : (ZA == b) = true := by simpa using e3
              have He3 := Lib.hid e3
              clear e3
              have ge4 : (ZB == a) = false := by simpa using e4
              have He4 := Lib.hid e4
              clear e4
              have HT2 := Lib.hid (show ∀ (j : Nat) (z : Dt), j < k + 1 → (dts zs)[j]? = some z → hit a b z = false from fun j z hj hz => by
                by_cases e : j = k
                · subst e
                  obtain rfl := Option.some.inj (HZ.out.symm.trans hz)
                  have e1 := He1.out; have e3 := He3.out; have e4 := He4.out
                  unfold hit; exact decide_eq_false (by simp only [Lr.d]; omega)
                · exact HT.out j z (by omega) hz)
              have S_5 := Lib.hid (S_3.out.dropBox 1)
              clear S_3
              go_wp2
              exact ⟨⟨k + 1, by omega, by go_num, HT2.out, S_5.out⟩, by simp [intOf]; omega⟩
          · have ge1 : (ZA == a) = false := by simpa using e1
            have He1 := Lib.hid e1
            clear e1
            have ge3 : (ZA == b) = false := by simpa using e3
            have He3 := Lib.hid e3
            clear e3
            have HT2 := Lib.hid (show ∀ (j : Nat) (z : Dt), j < k + 1 → (dts zs)[j]? = some z → hit a b z = false from fun j z hj hz => by
              by_cases e : j = k
              · subst e
                obtain rfl := Option.some.inj (HZ.out.symm.trans hz)
                have e1 := He1.out; have e3 := He3.out
                unfold hit; exact decide_eq_false (by simp only [Lr.d]; omega)
              · exact HT.out j z (by omega) hz)
            have S_5 := Lib.hid (S_3.out.dropBox 1)
            clear S_3
            go_wp2
            exact ⟨⟨k + 1, by omega, by go_num, HT2.out, S_5.out⟩, by simp [intOf]; omega⟩
      · obtain rfl : k = n := by omega
        have HE := Lib.hid (show r = none by rw [← HRr.out]; exact find_none (fun j y hy => HT.out j y (by have := (List.getElem?_eq_some_iff.mp hy).1; simp only [dts, List.length_map] at this; rw [HL.out] at this; exact this) hy))
        have z0 := S_2.out.cell 0 0 rfl rfl
        have f0 := S_2.out.froz 0 0 rfl rfl
        have z1 := S_2.out.cell 0 1 rfl rfl
        have f1 := S_2.out.froz 0 1 rfl rfl
        have z2 := S_2.out.cell 0 2 rfl rfl
        have f2 := S_2.out.froz 0 2 rfl rfl
        have z3 := S_2.out.cell 0 3 rfl rfl
        have f3 := S_2.out.froz 0 3 rfl rfl
        have z4 := S_2.out.cell 0 4 rfl rfl
        have f4 := S_2.out.froz 0 4 rfl rfl
        have z5 := S_2.out.cell 0 5 rfl rfl
        have f5 := S_2.out.froz 0 5 rfl rfl
        have z6 := S_2.out.cell 0 6 rfl rfl
        have f6 := S_2.out.froz 0 6 rfl rfl
        have z7 := S_2.out.cell 0 7 rfl rfl
        have f7 := S_2.out.froz 0 7 rfl rfl
        have z8 := S_2.out.cell 0 8 rfl rfl
        have f8 := S_2.out.froz 0 8 rfl rfl
        have z9 := S_2.out.cell 0 9 rfl rfl
        have f9 := S_2.out.froz 0 9 rfl rfl
        have z10 := S_2.out.cell 0 10 rfl rfl
        have f10 := S_2.out.froz 0 10 rfl rfl
        go_wp2
        have SZ := Lib.hid (S_2.out.setAll 0 [.int .i64 0, .int .i64 0, .bool false, .slice none 0 0, .slice none 0 0, .bool false, .slice none 0 0, .slice none 0 0, .bool false, .slice none 0 0, .slice none 0 0] rfl rfl)
        exact bodyPost_ret (v := .tuple #[.agg #[.int .i64 0, .int .i64 0, .bool false, .slice none 0 0, .slice none 0 0, .bool false, .slice none 0 0, .slice none 0 0, .bool false, .slice none 0 0, .slice none 0 0], .bool false]) (by simp [results, Try.results50, go_sem, z0, z1, z2, z3, z4, z5, z6, z7, z8, z9, z10]) rfl (ownAns_none HE.out SZ.out.below)
theorem lkAns_like {ys zs : List Lr} {n : Nat} {a b : Int} (hy : ys.length = n) (hz : zs.length = n) (h : ∀ (i : Nat) (y z : Lr), ys[i]? = some y → zs[i]? = some z → y.like z) : lkAns (okSet ys) (dts ys) a b = lkAns (okSet zs) (dts zs) a b := by
  rw [okSet_like hy hz h, dts_like hy hz h]
theorem lkAns_len (zs : List Lr) (a b : Int) : (anP (lkAns (okSet zs) (dts zs) a b)).len + (anQ (lkAns (okSet zs) (dts zs) a b)).len + (anR (lkAns (okSet zs) (dts zs) a b)).len ≤ 1048576 := by
  cases hr : lkAns (okSet zs) (dts zs) a b with
  | none => simp [anP, anQ, anR, Fr.len, Fr.zero]
  | some d =>
    unfold lkAns at hr
    split at hr
    · rename_i hok
      have hd := List.mem_of_find?_eq_some hr
      obtain ⟨z, hz, rfl⟩ := List.mem_map.mp hd
      obtain ⟨h1, h2, h3⟩ := okK_fr (okSet_ok hok z hz)
      have g1 := (Fr.Good.len (.inl h1))
      have g2 := (Fr.Good.len (.inl h2))
      have g3 := (Fr.Good.len (.inl h3))
      simp only [anP, anQ, anR, Lr.d]; omega
    · simp at hr
theorem cmpK_trans3 {A B C E X Y : Int} (h1 : lessK A B C E = true) (h2 : 0 < cmpK A B X Y) : 0 < cmpK C E X Y := by
  unfold lessK at h1
  unfold cmpK cmpI2 at h2 ⊢
  simp only [Bool.or_eq_true, Bool.and_eq_true, decide_eq_true_eq] at h1
  split at h2 <;> (repeat' split at *) <;> omega
theorem place_hit {zs : List Lr} {a b : Int} {i : Nat} {z : Lr} (hok : okSet zs = true) (hp : PlaceAt zs (min a b) (max a b) i true) (hz : zs[i]? = some z) : lkAns true (dts zs) a b = some z.d := by
  obtain ⟨_, h2, h3, _⟩ := hp
  have hv := okSet_ok hok
  refine find_first (dts_at hz) ?_ (fun j y hj hy => ?_)
  · have := (h3 z hz).2
    have h4 : cmpK z.A z.B (min a b) (max a b) = 0 := of_decide_eq_true this.symm
    obtain ⟨e1, e2⟩ := (cmpK_zero _ _ _ _).mp h4
    unfold hit; exact decide_eq_true (by simp only [Lr.d]; omega)
  · simp only [dts, List.getElem?_map, Option.map_eq_some_iff] at hy
    obtain ⟨u, hu, rfl⟩ := hy
    have hk := okK_parts (hv u (List.mem_of_getElem? hu))
    have h4 := h2 j u hj hu
    unfold hit; refine decide_eq_false fun hx => ?_
    simp only [Lr.d] at hx
    have := (cmpK_zero u.A u.B (min a b) (max a b)).mpr (by omega)
    omega
theorem place_miss {zs : List Lr} {a b : Int} {i : Nat} (hok : okSet zs = true) (hp : PlaceAt zs (min a b) (max a b) i false) : lkAns true (dts zs) a b = none := by
  obtain ⟨_, h2, h3, _⟩ := hp
  have hv := okSet_ok hok
  have hpw : zs.Pairwise fun p q => lessK p.A p.B q.A q.B = true := by
    obtain ⟨_, ha⟩ := okSet_iff.mp hok
    refine pairwise_of_adj (fun p q s h1 h2 => by unfold lessK at *; simp only [Bool.or_eq_true, Bool.and_eq_true, decide_eq_true_eq] at *; omega) zs fun j p q h1 h2 => ha j p q (List.getElem?_eq_some_iff.mp h2).1 h1 h2
  refine find_none fun j y hy => ?_
  simp only [dts, List.getElem?_map, Option.map_eq_some_iff] at hy
  obtain ⟨u, hu, rfl⟩ := hy
  have hk := okK_parts (hv u (List.mem_of_getElem? hu))
  have hne : cmpK u.A u.B (min a b) (max a b) ≠ 0 := by
    by_cases hj : j < i
    · have := h2 j u hj hu; omega
    · have hi : i < zs.length := by have := (List.getElem?_eq_some_iff.mp hu).1; omega
      have hz := h3 _ (List.getElem?_eq_getElem hi)
      have hz2 : ¬ cmpK zs[i].A zs[i].B (min a b) (max a b) = 0 := of_decide_eq_false hz.2.symm
      by_cases e : j = i
      · subst e
        obtain rfl := Option.some.inj ((List.getElem?_eq_getElem hi).symm.trans hu)
        exact hz2
      · obtain ⟨hjl, e2⟩ := List.getElem?_eq_some_iff.mp hu
        have := List.pairwise_iff_getElem.mp hpw i j hi hjl (by omega)
        rw [e2] at this
        have := cmpK_trans3 (X := min a b) (Y := max a b) this (by omega)
        omega
  unfold hit; refine decide_eq_false fun hx => hne ((cmpK_zero _ _ _ _).mpr ?_)
  simp only [Lr.d] at hx
  omega
set_option maxRecDepth 100000 in
set_option maxHeartbeats 4000000 in
theorem linkOf_i (A : Option Addr) (n c : Nat) (zs : List Lr) (a b : Int) (w : World) (hA : LArg w A n zs) (hn : n ≤ 1048576) :
    Calls Try.prog 51 #[.slice A n c, .int .i64 a, .int .i64 b] w (OwnAns (lkAns (okSet zs) (dts zs) a b) w) := by
  have HA := Lib.hid hA
  have HL := Lib.hid hA.row.1
  clear hA
  obtain ⟨ok, hok⟩ : ∃ q, okSet zs = q := ⟨_, rfl⟩
  have HOK := Lib.hid hok
  rw [hok]
  obtain ⟨r, hr⟩ : ∃ q, lkAns ok (dts zs) a b = q := ⟨_, rfl⟩
  have HRr := Lib.hid hr
  rw [hr]
  clear hok hr
  have S_0 := Lib.hid ((St.start w).alloc [.int .i64 0, .int .i64 0, .bool false, .slice none 0 0, .slice none 0 0, .bool false, .slice none 0 0, .slice none 0 0, .bool false, .slice none 0 0, .slice none 0 0] 42)
  go_enter Try.func51, Try.ntmps51
  go_wp2_with fail
  refine (isLinkSet_i A n c zs _ (HA.out.below (S_0.out.below)) hn (fun u h => isAscending_f A n c zs u h hn)).mono ?_
  rintro e w1 ⟨rfl, hb⟩
  rw [HOK.out]
  have S_1 := Lib.hid (S_0.out.call hb)
  clear hb S_0
  obtain ⟨bx, hbx⟩ : ∃ u, w.heap.size = u := ⟨_, rfl⟩
  rw [hbx] at S_1 ⊢
  have HBX := Lib.hid hbx
  clear hbx
  cases ok with
  | false =>
    have HE := Lib.hid (show r = none by rw [← HRr.out]; rfl)
    have z0 := S_1.out.cell 0 0 rfl rfl
    have f0 := S_1.out.froz 0 0 rfl rfl
    have z1 := S_1.out.cell 0 1 rfl rfl
    have f1 := S_1.out.froz 0 1 rfl rfl
    have z2 := S_1.out.cell 0 2 rfl rfl
    have f2 := S_1.out.froz 0 2 rfl rfl
    have z3 := S_1.out.cell 0 3 rfl rfl
    have f3 := S_1.out.froz 0 3 rfl rfl
    have z4 := S_1.out.cell 0 4 rfl rfl
    have f4 := S_1.out.froz 0 4 rfl rfl
    have z5 := S_1.out.cell 0 5 rfl rfl
    have f5 := S_1.out.froz 0 5 rfl rfl
    have z6 := S_1.out.cell 0 6 rfl rfl
    have f6 := S_1.out.froz 0 6 rfl rfl
    have z7 := S_1.out.cell 0 7 rfl rfl
    have f7 := S_1.out.froz 0 7 rfl rfl
    have z8 := S_1.out.cell 0 8 rfl rfl
    have f8 := S_1.out.froz 0 8 rfl rfl
    have z9 := S_1.out.cell 0 9 rfl rfl
    have f9 := S_1.out.froz 0 9 rfl rfl
    have z10 := S_1.out.cell 0 10 rfl rfl
    have f10 := S_1.out.froz 0 10 rfl rfl
    go_wp2
    have SZ := Lib.hid (S_1.out.setAll 0 [.int .i64 0, .int .i64 0, .bool false, .slice none 0 0, .slice none 0 0, .bool false, .slice none 0 0, .slice none 0 0, .bool false, .slice none 0 0, .slice none 0 0] rfl rfl)
    exact bodyPost_ret (v := .tuple #[.agg #[.int .i64 0, .int .i64 0, .bool false, .slice none 0 0, .slice none 0 0, .bool false, .slice none 0 0, .slice none 0 0, .bool false, .slice none 0 0, .slice none 0 0], .bool false]) (by simp [results, Try.results51, go_sem, z0, z1, z2, z3, z4, z5, z6, z7, z8, z9, z10]) rfl (ownAns_none HE.out SZ.out.below)
  | true =>
    have HV := Lib.hid (okSet_ok HOK.out)
    go_wp2_with fail
    refine (placeOf_f A n c zs (min a b) (max a b) Fr.zero Fr.zero Fr.zero (.slice none 0 0) (.slice none 0 0) (.slice none 0 0) (.slice none 0 0) (.slice none 0 0) (.slice none 0 0) _ (HA.out.below S_1.out.below) hn).mono ?_
    rintro e w2 ⟨i, f, rfl, hp, hb⟩
    have HP := Lib.hid hp
    have S_3 := Lib.hid (S_1.out.call hb)
    clear hp hb S_1
    cases f with
    | false =>
      have HE := Lib.hid (show r = none by rw [← HRr.out]; exact place_miss HOK.out HP.out)
      have z0 := S_3.out.cell 0 0 rfl rfl
      have f0 := S_3.out.froz 0 0 rfl rfl
      have z1 := S_3.out.cell 0 1 rfl rfl
      have f1 := S_3.out.froz 0 1 rfl rfl
      have z2 := S_3.out.cell 0 2 rfl rfl
      have f2 := S_3.out.froz 0 2 rfl rfl
      have z3 := S_3.out.cell 0 3 rfl rfl
      have f3 := S_3.out.froz 0 3 rfl rfl
      have z4 := S_3.out.cell 0 4 rfl rfl
      have f4 := S_3.out.froz 0 4 rfl rfl
      have z5 := S_3.out.cell 0 5 rfl rfl
      have f5 := S_3.out.froz 0 5 rfl rfl
      have z6 := S_3.out.cell 0 6 rfl rfl
      have f6 := S_3.out.froz 0 6 rfl rfl
      have z7 := S_3.out.cell 0 7 rfl rfl
      have f7 := S_3.out.froz 0 7 rfl rfl
      have z8 := S_3.out.cell 0 8 rfl rfl
      have f8 := S_3.out.froz 0 8 rfl rfl
      have z9 := S_3.out.cell 0 9 rfl rfl
      have f9 := S_3.out.froz 0 9 rfl rfl
      have z10 := S_3.out.cell 0 10 rfl rfl
      have f10 := S_3.out.froz 0 10 rfl rfl
      go_wp2
      have SZ := Lib.hid (S_3.out.setAll 0 [.int .i64 0, .int .i64 0, .bool false, .slice none 0 0, .slice none 0 0, .bool false, .slice none 0 0, .slice none 0 0, .bool false, .slice none 0 0, .slice none 0 0] rfl rfl)
      exact bodyPost_ret (v := .tuple #[.agg #[.int .i64 0, .int .i64 0, .bool false, .slice none 0 0, .slice none 0 0, .bool false, .slice none 0 0, .slice none 0 0, .bool false, .slice none 0 0, .slice none 0 0], .bool false]) (by simp [results, Try.results51, go_sem, z0, z1, z2, z3, z4, z5, z6, z7, z8, z9, z10]) rfl (ownAns_none HE.out SZ.out.below)
    | true =>
      have hin : i < n := by
        have h1 := HP.out.1
        have h2 := HP.out.2.2.2
        rw [HL.out] at h1 h2
        rcases Nat.lt_or_ge i n with h | h
        · exact h
        · exact absurd (h2 (by omega)) (by decide)
      obtain ⟨g, o, z, rfl, hg, hz, hr, hc⟩ := (HA.out.below S_3.out.below).at_ hin
      have hzk := HV.out z (List.mem_of_getElem? hz)
      obtain ⟨ZA, ZB, ZP, ZQ, ZR, a0, n0, d0, a1, n1, d1, a2, n2, d2, a3, n3, d3, a4, n4, d4, a5, n5, d5, rfl⟩ := LArg.shapes hr
      have HE := Lib.hid (show r = some ⟨ZA, ZB, ZP, ZQ, ZR⟩ by rw [← HRr.out]; exact place_hit HOK.out HP.out hz)
      have HZK := Lib.hid (show okK ZA ZB ZP ZQ ZR = true from hzk)
      have HR3 := Lib.hid (show LkA w2 ZP ZQ ZR (.slice a0 n0 d0) (.slice a1 n1 d1) (.slice a2 n2 d2) (.slice a3 n3 d3) (.slice a4 n4 d4) (.slice a5 n5 d5) from hr)
      have c0 : w2.cell? ⟨g, o + i * 11, none⟩ = some (.int .i64 ZA) := hc 0 _ rfl
      have c1 : w2.cell? ⟨g, o + i * 11 + 1, none⟩ = some (.int .i64 ZB) := hc 1 _ rfl
      have c2 : w2.cell? ⟨g, o + i * 11 + 2, none⟩ = some (.bool ZP.s) := hc 2 _ rfl
      have c3 : w2.cell? ⟨g, o + i * 11 + 3, none⟩ = some ((.slice a0 n0 d0)) := hc 3 _ rfl
      have c4 : w2.cell? ⟨g, o + i * 11 + 4, none⟩ = some ((.slice a1 n1 d1)) := hc 4 _ rfl
      have c5 : w2.cell? ⟨g, o + i * 11 + 5, none⟩ = some (.bool ZQ.s) := hc 5 _ rfl
      have c6 : w2.cell? ⟨g, o + i * 11 + 6, none⟩ = some ((.slice a2 n2 d2)) := hc 6 _ rfl
      have c7 : w2.cell? ⟨g, o + i * 11 + 7, none⟩ = some ((.slice a3 n3 d3)) := hc 7 _ rfl
      have c8 : w2.cell? ⟨g, o + i * 11 + 8, none⟩ = some (.bool ZR.s) := hc 8 _ rfl
      have c9 : w2.cell? ⟨g, o + i * 11 + 9, none⟩ = some ((.slice a4 n4 d4)) := hc 9 _ rfl
      have c10 : w2.cell? ⟨g, o + i * 11 + 10, none⟩ = some ((.slice a5 n5 d5)) := hc 10 _ rfl
      clear hz hr hc hzk
      have hi0 : (0 : Int) ≤ (i : Int) := by omega
      have hi1 : (i : Int) < (n : Int) := by omega
      go_wp2_with fail
      refine (linkCopied_f ZA ZB ZP ZQ ZR (.slice a0 n0 d0) (.slice a1 n1 d1) (.slice a2 n2 d2) (.slice a3 n3 d3) (.slice a4 n4 d4) (.slice a5 n5 d5) _ HZK.out HR3.out).mono ?_
      rintro e w3 ⟨x0, x1, x2, x3, x4, x5, rfl, ho, hb⟩
      obtain ⟨e0, m0, h0, rfl⟩ := (ho.at_ 0 rfl).shape3
      obtain ⟨e1, m1, h1, rfl⟩ := (ho.at_ 1 rfl).shape3
      obtain ⟨e2, m2, h2, rfl⟩ := (ho.at_ 2 rfl).shape3
      obtain ⟨e3, m3, h3, rfl⟩ := (ho.at_ 3 rfl).shape3
      obtain ⟨e4, m4, h4, rfl⟩ := (ho.at_ 4 rfl).shape3
      obtain ⟨e5, m5, h5, rfl⟩ := (ho.at_ 5 rfl).shape3
      have S_4 := Lib.hid (S_3.out.rows ho hb)
      clear ho hb S_3
      have z0 := S_4.out.cell 0 0 rfl rfl
      have f0 := S_4.out.froz 0 0 rfl rfl
      have z1 := S_4.out.cell 0 1 rfl rfl
      have f1 := S_4.out.froz 0 1 rfl rfl
      have z2 := S_4.out.cell 0 2 rfl rfl
      have f2 := S_4.out.froz 0 2 rfl rfl
      have z3 := S_4.out.cell 0 3 rfl rfl
      have f3 := S_4.out.froz 0 3 rfl rfl
      have z4 := S_4.out.cell 0 4 rfl rfl
      have f4 := S_4.out.froz 0 4 rfl rfl
      have z5 := S_4.out.cell 0 5 rfl rfl
      have f5 := S_4.out.froz 0 5 rfl rfl
      have z6 := S_4.out.cell 0 6 rfl rfl
      have f6 := S_4.out.froz 0 6 rfl rfl
      have z7 := S_4.out.cell 0 7 rfl rfl
      have f7 := S_4.out.froz 0 7 rfl rfl
      have z8 := S_4.out.cell 0 8 rfl rfl
      have f8 := S_4.out.froz 0 8 rfl rfl
      have z9 := S_4.out.cell 0 9 rfl rfl
      have f9 := S_4.out.froz 0 9 rfl rfl
      have z10 := S_4.out.cell 0 10 rfl rfl
      have f10 := S_4.out.froz 0 10 rfl rfl
      go_wp2
      have SR := Lib.hid (S_4.out.setAll 0 [.int .i64 ZA, .int .i64 ZB, .bool ZP.s, (.slice e0 m0 h0), (.slice e1 m1 h1), .bool ZQ.s, (.slice e2 m2 h2), (.slice e3 m3 h3), .bool ZR.s, (.slice e4 m4 h4), (.slice e5 m5 h5)] rfl rfl)
      exact bodyPost_ret (v := .tuple #[.agg #[.int .i64 ZA, .int .i64 ZB, .bool ZP.s, (.slice e0 m0 h0), (.slice e1 m1 h1), .bool ZQ.s, (.slice e2 m2 h2), (.slice e3 m3 h3), .bool ZR.s, (.slice e4 m4 h4), (.slice e5 m5 h5)], .bool true]) (by simp [results, Try.results51, go_sem, z0, z1, z2, z3, z4, z5, z6, z7, z8, z9, z10]) rfl (ownAns_some HE.out (SR.out.own 0 rfl) SR.out.below)
end Go.Proofs.Ytbbjckihikhdhaa
