/- Links: how two links compare. Conditions: none. -/
import Derived.Test.YtodoiekbjjiocaaGreatJPk
import Derived.Test.YtodoiekbjjiocaaGreatJLkBase
namespace Go.Proofs.YtodoiekbjjiocaaGreat
open Go.RowKit Nt Fr
set_option linter.unusedVariables false
set_option maxRecDepth 100000
set_option maxHeartbeats 4000000
def cmpI2 (x y : Int) : Int:=if x < y then -1 else if y < x then 1 else 0
def cmpK (A B C E : Int) : Int:=if cmpI2 A C ≠ 0 then cmpI2 A C else cmpI2 B E
def lessK (A B C E : Int) : Bool:=decide (A < C) || (decide (A = C) && decide (B < E))
theorem cmpK_less (A B C E : Int) : (cmpK A B C E < 0) ↔ lessK A B C E = true:=by
 unfold cmpK cmpI2 lessK
 simp only [Bool.or_eq_true,Bool.and_eq_true,decide_eq_true_eq]
 split <;> (repeat' split at *) <;> omega
theorem cmpCompare_any (x y : Int) (w : World) : Calls Tryz.prog 137 #[.int .i64 x,.int .i64 y] w fun e w' =>e = .returned (.int .i64 (cmpI2 x y)) ∧ Below w.heap.size w w':=by
 by_cases h1 : x < y
 ·rw [show cmpI2 x y = -1 from if_pos h1]
  go_enter Tryz.func137,Tryz.ntmps137
  go_wp2
  all_goals go_ret
  all_goals exact ⟨rfl,Below.refl _ _⟩
 ·by_cases h2 : y < x
  ·rw [show cmpI2 x y = 1 by unfold cmpI2; rw [if_neg h1,if_pos h2]]
   go_enter Tryz.func137,Tryz.ntmps137
   go_wp2
   all_goals go_ret
   all_goals exact ⟨rfl,Below.refl _ _⟩
  ·rw [show cmpI2 x y = 0 by unfold cmpI2; rw [if_neg h1,if_neg h2]]
   go_enter Tryz.func137,Tryz.ntmps137
   go_wp2
   all_goals go_ret
   all_goals exact ⟨rfl,Below.refl _ _⟩
theorem cmpOr_two (x y : Int) (g : Nat) (w : World) (h0 : w.cell? ⟨g,0,none⟩ = some (.int .i64 x)) (h1 : w.cell? ⟨g,1,none⟩ = some (.int .i64 y)) : Calls Tryz.prog 158 #[.slice (some ⟨g,0,none⟩) 2 2] w fun e w' =>e = .returned (.int .i64 (if x ≠ 0 then x else y)) ∧ Below w.heap.size w w':=by
 obtain ⟨r,hr⟩ : ∃ z,(if x ≠ 0 then x else y) = z:=⟨_,rfl⟩
 rw [hr]
 have HR:=Hd hr
 clear hr
 go_enter Tryz.func158,Tryz.ntmps158
 go_wp2
 go_loopw [8] (fun i wr=>wr = w ∧ (i = .int .i64 0 ∨ (i = .int .i64 1 ∧ x = 0) ∨ (i = .int .i64 2 ∧ x = 0 ∧ y = 0))) (fun i _=>2 - (intOf i).toNat)
 case atStart=>exact ⟨rfl,.inl rfl⟩
 case round=>
  obtain ⟨hw,hi⟩:=hrel
  subst hw
  rcases hi with rfl | ⟨rfl,hx⟩ | ⟨rfl,hx,hy⟩
  ·by_cases hx : x = 0
   ·subst hx
    go_wp2
    exact ⟨⟨by first | rfl | trivial,.inr (.inl ⟨by first | rfl | go_num,by first | rfl | trivial⟩)⟩,by simp [intOf]⟩
   ·have HE:=Hd (show x = r by have h:=HR.out; rw [if_pos hx] at h; exact h)
    go_wp2
    go_ret
    exact ⟨ret_int HE.out,Below.refl _ _⟩
  ·by_cases hy : y = 0
   ·subst hy
    have HX:=Hd hx
    clear hx
    go_wp2
    exact ⟨⟨by first | rfl | trivial,.inr (.inr ⟨by first | rfl | go_num,HX.out,by first | rfl | trivial⟩)⟩,by simp [intOf]⟩
   ·have HE:=Hd (show y = r by have h:=HR.out; rw [if_neg (by simp [hx])] at h; exact h)
    clear hx
    go_wp2
    go_ret
    exact ⟨ret_int HE.out,Below.refl _ _⟩
  ·have HE:=Hd (show (0 : Int) = r by have h:=HR.out; rw [if_neg (by simp [hx])] at h; rw [← h,hy])
   clear hx hy
   go_wp2
   go_ret
   exact ⟨ret_int HE.out,Below.refl _ _⟩
theorem compareK_f (A B : Int) (P Q R : Fr) (p0 p1 q0 q1 r0 r1 : Value) (C E : Int) (V U T : Fr) (v0 v1 u0 u1 t0 t1 : Value) (w : World) :
 Calls Tryz.prog 157 #[.agg #[.int .i64 A,.int .i64 B,.bool P.s,p0,p1,.bool Q.s,q0,q1,.bool R.s,r0,r1],.agg #[.int .i64 C,.int .i64 E,.bool V.s,v0,v1,.bool U.s,u0,u1,.bool T.s,t0,t1]] w fun e w' =>e = .returned (.int .i64 (cmpK A B C E)) ∧ Below w.heap.size w w':=by
 obtain ⟨x,hx⟩ : ∃ z,cmpI2 A C = z:=⟨_,rfl⟩
 obtain ⟨y,hy⟩ : ∃ z,cmpI2 B E = z:=⟨_,rfl⟩
 obtain ⟨r,hr⟩ : ∃ z,cmpK A B C E = z:=⟨_,rfl⟩
 have HR:=Hd (show (if x ≠ 0 then x else y) = r by rw [← hx,← hy,← hr]; rfl)
 rw [hr]
 have HX:=Hd hx
 have HY:=Hd hy
 clear hx hy hr
 have a2:=Hd (St.start2 w [.int .i64 A,.int .i64 B,.bool P.s,p0,p1,.bool Q.s,q0,q1,.bool R.s,r0,r1] 40 [.int .i64 C,.int .i64 E,.bool V.s,v0,v1,.bool U.s,u0,u1,.bool T.s,t0,t1] 40)
 have aW : w.heap.size + 1 ≠ w.heap.size:=by omega
 have aX : w.heap.size ≠ w.heap.size + 1:=by omega
 go_enter Tryz.func157,Tryz.ntmps157
 obtain ⟨aC,aD,aE,aF,aG,aH,aI,aJ,aK,aL,aA⟩:=a2.out.c11 1 rfl
 obtain ⟨aM,aN,aO,aP,aQ,aR,aS,aT,aU,aV,aB⟩:=a2.out.c11 0 rfl
 go_wp2
 go_region_held3 (fun w' =>w'.cell? ⟨w.heap.size + 1,0,none⟩ = some (.int .i64 C) ∧ w'.cell? ⟨w.heap.size + 1,1,none⟩ = some (.int .i64 E) ∧ w'.cell? ⟨w.heap.size + 1,2,none⟩ = some (.bool V.s) ∧ w'.cell? ⟨w.heap.size + 1,3,none⟩ = some (v0) ∧ w'.cell? ⟨w.heap.size + 1,4,none⟩ = some (v1) ∧ w'.cell? ⟨w.heap.size + 1,5,none⟩ = some (.bool U.s) ∧ w'.cell? ⟨w.heap.size + 1,6,none⟩ = some (u0) ∧ w'.cell? ⟨w.heap.size + 1,7,none⟩ = some (u1) ∧ w'.cell? ⟨w.heap.size + 1,8,none⟩ = some (.bool T.s) ∧ w'.cell? ⟨w.heap.size + 1,9,none⟩ = some (t0) ∧ w'.cell? ⟨w.heap.size + 1,10,none⟩ = some (t1) ∧ w'.cell? ⟨w.heap.size,0,none⟩ = some (.int .i64 A) ∧ w'.cell? ⟨w.heap.size,1,none⟩ = some (.int .i64 B) ∧ w'.cell? ⟨w.heap.size,2,none⟩ = some (.bool P.s) ∧ w'.cell? ⟨w.heap.size,3,none⟩ = some (p0) ∧ w'.cell? ⟨w.heap.size,4,none⟩ = some (p1) ∧ w'.cell? ⟨w.heap.size,5,none⟩ = some (.bool Q.s) ∧ w'.cell? ⟨w.heap.size,6,none⟩ = some (q0) ∧ w'.cell? ⟨w.heap.size,7,none⟩ = some (q1) ∧ w'.cell? ⟨w.heap.size,8,none⟩ = some (.bool R.s) ∧ w'.cell? ⟨w.heap.size,9,none⟩ = some (r0) ∧ w'.cell? ⟨w.heap.size,10,none⟩ = some (r1)) (go_keep)
  (first
    |(go_at_call_of 137 (Value.int .i64 A)
      refine (cmpCompare_any A C _).mono ?_
      rintro e w1 ⟨rfl,hb⟩
      rw [HX.out]
      have aY:=Hd (a2.out.drew.call hb)
      clear hb
      obtain ⟨hkp_0_0,hkp_0_1,hkp_0_2,hkp_0_3,hkp_0_4,hkp_0_5,hkp_0_6,hkp_0_7,hkp_0_8,hkp_0_9,hkp_0_10⟩:=(aY.out).c11 0 rfl
      obtain ⟨hkp_1_0,hkp_1_1,hkp_1_2,hkp_1_3,hkp_1_4,hkp_1_5,hkp_1_6,hkp_1_7,hkp_1_8,hkp_1_9⟩:=(aY.out).c10 1 rfl
      have hkp_1_10:=(aY.out).cell 1 10 rfl rfl)
    |(go_at_call_of 137 (Value.int .i64 B)
      refine (cmpCompare_any B E _).mono ?_
      rintro e w2 ⟨rfl,hb⟩
      rw [HY.out]
      have aZ:=Hd (aY.out.call hb)
      clear hb
      obtain ⟨hkq_0_0,hkq_0_1,hkq_0_2,hkq_0_3,hkq_0_4,hkq_0_5,hkq_0_6,hkq_0_7,hkq_0_8,hkq_0_9,hkq_0_10⟩:=(aZ.out).c11 0 rfl
      obtain ⟨hkq_1_0,hkq_1_1,hkq_1_2,hkq_1_3,hkq_1_4,hkq_1_5,hkq_1_6,hkq_1_7,hkq_1_8,hkq_1_9⟩:=(aZ.out).c10 1 rfl
      have hkq_1_10:=(aZ.out).cell 1 10 rfl rfl)
    |(go_at_call 158
      refine (cmpOr_two x y _ _ (by simp [go_sem]) (by simp [go_sem])).mono ?_
      rintro e w3 ⟨rfl,hb⟩
      rw [HR.out]
      have a0:=Hd ((aZ.out.alloc [.int .i64 x,.int .i64 y] 3).call hb)
      clear hb
      obtain ⟨hkr_1_0,hkr_1_1,hkr_1_2,hkr_1_3,hkr_1_4,hkr_1_5,hkr_1_6,hkr_1_7,hkr_1_8,hkr_1_9,hkr_1_10⟩:=a0.out.c11 1 rfl
      obtain ⟨hkr_2_0,hkr_2_1,hkr_2_2,hkr_2_3,hkr_2_4,hkr_2_5,hkr_2_6,hkr_2_7,hkr_2_8,hkr_2_9⟩:=a0.out.c10 2 rfl
      have hkr_2_10:=a0.out.cell 2 10 rfl rfl))
 all_goals go_wp2
 all_goals go_ret
 all_goals exact ⟨rfl,a0.out.below⟩
theorem l06Less_f (A B : Int) (P Q R : Fr) (p0 p1 q0 q1 r0 r1 : Value) (C E : Int) (V U T : Fr) (v0 v1 u0 u1 t0 t1 : Value) (w : World) :
 Calls Tryz.prog 25 #[.agg #[.int .i64 A,.int .i64 B,.bool P.s,p0,p1,.bool Q.s,q0,q1,.bool R.s,r0,r1],.agg #[.int .i64 C,.int .i64 E,.bool V.s,v0,v1,.bool U.s,u0,u1,.bool T.s,t0,t1]] w fun e w' =>e = .returned (.bool (lessK A B C E)) ∧ Below w.heap.size w w':=by
 by_cases h1 : A < C
 ·have HV:=Hd (show lessK A B C E = true by simp [lessK]; try omega)
  rw [HV.out]
  have aC:=Hd (St.start2 w [.int .i64 A,.int .i64 B,.bool P.s,p0,p1,.bool Q.s,q0,q1,.bool R.s,r0,r1] 40 [.int .i64 C,.int .i64 E,.bool V.s,v0,v1,.bool U.s,u0,u1,.bool T.s,t0,t1] 40)
  have aA : w.heap.size + 1 ≠ w.heap.size:=by omega
  have aB : w.heap.size ≠ w.heap.size + 1:=by omega
  go_enter Tryz.func25,Tryz.ntmps25
  go_wp2
  all_goals go_ret
  all_goals exact ⟨rfl,aC.out.below⟩
 ·by_cases h2 : A = C
  ·by_cases h3 : B < E
   ·subst h2
    have HV:=Hd (show lessK A B A E = true by simp [lessK]; try omega)
    rw [HV.out]
    have aD:=Hd (St.start2 w [.int .i64 A,.int .i64 B,.bool P.s,p0,p1,.bool Q.s,q0,q1,.bool R.s,r0,r1] 40 [.int .i64 A,.int .i64 E,.bool V.s,v0,v1,.bool U.s,u0,u1,.bool T.s,t0,t1] 40)
    have aA : w.heap.size + 1 ≠ w.heap.size:=by omega
    have aB : w.heap.size ≠ w.heap.size + 1:=by omega
    go_enter Tryz.func25,Tryz.ntmps25
    go_wp2
    all_goals go_ret
    all_goals exact ⟨rfl,aD.out.below⟩
   ·subst h2
    have HV:=Hd (show lessK A B A E = false by simp [lessK]; try omega)
    rw [HV.out]
    have aE:=Hd (St.start2 w [.int .i64 A,.int .i64 B,.bool P.s,p0,p1,.bool Q.s,q0,q1,.bool R.s,r0,r1] 40 [.int .i64 A,.int .i64 E,.bool V.s,v0,v1,.bool U.s,u0,u1,.bool T.s,t0,t1] 40)
    have aA : w.heap.size + 1 ≠ w.heap.size:=by omega
    have aB : w.heap.size ≠ w.heap.size + 1:=by omega
    go_enter Tryz.func25,Tryz.ntmps25
    go_wp2
    all_goals go_ret
    all_goals exact ⟨rfl,aE.out.below⟩
  ·have HV:=Hd (show lessK A B C E = false by simp [lessK]; try omega)
   rw [HV.out]
   have aF:=Hd (St.start2 w [.int .i64 A,.int .i64 B,.bool P.s,p0,p1,.bool Q.s,q0,q1,.bool R.s,r0,r1] 40 [.int .i64 C,.int .i64 E,.bool V.s,v0,v1,.bool U.s,u0,u1,.bool T.s,t0,t1] 40)
   have aA : w.heap.size + 1 ≠ w.heap.size:=by omega
   have aB : w.heap.size ≠ w.heap.size + 1:=by omega
   go_enter Tryz.func25,Tryz.ntmps25
   go_wp2
   all_goals go_ret
   all_goals exact ⟨rfl,aF.out.below⟩
end Go.Proofs.YtodoiekbjjiocaaGreat
