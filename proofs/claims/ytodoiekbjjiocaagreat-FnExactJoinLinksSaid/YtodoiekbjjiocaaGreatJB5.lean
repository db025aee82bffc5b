/- Joined: XRat1 XRat2 XRat3a XRat3b XRat3c. Conditions: none. -/
import Derived.Test.YtodoiekbjjiocaaGreatJPk
import Derived.Test.YtodoiekbjjiocaaGreatProg
import Derived.Test.YtodoiekbjjiocaaGreatJB4
import Derived.Deep.DeepCutAuto
namespace Go.Proofs.YtodoiekbjjiocaaGreat
open Go.RowKit Nt
set_option linter.unusedVariables false
set_option maxRecDepth 100000
set_option maxHeartbeats 4000000
theorem l04One_any (A : Option Addr) (n c : Nat) (ds : List Nat) (w : World) (hA : VRow w A n (nats ds)) (hn : n ≤ maxLen) :
 Calls Tryz.prog 68 #[.slice A n c] w fun e w' =>e = .returned (.bool (isOne ds)) ∧ w' = w:=by
 have hl : ds.length = n:=by simpa [nats_len] using hA.1
 unfold maxLen at hn
 by_cases h1 : n = 1
 ·subst h1
  obtain ⟨x,rfl⟩:=List.length_eq_one_iff.mp hl
  obtain ⟨g,o,rfl,hg,hc⟩:=hA.at_ (show 0 < 1 by omega)
  rw [nats_get] at hc
  simp at hc
  have HI:=Hd (show isOne [x] = decide (x = 1) by unfold isOne; simp)
  clear hl hA
  by_cases hx : x = 1
  ·subst hx
   go_enter Tryz.func68,Tryz.ntmps68
   go_wp2
   go_ret
   exact ⟨by rw [HI.out]; rfl,rfl⟩
  ·have hx2 : ¬ (x : Int) = 1:=by omega
   go_enter Tryz.func68,Tryz.ntmps68
   go_wp2
   go_ret
   exact ⟨by rw [HI.out]; simp [hx,hx2],rfl⟩
 ·have HI:=Hd (show isOne ds = false by unfold isOne; simp; intro e; rw [e] at hl; simp at hl; omega)
  clear hl hA
  go_enter Tryz.func68,Tryz.ntmps68
  go_wp2
  go_ret
  exact ⟨by rw [HI.out]; simp <;> omega,rfl⟩
theorem isOneRow_any (A : Option Addr) (n c : Nat) (ds : List Nat) (w : World) (hA : VRow w A n (nats ds)) (hn : n ≤ maxLen) :
 Calls Tryz.prog 77 #[.slice A n c] w fun e w' =>e = .returned (.bool (isOne ds)) ∧ w' = w:=by
 have hl : ds.length = n:=by simpa [nats_len] using hA.1
 unfold maxLen at hn
 by_cases h1 : n = 1
 ·subst h1
  obtain ⟨x,rfl⟩:=List.length_eq_one_iff.mp hl
  obtain ⟨g,o,rfl,hg,hc⟩:=hA.at_ (show 0 < 1 by omega)
  rw [nats_get] at hc
  simp at hc
  have HI:=Hd (show isOne [x] = decide (x = 1) by unfold isOne; simp)
  clear hl hA
  by_cases hx : x = 1
  ·subst hx
   go_enter Tryz.func77,Tryz.ntmps77
   go_wp2
   go_ret
   exact ⟨by rw [HI.out]; rfl,rfl⟩
  ·have hx2 : ¬ (x : Int) = 1:=by omega
   go_enter Tryz.func77,Tryz.ntmps77
   go_wp2
   go_ret
   exact ⟨by rw [HI.out]; simp [hx,hx2],rfl⟩
 ·have HI:=Hd (show isOne ds = false by unfold isOne; simp; intro e; rw [e] at hl; simp at hl; omega)
  clear hl hA
  go_enter Tryz.func77,Tryz.ntmps77
  go_wp2
  go_ret
  exact ⟨by rw [HI.out]; simp <;> omega,rfl⟩
theorem ratOk_spec (s : Bool) (A : Option Addr) (n c : Nat) (xs : List Int) (B : Option Addr) (m d : Nat) (ys : List Int) (w : World) (hA : Arg w A n c (ints xs)) (hB : Arg w B m d (ints ys)) :
 Calls Tryz.prog 41 #[.agg #[.bool s,.slice A n c,.slice B m d]] w fun e w' =>e = .returned (.bool (okR s xs ys)) ∧ Below w.heap.size w w':=by
 have HA:=Hd hA
 have HB:=Hd hB
 clear hA hB
 have hn:=HA.out.max
 have hm:=HB.out.max
 unfold maxLen at hn hm
 have HLX:=Hd HA.out.ilen
 have HLY:=Hd HB.out.ilen
 go_enter Tryz.func41,Tryz.ntmps41
 have aK:=Hd ((Below.refl w.heap.size w).alloc (Nat.le_refl _) (.cells #[.bool s,.slice A n c,.slice B m d] 35))
 have aL:=Hd (HeldL.new_at w (w.heap.size) [.bool s,.slice A n c,.slice B m d] 35 (by first | rfl | simp))
 go_wp2_with fail
 refine (bigIntOk_spec s A n c xs _ (HA.out.below aK.out (Nat.le_refl _)).1 HA.out.max).mono ?_
 rintro e w1 ⟨rfl,hb⟩
 have aI:=Hd (aL.out.after hb)
 have aJ:=Hd (aK.out.trans (hb.mono aK.out.size))
 clear hb
 by_cases h1 : okB s xs = true
 ·rw [h1]
  obtain ⟨aF,aG,aH⟩:=aI.out.c3
  go_wp2_with fail
  refine (natOk_spec B m d ys _ (HB.out.below aJ.out (Nat.le_refl _)).1 HB.out.max).mono ?_
  rintro e w2 ⟨rfl,hb⟩
  have aA:=Hd (aI.out.after hb)
  have aE:=Hd (aJ.out.trans (hb.mono aJ.out.size))
  clear hb
  clear aF
  clear aG
  clear aH
  by_cases h2 : okI ys = true
  ·rw [h2]
   by_cases h3 : m = 0 ∨ 24 < m ∨ 24 < n
   ·have HO0:=Hd (show okR s xs ys = false by unfold okR; rw [HLX.out,HLY.out]; simp; intros; omega)
    rcases h3 with h3 | h3 | h3
    ·have aB:=aA.out.cell 0 _ rfl
     have aC:=aA.out.cell 1 _ rfl
     have aD:=aA.out.cell 2 _ rfl
     subst h3
     go_wp2
     go_ret
     exact ⟨by rw [HO0.out]; rfl,aE.out⟩
    ·have aB:=aA.out.cell 0 _ rfl
     have aC:=aA.out.cell 1 _ rfl
     have aD:=aA.out.cell 2 _ rfl
     go_wp2
     go_ret
     exact ⟨by rw [HO0.out]; rfl,aE.out⟩
    ·have aB:=aA.out.cell 0 _ rfl
     have aC:=aA.out.cell 1 _ rfl
     have aD:=aA.out.cell 2 _ rfl
     by_cases h4 : m = 0
     ·subst h4
      go_wp2
      go_ret
      exact ⟨by rw [HO0.out]; rfl,aE.out⟩
     ·by_cases h5 : 24 < m
      ·go_wp2
       go_ret
       exact ⟨by rw [HO0.out]; rfl,aE.out⟩
      ·go_wp2
       go_ret
       exact ⟨by rw [HO0.out]; rfl,aE.out⟩
   ·obtain ⟨hex,hcx,hlx⟩:=okI_nats (okB_ok h1)
    obtain ⟨hey,hcy,hly⟩:=okI_nats h2
    rw [toN_len,HA.out.ilen] at hlx
    rw [toN_len,HB.out.ilen] at hly
    have HAn:=Hd (hex ▸ HA.out)
    have HBn:=Hd (hey ▸ HB.out)
    have HCx:=Hd hcx
    have HCy:=Hd hcy
    have H1:=Hd h1
    have H2:=Hd h2
    clear hex hey hcx hcy h1 h2
    have hm0 : ¬ m = 0:=by omega
    have hm1 : ¬ 24 < m:=by omega
    have hn1 : ¬ 24 < n:=by omega
    have i0 : ((m : Int) == 0) = false:=by simp; omega
    have i1 : decide ((24 : Int) < (m : Int)) = false:=by simp; omega
    have i2 : decide ((24 : Int) < (n : Int)) = false:=by simp; omega
    obtain ⟨aB,aC,aD⟩:=aA.out.c3
    go_wp2_with fail
    refine (l02Gcd_any A B n c m d (toN xs) (toN ys) _ (HAn.out.below aE.out (Nat.le_refl _)).1 (HBn.out.below aE.out (Nat.le_refl _)).1 HCx.out HCy.out HA.out.2.2.2 HB.out.2.2.2 (by omega) (by omega)).mono ?_
    rintro e w3 ⟨vg,rfl,ho,hb⟩
    obtain ⟨Ag,cg,rfl⟩:=ho.shape
    have HOg:=Hd ho
    clear ho
    have aN:=Hd (aA.out.after hb)
    have aM:=Hd (aE.out.trans (hb.mono aE.out.size))
    clear hb
    clear aB
    clear aC
    clear aD
    go_wp2_with fail
    refine (l04One_any Ag _ cg _ _ HOg.out.row (by have:=HOg.out.arg.max; exact this)).mono ?_
    rintro e w4 ⟨rfl,rfl⟩
    rw [isOne_dig]
    have HO1:=Hd (show okR s xs ys = decide (Nat.gcd (val (toN xs)) (val (toN ys)) = 1) by unfold okR; rw [H1.out,H2.out]; have e1:=HA.out.ilen; have e2:=HB.out.ilen; simp; intro _; omega)
    obtain ⟨z,hz⟩ : ∃ z,decide (Nat.gcd (val (toN xs)) (val (toN ys)) = 1) = z:=⟨_,rfl⟩
    rw [hz] at HO1 ⊢
    clear hz
    go_wp2
    go_ret
    exact ⟨by rw [HO1.out]; rfl,aM.out⟩
  ·rw [Bool.not_eq_true] at h2
   rw [h2]
   have HO0:=Hd (show okR s xs ys = false by unfold okR; simp [h2])
   obtain ⟨aB,aC,aD⟩:=aA.out.c3
   go_wp2
   go_ret
   exact ⟨by rw [HO0.out]; rfl,aE.out⟩
 ·rw [Bool.not_eq_true] at h1
  rw [h1]
  have HO0:=Hd (show okR s xs ys = false by unfold okR; simp [h1])
  obtain ⟨aF,aG,aH⟩:=aI.out.c3
  go_wp2
  go_ret
  exact ⟨by rw [HO0.out]; rfl,aJ.out⟩
theorem isValidR_any (s : Bool) (A : Option Addr) (n c : Nat) (xs : List Int) (B : Option Addr) (m d : Nat) (ys : List Int) (w : World) (hA : Arg w A n c (ints xs)) (hB : Arg w B m d (ints ys)) :
 Calls Tryz.prog 44 #[.agg #[.bool s,.slice A n c,.slice B m d]] w fun e w' =>e = .returned (.bool (okR s xs ys)) ∧ Below w.heap.size w w':=by
 have HA:=Hd hA
 have HB:=Hd hB
 clear hA hB
 have hn:=HA.out.max
 have hm:=HB.out.max
 unfold maxLen at hn hm
 have HLX:=Hd HA.out.ilen
 have HLY:=Hd HB.out.ilen
 go_enter Tryz.func44,Tryz.ntmps44
 have aI:=Hd ((Below.refl w.heap.size w).alloc (Nat.le_refl _) (.cells #[.bool s,.slice A n c,.slice B m d] 35))
 have aL:=Hd (HeldL.new_at w (w.heap.size) [.bool s,.slice A n c,.slice B m d] 35 (by first | rfl | simp))
 by_cases h3 : 24 < n ∨ 24 < m
 ·have HO0:=Hd (show okR s xs ys = false by unfold okR; rw [HLX.out,HLY.out]; simp; intros; omega)
  by_cases h4 : 24 < n
  ·go_wp2
   go_ret
   exact ⟨by rw [HO0.out]; rfl,aI.out⟩
  ·go_wp2
   go_ret
   exact ⟨by rw [HO0.out]; rfl,aI.out⟩
 ·have hm1 : ¬ 24 < m:=by omega
  have hn1 : ¬ 24 < n:=by omega
  go_wp2_with fail
  refine (bigIntOk_impl s A n c xs _ (HA.out.below aI.out (Nat.le_refl _)).1 HA.out.max).mono ?_
  rintro e w1 ⟨rfl,hb⟩
  have aJ:=Hd (aL.out.after hb)
  have aK:=Hd (aI.out.trans (hb.mono aI.out.size))
  clear hb
  by_cases h1 : okB s xs = true
  ·rw [h1]
   obtain ⟨aD,aE,aF⟩:=aJ.out.c3
   go_wp2_with fail
   refine (natOk_impl B m d ys _ (HB.out.below aK.out (Nat.le_refl _)).1 HB.out.max).mono ?_
   rintro e w2 ⟨rfl,hb⟩
   have aG:=Hd (aJ.out.after hb)
   have aH:=Hd (aK.out.trans (hb.mono aK.out.size))
   clear hb
   clear aD
   clear aE
   clear aF
   by_cases h2 : okI ys = true
   ·rw [h2]
    by_cases h3 : m = 0
    ·subst h3
     have HO0:=Hd (show okR s xs ys = false by unfold okR; rw [HLX.out,HLY.out]; simp)
     obtain ⟨aA,aB,aC⟩:=aG.out.c3
     go_wp2
     go_ret
     exact ⟨by rw [HO0.out]; rfl,aH.out⟩
    ·obtain ⟨hex,hcx,hlx⟩:=okI_nats (okB_ok h1)
     obtain ⟨hey,hcy,hly⟩:=okI_nats h2
     rw [toN_len,HA.out.ilen] at hlx
     rw [toN_len,HB.out.ilen] at hly
     have HAn:=Hd (hex ▸ HA.out)
     have HBn:=Hd (hey ▸ HB.out)
     have HCx:=Hd hcx
     have HCy:=Hd hcy
     have H1:=Hd h1
     have H2:=Hd h2
     clear hex hey hcx hcy h1 h2
     have hm0 : 0 < m:=by omega
     have HG:=Hd (gcdN_yes (okB_ok H1.out) H2.out)
     obtain ⟨aA,aB,aC⟩:=aG.out.c3
     go_wp2_with fail
     refine (natGcd_impl A B n c m d xs ys _ (HA.out.below aH.out (Nat.le_refl _)).1 (HB.out.below aH.out (Nat.le_refl _)).1 HA.out.max HB.out.max).mono ?_
     rintro e w3 ⟨vg,rfl,ho,hb⟩
     obtain ⟨Ag,cg,rfl⟩:=ho.shape
     have HOg:=Hd ho
     clear ho
     have aN:=Hd (aG.out.after hb)
     have aM:=Hd (aH.out.trans (hb.mono aH.out.size))
     clear hb
     clear aA
     clear aB
     clear aC
     go_wp2_with fail
     refine (isOneRow_any Ag _ cg _ _ HOg.out.row (by have:=HOg.out.arg.max; exact this)).mono ?_
     rintro e w4 ⟨rfl,rfl⟩
     rw [HG.out,isOne_dig]
     have HO1:=Hd (show okR s xs ys = decide (Nat.gcd (val (toN xs)) (val (toN ys)) = 1) by unfold okR; rw [H1.out,H2.out]; have e1:=HA.out.ilen; have e2:=HB.out.ilen; simp; intro _; omega)
     obtain ⟨z,hz⟩ : ∃ z,decide (Nat.gcd (val (toN xs)) (val (toN ys)) = 1) = z:=⟨_,rfl⟩
     rw [hz] at HO1 ⊢
     clear hz
     go_wp2
     go_ret
     exact ⟨by rw [HO1.out]; rfl,aM.out⟩
   ·rw [Bool.not_eq_true] at h2
    rw [h2]
    have HO0:=Hd (show okR s xs ys = false by unfold okR; simp [h2])
    obtain ⟨aA,aB,aC⟩:=aG.out.c3
    go_wp2
    go_ret
    exact ⟨by rw [HO0.out]; rfl,aH.out⟩
  ·rw [Bool.not_eq_true] at h1
   rw [h1]
   have HO0:=Hd (show okR s xs ys = false by unfold okR; simp [h1])
   obtain ⟨aD,aE,aF⟩:=aJ.out.c3
   go_wp2
   go_ret
   exact ⟨by rw [HO0.out]; rfl,aK.out⟩
structure Rl where
 s : Bool
 A : Option Addr
 n : Nat
 c : Nat
 xs : List Int
 B : Option Addr
 m : Nat
 d : Nat
 ys : List Int
def Rl.cells (r : Rl) : List Value:=[.bool r.s,.slice r.A r.n r.c,.slice r.B r.m r.d]
def Rl.ok (r : Rl) : Bool:=okR r.s r.xs r.ys
def Rl.arg (w : World) (r : Rl) : Prop:=Arg w r.A r.n r.c (ints r.xs) ∧ Arg w r.B r.m r.d (ints r.ys)
structure RlRow (w : World) (A : Option Addr) (n : Nat) (L : List Rl) : Prop where
 len : L.length = n
 cell : 0 < n → ∃ g o,A = some ⟨g,o,none⟩ ∧ g < w.heap.size ∧ ∀ k (hk : k < L.length) (j : Nat) (v : Value),(L[k].cells)[j]? = some v → w.cell? ⟨g,o + k * 3 + j,none⟩ = some v
 arg : ∀ r ∈ L,r.arg w
theorem Rl.arg.below {w w' : World} {r : Rl} (h : r.arg w) (hb : Below w.heap.size w w') : r.arg w':=⟨h.1.below hb (Nat.le_refl _),h.2.below hb (Nat.le_refl _)⟩
theorem RlRow.below {w w' : World} {A : Option Addr} {n : Nat} {L : List Rl} (h : RlRow w A n L) (hb : Below w.heap.size w w') : RlRow w' A n L:=by
 refine ⟨h.len,fun hn=>?_,fun z hz=>(h.arg z hz).below hb⟩
 obtain ⟨g,o,rfl,hg,hc⟩:=h.cell hn
 exact ⟨g,o,rfl,Nat.lt_of_lt_of_le hg hb.size,fun k hk j v hj=>(hb.cell (p:=⟨g,o + k * 3 + j,none⟩) hg).trans (hc k hk j v hj)⟩
theorem RlRow.at_ {w : World} {A : Option Addr} {n : Nat} {L : List Rl} (h : RlRow w A n L) {k : Nat} (hk : k < n) : ∃ g o z,A = some ⟨g,o,none⟩ ∧ g < w.heap.size ∧ L[k]? = some z ∧ z.arg w ∧ ∀ (j : Nat) (v : Value),(z.cells)[j]? = some v → w.cell? ⟨g,o + k * 3 + j,none⟩ = some v:=by
 obtain ⟨g,o,e,hg,hc⟩:=h.cell (by omega)
 have hk' : k < L.length:=by rw [h.len]; exact hk
 exact ⟨g,o,L[k],e,hg,List.getElem?_eq_getElem hk',h.arg _ (List.getElem_mem hk'),hc k hk'⟩
theorem RlRow.two {u : World} {T : TypeId} (r t : Rl) (hr : r.arg u) (ht : t.arg u) : RlRow (u.alloc (.cells (r.cells ++ t.cells).toArray T)) (some ⟨u.heap.size,0,none⟩) 2 [r,t]:=by
 have hb : Below u.heap.size u (u.alloc (.cells (r.cells ++ t.cells).toArray T)):=(Below.refl _ _).alloc (Nat.le_refl _) _
 have hh:=HeldL.new u (r.cells ++ t.cells) T
 refine ⟨rfl,fun _=>⟨u.heap.size,0,rfl,hh.lt,?_⟩,?_⟩
 ·intro k hk j v hj
  match k,hk with
  | 0,_=>
   have hj3 : j < 3:=by have:=(List.getElem?_eq_some_iff.mp hj).1; simpa [Rl.cells] using this
   refine hh.cell _ _ ?_
   rw [Nat.zero_mul,Nat.zero_add,List.getElem?_append_left (by simpa [Rl.cells] using hj3)]; exact hj
  | 1,_=>
   refine hh.cell _ _ ?_
   rw [List.getElem?_append_right (by simp [Rl.cells] <;> omega)]
   rw [show 0 + 1 * 3 + j - r.cells.length = j by simp [Rl.cells]]; exact hj
 ·intro z hz
  simp only [List.mem_cons,List.not_mem_nil,or_false] at hz
  rcases hz with rfl | rfl
  ·exact hr.below hb
  ·exact ht.below hb
theorem rl_all {L : List Rl} : L.all Rl.ok = true ↔ ∀ i z,i < L.length → L[i]? = some z → z.ok = true:=by
 rw [List.all_eq_true]
 constructor
 ·intro h i z _ hz; exact h z (List.mem_of_getElem? hz)
 ·intro h z hz
  obtain ⟨i,hi⟩:=List.mem_iff_getElem?.mp hz
  exact h i z (List.getElem?_eq_some_iff.mp hi).1 hi
theorem rl_bad {L : List Rl} {k : Nat} {z : Rl} (h : L[k]? = some z) (hz : z.ok = false) : L.all Rl.ok = false:=by
 rw [← Bool.not_eq_true,rl_all]
 intro h1
 have:=h1 k z (List.getElem?_eq_some_iff.mp h).1 h
 rw [hz] at this; exact absurd this (by decide)
theorem rl_step {L : List Rl} {k : Nat} {z : Rl} (h : ∀ i z,i < k → L[i]? = some z → z.ok = true) (h1 : L[k]? = some z) (hl : z.ok = true) : ∀ i z,i < k + 1 → L[i]? = some z → z.ok = true:=by
 intro i a hi ha
 by_cases e : i = k
 ·subst e
  obtain rfl:=Option.some.inj (h1.symm.trans ha)
  exact hl
 ·exact h i a (by omega) ha
theorem areValid_l (A : Option Addr) (n c : Nat) (L : List Rl) (w : World) (hA : RlRow w A n L) (hn : n ≤ 1048576) :
 Calls Tryz.prog 60 #[.slice A n c] w fun e w' =>e = .returned (.bool (L.all Rl.ok)) ∧ Below w.heap.size w w':=by
 have HA:=Hd hA
 have HL:=Hd hA.len
 obtain ⟨ok,hok⟩ : ∃ z,L.all Rl.ok = z:=⟨_,rfl⟩
 rw [hok]
 have HOK:=Hd hok
 clear hA hok
 go_enter Tryz.func60,Tryz.ntmps60
 go_wp2
 go_loopw [7] (fun i wr=>∃ k : Nat,k ≤ n ∧ i = .int .i64 k ∧ (∀ i z,i < k → L[i]? = some z → z.ok = true) ∧ Below w.heap.size w wr) (fun i _=>n - (intOf i).toNat)
 case atStart=>exact ⟨0,Nat.zero_le _,rfl,fun i z hi=>by omega,Below.refl _ _⟩
 case round=>
  obtain ⟨k,hk,rfl,hv,hb⟩:=hrel
  have HV:=Hd hv
  have HB:=Hd hb
  clear hv hb
  by_cases hlt : k < n
  ·obtain ⟨g,o,z,rfl,hg,hz,hr,hc⟩:=(HA.out.below HB.out).at_ hlt
   obtain ⟨s,a0,n0,c0,xs,a1,n1,c1,ys⟩:=z
   have HZ:=Hd hz
   have HR:=Hd hr
   have d0 : wr.cell? ⟨g,o + k * 3,none⟩ = some (.bool s):=hc 0 _ rfl
   have d1 : wr.cell? ⟨g,o + k * 3 + 1,none⟩ = some (.slice a0 n0 c0):=hc 1 _ rfl
   have d2 : wr.cell? ⟨g,o + k * 3 + 2,none⟩ = some (.slice a1 n1 c1):=hc 2 _ rfl
   clear hz hr hc
   go_wp2_with fail
   have HB1:=Hd (HB.out.alloc HB.out.size (.cells #[.bool s,.slice a0 n0 c0,.slice a1 n1 c1] 35))
   refine (isValidR_any s a0 n0 c0 xs a1 n1 c1 ys _ (HR.out.1.below ((Below.refl _ _).alloc (Nat.le_refl _) _) (Nat.le_refl _)) (HR.out.2.below ((Below.refl _ _).alloc (Nat.le_refl _) _) (Nat.le_refl _))).mono ?_
   rintro e w1 ⟨rfl,hb⟩
   have HB2:=Hd (HB1.out.trans (hb.mono HB1.out.size))
   clear hb HB1 d0 d1 d2
   by_cases hz : okR s xs ys = true
   ·rw [hz]
    have HV2:=Hd (rl_step HV.out HZ.out hz)
    clear hz
    go_wp2
    exact ⟨⟨k + 1,by omega,by go_num,HV2.out,HB2.out⟩,by simp [intOf]; omega⟩
   ·rw [Bool.not_eq_true] at hz
    rw [hz]
    have HE:=Hd (show false = ok by rw [← HOK.out]; exact (rl_bad HZ.out hz).symm)
    clear hz
    go_wp2
    go_ret
    exact ⟨congrArg (fun z=>Ending.returned (.bool z)) HE.out,HB2.out⟩
  ·obtain rfl : k = n:=by omega
   have HE:=Hd (show true = ok by rw [← HOK.out]; exact (rl_all.mpr (by rw [HL.out]; exact HV.out)).symm)
   go_wp2
   go_ret
   exact ⟨congrArg (fun z=>Ending.returned (.bool z)) HE.out,HB.out⟩
theorem areValid_any (s : Bool) (A : Option Addr) (n c : Nat) (xs : List Int) (B : Option Addr) (m d : Nat) (ys : List Int) (t : Bool) (C : Option Addr) (p q : Nat) (us : List Int) (E : Option Addr) (k l : Nat) (vs : List Int) (u : World) {T : TypeId} {b : Nat} (hA : Arg u A n c (ints xs)) (hB : Arg u B m d (ints ys)) (hC : Arg u C p q (ints us)) (hE : Arg u E k l (ints vs)) (hbk : u.heap.size = b:=by first | rfl | simp) :
 Calls Tryz.prog 60 #[.slice (some ⟨b,0,none⟩) 2 2] (u.alloc (.cells #[.bool s,.slice A n c,.slice B m d,.bool t,.slice C p q,.slice E k l] T)) fun e w' =>e = .returned (.bool (okR s xs ys && okR t us vs)) ∧ Below u.heap.size u w':=by
 subst hbk
 have h2:=areValid_l (some ⟨u.heap.size,0,none⟩) 2 2 [⟨s,A,n,c,xs,B,m,d,ys⟩,⟨t,C,p,q,us,E,k,l,vs⟩] _ (RlRow.two (T:=T) ⟨s,A,n,c,xs,B,m,d,ys⟩ ⟨t,C,p,q,us,E,k,l,vs⟩ ⟨hA,hB⟩ ⟨hC,hE⟩) (by omega)
 have hb : Below u.heap.size u (u.alloc (.cells #[.bool s,.slice A n c,.slice B m d,.bool t,.slice C p q,.slice E k l] T)):=(Below.refl _ _).alloc (Nat.le_refl _) _
 refine h2.mono ?_
 rintro e w' ⟨rfl,hb2⟩
 exact ⟨by simp [Rl.ok],hb.trans (hb2.mono hb.size)⟩
end Go.Proofs.YtodoiekbjjiocaaGreat
namespace Go.Proofs.YtodoiekbjjiocaaGreat
open Go.RowKit Nt
set_option linter.unusedVariables false
set_option maxRecDepth 100000
set_option maxHeartbeats 4000000
theorem l03Make_let (s : Bool) (A : Option Addr) (n c : Nat) (ds : List Nat) (z : Int) (g : Bool) (M : List Nat) (hz : signed s (val ds) = z) (hg : sgZ z = g) (hM : magZ z = M) (w : World) (hA : Arg w A n c (nats ds)) (hd : Digs ds) :
 Calls Tryz.prog 84 #[.bool s,.slice A n c] w (OwnRB 3 g (nats M) w):=by
 subst hg hM
 exact l03Make_at s A n c ds z hz w hA.1 hd hA.2.1 hA.2.2.1 hA.2.2.2
theorem l03Add_let (s t : Bool) (A B : Option Addr) (n c m d : Nat) (ds es : List Nat) (z : Int) (g : Bool) (M : List Nat) (hz : signed s (val ds) + signed t (val es) = z) (hg : sgZ z = g) (hM : magZ z = M) (w : World) (hA : Arg w A n c (nats ds)) (hB : Arg w B m d (nats es)) (hds : Canon ds) (hes : Canon es) (hn : n ≤ 60) (hm : m ≤ 60) :
 Calls Tryz.prog 94 #[.agg #[.bool s,.slice A n c],.agg #[.bool t,.slice B m d]] w (OwnRB 3 g (nats M) w):=by
 subst hg hM hz
 exact l03Add_any s t A B n c m d ds es w hA.1 hB.1 hds hes hn hm
theorem l04Low_at (s : Bool) (A : Option Addr) (n c : Nat) (ds : List Nat) (B : Option Addr) (m d : Nat) (bs : List Nat) (z : Int) (b : Nat) (hz : signed s (val ds) = z) (hbv : val bs = b) (w : World) (hA : Arg w A n c (nats ds)) (hB : Arg w B m d (nats bs)) (hds : Digs ds) (hbs : Digs bs) (hn : n ≤ 60) (hm : m ≤ 60) :
 Calls Tryz.prog 80 #[.bool s,.slice A n c,.slice B m d] w (OwnRR 3 (loS z b) (nats (loN z b)) (nats (loD z b)) w):=by
 obtain ⟨a,ha⟩ : ∃ a,val ds = a:=⟨_,rfl⟩
 rw [ha] at hz
 obtain ⟨RS,hRS⟩ : ∃ y9,loS z b = y9:=⟨_,rfl⟩
 obtain ⟨RN,hRN⟩ : ∃ y9,loN z b = y9:=⟨_,rfl⟩
 obtain ⟨RD,hRD⟩ : ∃ y9,loD z b = y9:=⟨_,rfl⟩
 rw [hRS,hRN,hRD]
 have HRS:=Hd hRS
 have HRN:=Hd hRN
 have HRD:=Hd hRD
 clear hRS hRN hRD
 obtain ⟨i0,hi,hz0,hz1,hz2⟩:=info_parts info_int
 have HTA:=Hd (ha ▸ hA.trim hds)
 have HTB:=Hd (hbv ▸ hB.trim hbs)
 have hnx : (dig a).length ≤ 60:=by have h3:=dig_le_len hds; have h4:=hA.nlen; rw [ha] at h3; omega
 have hny : (dig b).length ≤ 60:=by have h3:=dig_le_len hbs; have h4:=hB.nlen; rw [hbv] at h3; omega
 have HLX:=Hd hnx
 have HLY:=Hd hny
 have HZ:=Hd hz
 have HAV:=Hd ha
 have HBV:=Hd hbv
 clear hz ha hbv hnx hny
 have HA:=Hd hA
 have HB:=Hd hB
 have Hds:=Hd hds
 have Hbs:=Hd hbs
 clear hA hB hds hbs
 go_enter Tryz.func80,Tryz.ntmps80
 have aW:=Hd ((Below.refl w.heap.size w).alloc (Nat.le_refl _) (.cells #[.bool false,.slice none 0 0,.slice none 0 0] 35))
 have aB:=Hd (HeldL.new_at w (w.heap.size) [.bool false,.slice none 0 0,.slice none 0 0] 35 (by first | rfl | simp))
 go_wp2_with fail
 refine (l02Trim_any A n c ds _ (HA.out.below aW.out (Nat.le_refl _)).1 Hds.out HA.out.2.1 HA.out.2.2.1 HA.out.2.2.2).mono ?_
 rintro e w1 ⟨rfl,rfl⟩
 rw [HAV.out]
 go_wp2_with fail
 refine (l02Trim_any B m d bs _ (HB.out.below aW.out (Nat.le_refl _)).1 Hbs.out HB.out.2.1 HB.out.2.2.1 HB.out.2.2.2).mono ?_
 rintro e w1 ⟨rfl,rfl⟩
 rw [HBV.out]
 obtain ⟨nx,hnx⟩ : ∃ nx,(dig a).length = nx:=⟨_,rfl⟩
 obtain ⟨ny,hny⟩ : ∃ ny,(dig b).length = ny:=⟨_,rfl⟩
 have hx60 : nx ≤ 60:=hnx ▸ HLX.out
 have hy60 : ny ≤ 60:=hny ▸ HLY.out
 rw [hnx] at HTA ⊢
 rw [hny] at HTB ⊢
 have HNX:=Hd hnx
 have HNY:=Hd hny
 clear hnx hny
 by_cases hb0 : b = 0
 ·subst hb0
  obtain rfl : ny = 0:=by rw [← HNY.out,dig_zero]; rfl
  have HNO:=Hd (low_none HZ.out (okL_no_zero))
  obtain rfl : RS = false:=by rw [← HRS.out]; exact HNO.out.1
  obtain rfl : RN = []:=by rw [← HRN.out]; exact HNO.out.2.1
  obtain rfl : RD = []:=by rw [← HRD.out]; exact HNO.out.2.2
  obtain ⟨aQ,aJ,aR,aK,aS,aL⟩:=aB.out.g3
  go_wp2
  obtain ⟨hr0,hr1,hr2⟩:=aB.out.c3
  refine bodyPost_ret (v:=.agg #[.bool false,.slice none 0 0,.slice none 0 0]) (by simp [results,Tryz.results80,go_sem,hr0,hr1,hr2]) rfl ?_
  exact ⟨_,_,rfl,OwnV.nil _ _ _,OwnV.nil _ _ _,.inl rfl,.inl rfl,aW.out⟩
 ·have hy0 : 0 < ny:=by rw [← HNY.out]; exact dig_pos_len (by omega)
  have hy1 : ¬ ny = 0:=by omega
  go_wp2_with fail
  refine (l04One_any B ny d (dig b) _ (HTB.out.below aW.out (Nat.le_refl _)).1 (by unfold maxLen; omega)).mono ?_
  rintro e w1 ⟨rfl,rfl⟩
  rw [isOne_dig]
  by_cases hb1 : b = 1
  ·have hg1 : Nat.gcd a b = 1:=by rw [hb1]; exact Nat.gcd_one_right a
   rw [decide_eq_true hb1]
   have HB0:=Hd hb0
   clear hb1 hb0
   have HG1:=Hd hg1
   clear hg1
   have HTX:=Hd (HTA.out.same (Y:=nats (dig (a / Nat.gcd a b))) (by rw [(gcd_one HG1.out).1]))
   have HTY:=Hd (HTB.out.same (Y:=nats (dig (b / Nat.gcd a b))) (by rw [(gcd_one HG1.out).2]))
   by_cases h24 : 24 < nx
   ·have HNO:=Hd (low_none HZ.out (okL_no_num (by rw [← ((HTX.out.below aW.out (Nat.le_refl _))).nlen] at h24; exact h24)))
    obtain rfl : RS = false:=by rw [← HRS.out]; exact HNO.out.1
    obtain rfl : RN = []:=by rw [← HRN.out]; exact HNO.out.2.1
    obtain rfl : RD = []:=by rw [← HRD.out]; exact HNO.out.2.2
    obtain ⟨aQ,aJ,aR,aK,aS,aL⟩:=aB.out.g3
    go_wp2
    obtain ⟨hr0,hr1,hr2⟩:=aB.out.c3
    refine bodyPost_ret (v:=.agg #[.bool false,.slice none 0 0,.slice none 0 0]) (by simp [results,Tryz.results80,go_sem,hr0,hr1,hr2]) rfl ?_
    exact ⟨_,_,rfl,OwnV.nil _ _ _,OwnV.nil _ _ _,.inl rfl,.inl rfl,aW.out⟩
   ·by_cases h25 : 24 < ny
    ·have HNO:=Hd (low_none HZ.out (okL_no_den (by rw [← ((HTY.out.below aW.out (Nat.le_refl _))).nlen] at h25; exact h25)))
     obtain rfl : RS = false:=by rw [← HRS.out]; exact HNO.out.1
     obtain rfl : RN = []:=by rw [← HRN.out]; exact HNO.out.2.1
     obtain rfl : RD = []:=by rw [← HRD.out]; exact HNO.out.2.2
     obtain ⟨aQ,aJ,aR,aK,aS,aL⟩:=aB.out.g3
     go_wp2
     obtain ⟨hr0,hr1,hr2⟩:=aB.out.c3
     refine bodyPost_ret (v:=.agg #[.bool false,.slice none 0 0,.slice none 0 0]) (by simp [results,Tryz.results80,go_sem,hr0,hr1,hr2]) rfl ?_
     exact ⟨_,_,rfl,OwnV.nil _ _ _,OwnV.nil _ _ _,.inl rfl,.inl rfl,aW.out⟩
    ·have HLM:=Hd (low_make HZ.out (okL_yes HB0.out (by rw [((HTX.out.below aW.out (Nat.le_refl _))).nlen]; exact h24) (by rw [((HTY.out.below aW.out (Nat.le_refl _))).nlen]; exact h25)))
     have HSG:=Hd (show sgZ (signed s (a / Nat.gcd a b)) = RS by rw [← HRS.out]; exact HLM.out.1.symm)
     have bV:=Hd (show magZ (signed s (a / Nat.gcd a b)) = RN by rw [← HRN.out]; exact HLM.out.2.1.symm)
     have bW:=Hd (show dig (b / Nat.gcd a b) = RD by rw [← HRD.out]; exact HLM.out.2.2.symm)
     obtain ⟨aQ,aJ,aR,aK,aS,aL⟩:=aB.out.g3
     go_wp2_with fail
     refine (l03Make_let s A nx c (dig (a / Nat.gcd a b)) _ RS RN (by rw [val_dig]) HSG.out bV.out _ ((HTX.out.below aW.out (Nat.le_refl _))) (dig_can _).1).mono ?_
     rintro e w9 ⟨v9,rfl,ho,hb⟩
     obtain ⟨A9,c9,rfl⟩:=ho.shape
     have HO9:=Hd ho
     clear ho
     have aA:=Hd (aB.out.after hb)
     have aY:=Hd (aW.out.trans (hb.mono aW.out.size))
     clear hb
     clear aQ
     clear aJ
     clear aR
     clear aK
     clear aS
     clear aL
     obtain ⟨aG,aD,aH,aE,aI,aF⟩:=aA.out.g3
     have bX:=Hd (World.ownsRow_made (base:=w9.heap.size) (e:=3) (size:=1) w9 #[] 0 (by simp) (Nat.zero_le _) rfl)
     have HRa:=Hd ((((HTY.out.below aY.out (Nat.le_refl _))).same (Y:=nats RD) (by rw [bW.out])).below ((Below.refl _ _).alloc (Nat.le_refl _) (.cells #[] 3)) (Nat.le_refl _))
     have HOCa:=Hd (nats_oneCell (RD))
     go_wp2_with (at_builtin; refine wpList_append_row rfl (.tmp 51) (.tmp 52) 23 rfl w9.heap.size 3 i0 _ 8 Tryz.underlying23 hi hz0 hz1 hz2 rfl _ 0 [] rfl bX.out B ny d (nats (RD)) rfl HRa.out.1 HRa.out.2.2.2 HOCa.out (by unfold maxLen; omega) (by omega) (by simp) ?_)
     intro va w10 hown1 hgrow1
     obtain ⟨ho,hb⟩:=appended hown1 hgrow1
     clear hown1 hgrow1
     obtain ⟨Aa,ca,rfl⟩:=ho.shape
     have HOa:=Hd ho
     have AP_O9_Oa:=Hd (OwnV.apart HO9.out ho (Nat.le_refl _))
     have AP_Oa_O9:=Hd (OwnV.apart' ho HO9.out (Nat.le_refl _))
     clear ho
     have aM:=Hd (aA.out.after hb)
     have bP:=Hd (OwnV.below (w:=w9) HO9.out hb)
     have a8:=Hd (aY.out.trans (hb.mono aY.out.size))
     clear hb
     clear aG
     clear aD
     clear aH
     clear aE
     clear aI
     clear aF
     obtain ⟨a5,a2,a6,a3,a7,a4⟩:=aM.out.g3
     go_wp2
     obtain ⟨hr0,hr1,hr2⟩:=aM.out.c3
     exact bodyPost_ret (v:=.agg #[.bool RS,.slice A9 (nats RN).length c9,.slice Aa (nats RD).length ca]) (by simp [results,Tryz.results80,go_sem,hr0,hr1,hr2]) rfl (ownRR_close a8.out bP.out HOa.out aB.out.lt aA.out.lt (by omega) AP_O9_Oa.out AP_Oa_O9.out)
  ·rw [decide_eq_false hb1]
   have HB0:=Hd hb0
   clear hb1 hb0
   go_wp2_with fail
   have HGC:=Hd (l02Gcd_any A B nx c ny d (dig a) (dig b) _ (HTA.out.below aW.out (Nat.le_refl _)).1 (HTB.out.below aW.out (Nat.le_refl _)).1 (dig_can _) (dig_can _) HTA.out.2.2.2 HTB.out.2.2.2 hx60 hy60)
   rw [val_dig,val_dig] at HGC
   refine (HGC.out).mono ?_
   rintro e w2 ⟨vg,rfl,ho,hb⟩
   obtain ⟨Ag,cg,rfl⟩:=ho.shape
   have HOg:=Hd ho
   clear ho
   have aA:=Hd (aB.out.after hb)
   have aY:=Hd (aW.out.trans (hb.mono aW.out.size))
   clear hb
   have hg60:=Hd (show (nats (dig (Nat.gcd a b))).length ≤ 60 by rw [nats_len]; exact dig_len (gcd_lt (dig_len_iff.mp (HNX.out ▸ hx60)) (dig_len_iff.mp (HNY.out ▸ hy60))))
   go_wp2_with fail
   refine (l04One_any Ag _ cg (dig (Nat.gcd a b)) _ HOg.out.row (by have:=HOg.out.arg.max; exact this)).mono ?_
   rintro e w3 ⟨rfl,hw⟩
   obtain rfl:=hw.symm
   rw [isOne_dig]
   by_cases hg1 : Nat.gcd a b = 1
   ·rw [decide_eq_true hg1]
    have HG1:=Hd hg1
    clear hg1
    have HTX:=Hd (HTA.out.same (Y:=nats (dig (a / Nat.gcd a b))) (by rw [(gcd_one HG1.out).1]))
    have HTY:=Hd (HTB.out.same (Y:=nats (dig (b / Nat.gcd a b))) (by rw [(gcd_one HG1.out).2]))
    by_cases h24 : 24 < nx
    ·have HNO:=Hd (low_none HZ.out (okL_no_num (by rw [← ((HTX.out.below aY.out (Nat.le_refl _))).nlen] at h24; exact h24)))
     obtain rfl : RS = false:=by rw [← HRS.out]; exact HNO.out.1
     obtain rfl : RN = []:=by rw [← HRN.out]; exact HNO.out.2.1
     obtain rfl : RD = []:=by rw [← HRD.out]; exact HNO.out.2.2
     obtain ⟨aG,aD,aH,aE,aI,aF⟩:=aA.out.g3
     go_wp2
     obtain ⟨hr0,hr1,hr2⟩:=aA.out.c3
     refine bodyPost_ret (v:=.agg #[.bool false,.slice none 0 0,.slice none 0 0]) (by simp [results,Tryz.results80,go_sem,hr0,hr1,hr2]) rfl ?_
     exact ownRR_close aY.out (OwnV.nil _ (w.heap.size + 1) _) (OwnV.nil _ (w.heap.size + 1) _) (Nat.lt_succ_self _) (Nat.lt_succ_self _) (by omega) (.inl rfl) (.inl rfl)
    ·by_cases h25 : 24 < ny
     ·have HNO:=Hd (low_none HZ.out (okL_no_den (by rw [← ((HTY.out.below aY.out (Nat.le_refl _))).nlen] at h25; exact h25)))
      obtain rfl : RS = false:=by rw [← HRS.out]; exact HNO.out.1
      obtain rfl : RN = []:=by rw [← HRN.out]; exact HNO.out.2.1
      obtain rfl : RD = []:=by rw [← HRD.out]; exact HNO.out.2.2
      obtain ⟨aG,aD,aH,aE,aI,aF⟩:=aA.out.g3
      go_wp2
      obtain ⟨hr0,hr1,hr2⟩:=aA.out.c3
      refine bodyPost_ret (v:=.agg #[.bool false,.slice none 0 0,.slice none 0 0]) (by simp [results,Tryz.results80,go_sem,hr0,hr1,hr2]) rfl ?_
      exact ownRR_close aY.out (OwnV.nil _ (w.heap.size + 1) _) (OwnV.nil _ (w.heap.size + 1) _) (Nat.lt_succ_self _) (Nat.lt_succ_self _) (by omega) (.inl rfl) (.inl rfl)
     ·have HLM:=Hd (low_make HZ.out (okL_yes HB0.out (by rw [((HTX.out.below aY.out (Nat.le_refl _))).nlen]; exact h24) (by rw [((HTY.out.below aY.out (Nat.le_refl _))).nlen]; exact h25)))
      have HSG:=Hd (show sgZ (signed s (a / Nat.gcd a b)) = RS by rw [← HRS.out]; exact HLM.out.1.symm)
      have bV:=Hd (show magZ (signed s (a / Nat.gcd a b)) = RN by rw [← HRN.out]; exact HLM.out.2.1.symm)
      have bW:=Hd (show dig (b / Nat.gcd a b) = RD by rw [← HRD.out]; exact HLM.out.2.2.symm)
      obtain ⟨aG,aD,aH,aE,aI,aF⟩:=aA.out.g3
      go_wp2_with fail
      refine (l03Make_let s A nx c (dig (a / Nat.gcd a b)) _ RS RN (by rw [val_dig]) HSG.out bV.out _ ((HTX.out.below aY.out (Nat.le_refl _))) (dig_can _).1).mono ?_
      rintro e w9 ⟨v9,rfl,ho,hb⟩
      obtain ⟨A9,c9,rfl⟩:=ho.shape
      have HO9:=Hd ho
      have AP_Og_O9:=Hd (OwnV.apart HOg.out ho (Nat.le_refl _))
      have AP_O9_Og:=Hd (OwnV.apart' ho HOg.out (Nat.le_refl _))
      clear ho
      have aM:=Hd (aA.out.after hb)
      have aX:=Hd (OwnV.below (w:=w2) HOg.out hb)
      have a8:=Hd (aY.out.trans (hb.mono aY.out.size))
      clear hb
      clear aG
      clear aD
      clear aH
      clear aE
      clear aI
      clear aF
      obtain ⟨a5,a2,a6,a3,a7,a4⟩:=aM.out.g3
      have bX:=Hd (World.ownsRow_made (base:=w9.heap.size) (e:=3) (size:=1) w9 #[] 0 (by simp) (Nat.zero_le _) rfl)
      have HRa:=Hd ((((HTY.out.below a8.out (Nat.le_refl _))).same (Y:=nats RD) (by rw [bW.out])).below ((Below.refl _ _).alloc (Nat.le_refl _) (.cells #[] 3)) (Nat.le_refl _))
      have HOCa:=Hd (nats_oneCell (RD))
      go_wp2_with (at_builtin; refine wpList_append_row rfl (.tmp 51) (.tmp 52) 23 rfl w9.heap.size 3 i0 _ 8 Tryz.underlying23 hi hz0 hz1 hz2 rfl _ 0 [] rfl bX.out B ny d (nats (RD)) rfl HRa.out.1 HRa.out.2.2.2 HOCa.out (by unfold maxLen; omega) (by omega) (by simp) ?_)
      intro va w10 hown1 hgrow1
      obtain ⟨ho,hb⟩:=appended hown1 hgrow1
      clear hown1 hgrow1
      obtain ⟨Aa,ca,rfl⟩:=ho.shape
      have HOa:=Hd ho
      have AP_Og_Oa:=Hd (OwnV.apart aX.out ho (Nat.le_refl _))
      have AP_Oa_Og:=Hd (OwnV.apart' ho aX.out (Nat.le_refl _))
      have AP_O9_Oa:=Hd (OwnV.apart HO9.out ho (Nat.le_refl _))
      have AP_Oa_O9:=Hd (OwnV.apart' ho HO9.out (Nat.le_refl _))
      clear ho
      have aC:=Hd (aM.out.after hb)
      have a9:=Hd (OwnV.below (w:=w9) aX.out hb)
      have bQ:=Hd (OwnV.below (w:=w9) HO9.out hb)
      have bL:=Hd (a8.out.trans (hb.mono a8.out.size))
      clear hb
      clear a5
      clear a2
      clear a6
      clear a3
      clear a7
      clear a4
      obtain ⟨aT,aN,aU,aO,aV,aP⟩:=aC.out.g3
      go_wp2
      obtain ⟨hr0,hr1,hr2⟩:=aC.out.c3
      exact bodyPost_ret (v:=.agg #[.bool RS,.slice A9 (nats RN).length c9,.slice Aa (nats RD).length ca]) (by simp [results,Tryz.results80,go_sem,hr0,hr1,hr2]) rfl (ownRR_close bL.out bQ.out HOa.out aA.out.lt aM.out.lt (by omega) AP_O9_Oa.out AP_Oa_O9.out)
   ·rw [decide_eq_false hg1]
    have HGP:=Hd (show 0 < (nats (dig (Nat.gcd a b))).length by rw [nats_len]; exact dig_pos_len (Nat.gcd_pos_of_pos_right a (Nat.pos_of_ne_zero HB0.out)))
    clear hg1
    go_wp2_with fail
    have b3:=Hd (l02Div_any A Ag nx c _ cg (dig a) (dig (Nat.gcd a b)) _ (HTA.out.below aY.out (Nat.le_refl _)).1 HOg.out.row (dig_can _).1 (dig_can _) HGP.out (by omega) (by have:=hg60.out; omega))
    rw [val_dig,val_dig] at b3
    refine (b3.out).mono ?_
    rintro e wx ⟨vx,ux,rfl,ho,ho1,ap0,ap1,hb⟩
    obtain ⟨Ax,cx,rfl⟩:=ho.shape
    obtain ⟨Arx,crx,rfl⟩:=ho1.shape
    have HOx:=Hd ho
    have AP_Og_Ox:=Hd (OwnV.apart HOg.out ho (Nat.le_refl _))
    have AP_Ox_Og:=Hd (OwnV.apart' ho HOg.out (Nat.le_refl _))
    clear ho ho1 ap0 ap1
    have aM:=Hd (aA.out.after hb)
    have aX:=Hd (OwnV.below (w:=w2) HOg.out hb)
    have a8:=Hd (aY.out.trans (hb.mono aY.out.size))
    clear hb
    go_wp2_with fail
    have b4:=Hd (l02Div_any B Ag ny d _ cg (dig b) (dig (Nat.gcd a b)) _ (HTB.out.below a8.out (Nat.le_refl _)).1 aX.out.row (dig_can _).1 (dig_can _) HGP.out (by omega) (by have:=hg60.out; omega))
    rw [val_dig,val_dig] at b4
    refine (b4.out).mono ?_
    rintro e wy ⟨vy,uy,rfl,ho,ho1,ap0,ap1,hb⟩
    obtain ⟨Ay,cy,rfl⟩:=ho.shape
    obtain ⟨Ary,cry,rfl⟩:=ho1.shape
    have HOy:=Hd ho
    have AP_Og_Oy:=Hd (OwnV.apart aX.out ho (Nat.le_refl _))
    have AP_Oy_Og:=Hd (OwnV.apart' ho aX.out (Nat.le_refl _))
    have AP_Ox_Oy:=Hd (OwnV.apart HOx.out ho (Nat.le_refl _))
    have AP_Oy_Ox:=Hd (OwnV.apart' ho HOx.out (Nat.le_refl _))
    clear ho ho1 ap0 ap1
    have aC:=Hd (aM.out.after hb)
    have a9:=Hd (OwnV.below (w:=wx) aX.out hb)
    have aZ:=Hd (OwnV.below (w:=wx) HOx.out hb)
    have bL:=Hd (a8.out.trans (hb.mono a8.out.size))
    clear hb
    have HLx:=Hd (show (nats (dig (a / Nat.gcd a b))).length ≤ 60 by rw [nats_len]; exact dig_len (Nat.lt_of_le_of_lt (Nat.div_le_self _ _) (dig_len_iff.mp (HNX.out ▸ hx60))))
    have hlx:=HLx.out
    obtain ⟨Nx,hNx⟩ : ∃ k,(nats (dig (a / Nat.gcd a b))).length = k:=⟨_,rfl⟩
    rw [hNx] at aZ hlx ⊢
    have HNNx:=Hd hNx
    clear hNx
    have HLy:=Hd (show (nats (dig (b / Nat.gcd a b))).length ≤ 60 by rw [nats_len]; exact dig_len (Nat.lt_of_le_of_lt (Nat.div_le_self _ _) (dig_len_iff.mp (HNY.out ▸ hy60))))
    have hly:=HLy.out
    obtain ⟨Ny,hNy⟩ : ∃ k,(nats (dig (b / Nat.gcd a b))).length = k:=⟨_,rfl⟩
    rw [hNy] at HOy hly ⊢
    have HNNy:=Hd hNy
    clear hNy
    by_cases h24 : 24 < Nx
    ·have HNO:=Hd (low_none HZ.out (okL_no_num (by rw [← (aZ.out.arg).nlen] at h24; exact h24)))
     obtain rfl : RS = false:=by rw [← HRS.out]; exact HNO.out.1
     obtain rfl : RN = []:=by rw [← HRN.out]; exact HNO.out.2.1
     obtain rfl : RD = []:=by rw [← HRD.out]; exact HNO.out.2.2
     obtain ⟨aT,aN,aU,aO,aV,aP⟩:=aC.out.g3
     go_wp2
     obtain ⟨hr0,hr1,hr2⟩:=aC.out.c3
     refine bodyPost_ret (v:=.agg #[.bool false,.slice none 0 0,.slice none 0 0]) (by simp [results,Tryz.results80,go_sem,hr0,hr1,hr2]) rfl ?_
     exact ownRR_close bL.out (OwnV.nil _ (w.heap.size + 1) _) (OwnV.nil _ (w.heap.size + 1) _) (Nat.lt_succ_self _) (Nat.lt_succ_self _) (by omega) (.inl rfl) (.inl rfl)
    ·by_cases h25 : 24 < Ny
     ·have HNO:=Hd (low_none HZ.out (okL_no_den (by rw [← (HOy.out.arg).nlen] at h25; exact h25)))
      obtain rfl : RS = false:=by rw [← HRS.out]; exact HNO.out.1
      obtain rfl : RN = []:=by rw [← HRN.out]; exact HNO.out.2.1
      obtain rfl : RD = []:=by rw [← HRD.out]; exact HNO.out.2.2
      obtain ⟨aT,aN,aU,aO,aV,aP⟩:=aC.out.g3
      go_wp2
      obtain ⟨hr0,hr1,hr2⟩:=aC.out.c3
      refine bodyPost_ret (v:=.agg #[.bool false,.slice none 0 0,.slice none 0 0]) (by simp [results,Tryz.results80,go_sem,hr0,hr1,hr2]) rfl ?_
      exact ownRR_close bL.out (OwnV.nil _ (w.heap.size + 1) _) (OwnV.nil _ (w.heap.size + 1) _) (Nat.lt_succ_self _) (Nat.lt_succ_self _) (by omega) (.inl rfl) (.inl rfl)
     ·have HLM:=Hd (low_make HZ.out (okL_yes HB0.out (by rw [(aZ.out.arg).nlen]; exact h24) (by rw [(HOy.out.arg).nlen]; exact h25)))
      have HSG:=Hd (show sgZ (signed s (a / Nat.gcd a b)) = RS by rw [← HRS.out]; exact HLM.out.1.symm)
      have bV:=Hd (show magZ (signed s (a / Nat.gcd a b)) = RN by rw [← HRN.out]; exact HLM.out.2.1.symm)
      have bW:=Hd (show dig (b / Nat.gcd a b) = RD by rw [← HRD.out]; exact HLM.out.2.2.symm)
      obtain ⟨aT,aN,aU,aO,aV,aP⟩:=aC.out.g3
      go_wp2_with fail
      refine (l03Make_let s Ax Nx cx (dig (a / Nat.gcd a b)) _ RS RN (by rw [val_dig]) HSG.out bV.out _ (aZ.out.arg) (dig_can _).1).mono ?_
      rintro e w9 ⟨v9,rfl,ho,hb⟩
      obtain ⟨A9,c9,rfl⟩:=ho.shape
      have HO9:=Hd ho
      have AP_Og_O9:=Hd (OwnV.apart a9.out ho (Nat.le_refl _))
      have AP_O9_Og:=Hd (OwnV.apart' ho a9.out (Nat.le_refl _))
      have AP_Ox_O9:=Hd (OwnV.apart aZ.out ho (Nat.le_refl _))
      have AP_O9_Ox:=Hd (OwnV.apart' ho aZ.out (Nat.le_refl _))
      have AP_Oy_O9:=Hd (OwnV.apart HOy.out ho (Nat.le_refl _))
      have AP_O9_Oy:=Hd (OwnV.apart' ho HOy.out (Nat.le_refl _))
      clear ho
      have bA:=Hd (aC.out.after hb)
      have bF:=Hd (OwnV.below (w:=wy) a9.out hb)
      have bG:=Hd (OwnV.below (w:=wy) aZ.out hb)
      have bB:=Hd (OwnV.below (w:=wy) HOy.out hb)
      have bY:=Hd (bL.out.trans (hb.mono bL.out.size))
      clear hb
      clear aT
      clear aN
      clear aU
      clear aO
      clear aV
      clear aP
      obtain ⟨bH,bC,bI,bD,bJ,bE⟩:=bA.out.g3
      have bX:=Hd (World.ownsRow_made (base:=w9.heap.size) (e:=3) (size:=1) w9 #[] 0 (by simp) (Nat.zero_le _) rfl)
      have HRa:=Hd (((bB.out.arg).same (Y:=nats RD) (by rw [bW.out])).below ((Below.refl _ _).alloc (Nat.le_refl _) (.cells #[] 3)) (Nat.le_refl _))
      have HOCa:=Hd (nats_oneCell (RD))
      go_wp2_with (at_builtin; refine wpList_append_row rfl (.tmp 51) (.tmp 52) 23 rfl w9.heap.size 3 i0 _ 8 Tryz.underlying23 hi hz0 hz1 hz2 rfl _ 0 [] rfl bX.out Ay Ny cy (nats (RD)) rfl HRa.out.1 HRa.out.2.2.2 HOCa.out (by unfold maxLen; omega) (by omega) (by simp) ?_)
      intro va w10 hown1 hgrow1
      obtain ⟨ho,hb⟩:=appended hown1 hgrow1
      clear hown1 hgrow1
      obtain ⟨Aa,ca,rfl⟩:=ho.shape
      have HOa:=Hd ho
      have AP_Og_Oa:=Hd (OwnV.apart bF.out ho (Nat.le_refl _))
      have AP_Oa_Og:=Hd (OwnV.apart' ho bF.out (Nat.le_refl _))
      have AP_Ox_Oa:=Hd (OwnV.apart bG.out ho (Nat.le_refl _))
      have AP_Oa_Ox:=Hd (OwnV.apart' ho bG.out (Nat.le_refl _))
      have AP_Oy_Oa:=Hd (OwnV.apart bB.out ho (Nat.le_refl _))
      have AP_Oa_Oy:=Hd (OwnV.apart' ho bB.out (Nat.le_refl _))
      have AP_O9_Oa:=Hd (OwnV.apart HO9.out ho (Nat.le_refl _))
      have AP_Oa_O9:=Hd (OwnV.apart' ho HO9.out (Nat.le_refl _))
      clear ho
      have bK:=Hd (bA.out.after hb)
      have bZ:=Hd (OwnV.below (w:=w9) bF.out hb)
      have b0:=Hd (OwnV.below (w:=w9) bG.out hb)
      have b1:=Hd (OwnV.below (w:=w9) bB.out hb)
      have bR:=Hd (OwnV.below (w:=w9) HO9.out hb)
      have b2:=Hd (bY.out.trans (hb.mono bY.out.size))
      clear hb
      clear bH
      clear bC
      clear bI
      clear bD
      clear bJ
      clear bE
      obtain ⟨bS,bM,bT,bN,bU,bO⟩:=bK.out.g3
      go_wp2
      obtain ⟨hr0,hr1,hr2⟩:=bK.out.c3
      exact bodyPost_ret (v:=.agg #[.bool RS,.slice A9 (nats RN).length c9,.slice Aa (nats RD).length ca]) (by simp [results,Tryz.results80,go_sem,hr0,hr1,hr2]) rfl (ownRR_close b2.out bR.out HOa.out aC.out.lt bA.out.lt (by omega) AP_O9_Oa.out AP_Oa_O9.out)
theorem l04Low_let (s : Bool) (A : Option Addr) (n c : Nat) (ds : List Nat) (B : Option Addr) (m d : Nat) (bs : List Nat) (z : Int) (b : Nat) (hz : signed s (val ds) = z) (hbv : val bs = b) (w : World) (hA : Arg w A n c (nats ds)) (hB : Arg w B m d (nats bs)) (hds : Digs ds) (hbs : Digs bs) (hn : n ≤ 60) (hm : m ≤ 60) (RS : Bool) (RN RD : List Nat) (hS : loS z b = RS) (hN : loN z b = RN) (hD : loD z b = RD) :
 Calls Tryz.prog 80 #[.bool s,.slice A n c,.slice B m d] w (OwnRR 3 RS (nats RN) (nats RD) w):=by
 subst hS hN hD
 exact l04Low_at s A n c ds B m d bs z b hz hbv w hA hB hds hbs hn hm
theorem reduced_at (s : Bool) (A : Option Addr) (n c : Nat) (ds : List Nat) (B : Option Addr) (m d : Nat) (bs : List Nat) (z : Int) (b : Nat) (hz : signed s (val ds) = z) (hbv : val bs = b) (w : World) (hA : Arg w A n c (nats ds)) (hB : Arg w B m d (nats bs)) (hds : Canon ds) (hbs : Canon bs) (hn : n ≤ 60) (hm : m ≤ 60) :
 Calls Tryz.prog 71 #[.agg #[.bool s,.slice A n c],.slice B m d] w (OwnRR 3 (loS z b) (nats (loN z b)) (nats (loD z b)) w):=by
 obtain ⟨a,ha⟩ : ∃ a,val ds = a:=⟨_,rfl⟩
 rw [ha] at hz
 obtain ⟨RS,hRS⟩ : ∃ y9,loS z b = y9:=⟨_,rfl⟩
 obtain ⟨RN,hRN⟩ : ∃ y9,loN z b = y9:=⟨_,rfl⟩
 obtain ⟨RD,hRD⟩ : ∃ y9,loD z b = y9:=⟨_,rfl⟩
 rw [hRS,hRN,hRD]
 have HRS:=Hd hRS
 have HRN:=Hd hRN
 have HRD:=Hd hRD
 clear hRS hRN hRD
 have HZ:=Hd hz
 have HAV:=Hd ha
 have HBV:=Hd hbv
 have HLA:=Hd hA.nlen
 have HLB:=Hd hB.nlen
 have HIA:=Hd (okI_of_nats hds (by rw [hA.nlen]; exact hn))
 have HIB:=Hd (okI_of_nats hbs (by rw [hB.nlen]; exact hm))
 have HTA:=Hd (show dig a = ds by rw [← ha]; exact dig_of_can hds)
 have HTB:=Hd (show dig b = bs by rw [← hbv]; exact dig_of_can hbs)
 clear hz ha hbv
 have HA:=Hd hA
 have HB:=Hd hB
 have Hds:=Hd hds
 have Hbs:=Hd hbs
 clear hA hB hds hbs
 go_enter Tryz.func71,Tryz.ntmps71
 have aN:=Hd (((Below.refl w.heap.size w).alloc (Nat.le_refl _) (.cells #[.bool s,.slice A n c] 33)).alloc (by simp) (.cells #[.bool false,.slice none 0 0,.slice none 0 0] 35))
 have aX:=Hd ((HeldL.new_at w (w.heap.size) [.bool s,.slice A n c] 33 (by first | rfl | simp)).alloc (.cells #[.bool false,.slice none 0 0,.slice none 0 0] 35))
 have aJ:=Hd (HeldL.new_at (w.alloc (.cells #[.bool s,.slice A n c] 33)) (w.heap.size + 1) [.bool false,.slice none 0 0,.slice none 0 0] 35 (by first | rfl | simp))
 have bK : w.heap.size ≠ w.heap.size + 1:=by omega
 have bL : w.heap.size + 1 ≠ w.heap.size:=by omega
 by_cases hm0 : m = 0
 ·subst hm0
  obtain rfl : b = 0:=by rw [← HBV.out,List.eq_nil_of_length_eq_zero HLB.out]; rfl
  have HNO:=Hd (low_none HZ.out (okL_no_zero))
  obtain rfl : RS = false:=by rw [← HRS.out]; exact HNO.out.1
  obtain rfl : RN = []:=by rw [← HRN.out]; exact HNO.out.2.1
  obtain rfl : RD = []:=by rw [← HRD.out]; exact HNO.out.2.2
  obtain ⟨a9,aY,bA,aZ,bB,a2⟩:=aJ.out.g3
  go_wp2
  obtain ⟨hr0,hr1,hr2⟩:=aJ.out.c3
  refine bodyPost_ret (v:=.agg #[.bool false,.slice none 0 0,.slice none 0 0]) (by simp [results,Tryz.results71,go_sem,hr0,hr1,hr2]) rfl ?_
  exact ⟨_,_,rfl,OwnV.nil _ _ _,OwnV.nil _ _ _,.inl rfl,.inl rfl,aN.out⟩
 ·have HB0:=Hd (show b ≠ 0 by intro e; apply hm0; rw [← HLB.out,← HTB.out,e,dig_zero]; rfl)
  obtain ⟨aO,aP⟩:=aX.out.c2
  go_wp2_with fail
  have HGC:=Hd (natGcd_impl A B n c m d (ds.map fun x : Nat=>(x : Int)) (bs.map fun x : Nat=>(x : Int)) _ (HA.out.below aN.out (Nat.le_refl _)).1 (HB.out.below aN.out (Nat.le_refl _)).1 HA.out.max HB.out.max)
  rw [gcdN_yes HIA.out HIB.out,toN_nats,toN_nats,HAV.out,HBV.out] at HGC
  refine (HGC.out).mono ?_
  rintro e w2 ⟨vg,rfl,ho,hb⟩
  obtain ⟨Ag,cg,rfl⟩:=ho.shape
  have HOg:=Hd ho
  clear ho
  have a3:=Hd (aX.out.after hb)
  have aK:=Hd (aJ.out.after hb)
  have bC:=Hd (aN.out.trans (hb.mono aN.out.size))
  clear hb
  have HG60:=Hd (show (dig (Nat.gcd a b)).length ≤ 60 from dig_len (gcd_lt (dig_len_iff.mp (by rw [HTA.out,HLA.out]; exact hn)) (dig_len_iff.mp (by rw [HTB.out,HLB.out]; exact hm))))
  have HIG:=Hd (okI_of_nats (dig_can (Nat.gcd a b)) HG60.out)
  clear aO
  clear aP
  obtain ⟨aQ,aR⟩:=a3.out.c2
  go_wp2_with fail
  have bO:=Hd (natDiv_impl A Ag n c _ cg (ds.map fun x : Nat=>(x : Int)) ((dig (Nat.gcd a b)).map fun x : Nat=>(x : Int)) _ (HA.out.below bC.out (Nat.le_refl _)).1 HOg.out.row HA.out.max (by have:=HOg.out.arg.max; exact this))
  rw [quoN_yes HIA.out HIG.out,toN_nats,toN_nats,val_dig,HAV.out] at bO
  refine (bO.out).mono ?_
  rintro e wx ⟨vx,ux,rfl,ho,ho1,ap0,ap1,hb⟩
  obtain ⟨Ax,cx,rfl⟩:=ho.shape
  obtain ⟨Arx,crx,rfl⟩:=ho1.shape
  have HOx:=Hd ho
  have AP_Og_Ox:=Hd (OwnV.apart HOg.out ho (Nat.le_refl _))
  have AP_Ox_Og:=Hd (OwnV.apart' ho HOg.out (Nat.le_refl _))
  clear ho ho1 ap0 ap1
  have a4:=Hd (a3.out.after hb)
  have aL:=Hd (aK.out.after hb)
  have aH:=Hd (OwnV.below (w:=w2) HOg.out hb)
  have bD:=Hd (bC.out.trans (hb.mono bC.out.size))
  clear hb
  clear aQ
  clear aR
  obtain ⟨aS,aT⟩:=a4.out.c2
  go_wp2_with fail
  have bP:=Hd (natDiv_impl B Ag m d _ cg (bs.map fun x : Nat=>(x : Int)) ((dig (Nat.gcd a b)).map fun x : Nat=>(x : Int)) _ (HB.out.below bD.out (Nat.le_refl _)).1 aH.out.row HB.out.max (by have:=aH.out.arg.max; exact this))
  rw [quoN_yes HIB.out HIG.out,toN_nats,toN_nats,val_dig,HBV.out] at bP
  refine (bP.out).mono ?_
  rintro e wy ⟨vy,uy,rfl,ho,ho1,ap0,ap1,hb⟩
  obtain ⟨Ay,cy,rfl⟩:=ho.shape
  obtain ⟨Ary,cry,rfl⟩:=ho1.shape
  have HOy:=Hd ho
  have AP_Og_Oy:=Hd (OwnV.apart aH.out ho (Nat.le_refl _))
  have AP_Oy_Og:=Hd (OwnV.apart' ho aH.out (Nat.le_refl _))
  have AP_Ox_Oy:=Hd (OwnV.apart HOx.out ho (Nat.le_refl _))
  have AP_Oy_Ox:=Hd (OwnV.apart' ho HOx.out (Nat.le_refl _))
  clear ho ho1 ap0 ap1
  have a5:=Hd (a4.out.after hb)
  have aD:=Hd (aL.out.after hb)
  have bE:=Hd (OwnV.below (w:=wx) aH.out hb)
  have aI:=Hd (OwnV.below (w:=wx) HOx.out hb)
  have aW:=Hd (bD.out.trans (hb.mono bD.out.size))
  clear hb
  clear aS
  clear aT
  have HLx:=Hd (show (nats (dig (a / Nat.gcd a b))).length ≤ 60 by rw [nats_len]; exact dig_len (Nat.lt_of_le_of_lt (Nat.div_le_self _ _) (dig_len_iff.mp (by rw [HTA.out,HLA.out]; exact hn))))
  have hlx:=HLx.out
  obtain ⟨Nx,hNx⟩ : ∃ k,(nats (dig (a / Nat.gcd a b))).length = k:=⟨_,rfl⟩
  rw [hNx] at aI hlx AP_Ox_Oy AP_Oy_Ox ⊢
  have HNNx:=Hd hNx
  clear hNx
  have HLy:=Hd (show (nats (dig (b / Nat.gcd a b))).length ≤ 60 by rw [nats_len]; exact dig_len (Nat.lt_of_le_of_lt (Nat.div_le_self _ _) (dig_len_iff.mp (by rw [HTB.out,HLB.out]; exact hm))))
  have hly:=HLy.out
  obtain ⟨Ny,hNy⟩ : ∃ k,(nats (dig (b / Nat.gcd a b))).length = k:=⟨_,rfl⟩
  rw [hNy] at HOy hly AP_Ox_Oy AP_Oy_Ox ⊢
  have HNNy:=Hd hNy
  clear hNy
  by_cases h24 : 24 < Nx
  ·have HNO:=Hd (low_none HZ.out (okL_no_num (by rw [aI.out.arg.nlen]; exact h24)))
   obtain rfl : RS = false:=by rw [← HRS.out]; exact HNO.out.1
   obtain rfl : RN = []:=by rw [← HRN.out]; exact HNO.out.2.1
   obtain rfl : RD = []:=by rw [← HRD.out]; exact HNO.out.2.2
   obtain ⟨aE,aA,aF,aB,aG,aC⟩:=aD.out.g3
   go_wp2
   obtain ⟨hr0,hr1,hr2⟩:=aD.out.c3
   refine bodyPost_ret (v:=.agg #[.bool false,.slice none 0 0,.slice none 0 0]) (by simp [results,Tryz.results71,go_sem,hr0,hr1,hr2]) rfl ?_
   exact ownRR_close aW.out (OwnV.nil _ (w.heap.size + 1 + 1) _) (OwnV.nil _ (w.heap.size + 1 + 1) _) (Nat.lt_succ_self _) (Nat.lt_succ_self _) (by omega) (.inl rfl) (.inl rfl)
  ·by_cases h25 : 24 < Ny
   ·have HNO:=Hd (low_none HZ.out (okL_no_den (by rw [HOy.out.arg.nlen]; exact h25)))
    obtain rfl : RS = false:=by rw [← HRS.out]; exact HNO.out.1
    obtain rfl : RN = []:=by rw [← HRN.out]; exact HNO.out.2.1
    obtain rfl : RD = []:=by rw [← HRD.out]; exact HNO.out.2.2
    obtain ⟨aE,aA,aF,aB,aG,aC⟩:=aD.out.g3
    go_wp2
    obtain ⟨hr0,hr1,hr2⟩:=aD.out.c3
    refine bodyPost_ret (v:=.agg #[.bool false,.slice none 0 0,.slice none 0 0]) (by simp [results,Tryz.results71,go_sem,hr0,hr1,hr2]) rfl ?_
    exact ownRR_close aW.out (OwnV.nil _ (w.heap.size + 1 + 1) _) (OwnV.nil _ (w.heap.size + 1 + 1) _) (Nat.lt_succ_self _) (Nat.lt_succ_self _) (by omega) (.inl rfl) (.inl rfl)
   ·have HLM:=Hd (low_some HZ.out (okL_yes HB0.out (by rw [aI.out.arg.nlen]; exact h24) (by rw [HOy.out.arg.nlen]; exact h25)))
    have bR:=Hd (show dig (a / Nat.gcd a b) = RN by rw [← HRN.out]; exact HLM.out.2.1.symm)
    have bS:=Hd (show dig (b / Nat.gcd a b) = RD by rw [← HRD.out]; exact HLM.out.2.2.symm)
    have HSG:=Hd (show (s && decide (0 < Nx)) = RS by rw [← HRS.out,HLM.out.1,← HNNx.out,nats_len])
    rw [bR.out] at aI
    rw [bS.out] at HOy
    obtain ⟨aU,aV⟩:=a5.out.c2
    obtain ⟨aE,aA,aF,aB,aG,aC⟩:=aD.out.g3
    go_wp2_with fail
    refine (bigIntWith_any s Ax Nx cx _ (by omega)).mono ?_
    rintro e w9 ⟨rfl,hb⟩
    rw [HSG.out]
    have bQ:=Hd (a5.out.after hb)
    have aM:=Hd (aD.out.after hb)
    have bM:=Hd (OwnV.below (w:=wy) bE.out hb)
    have bF:=Hd (OwnV.below (w:=wy) aI.out hb)
    have bG:=Hd (OwnV.below (w:=wy) HOy.out hb)
    have bN:=Hd (aW.out.trans (hb.mono aW.out.size))
    clear hb
    clear aU
    clear aV
    clear aE
    clear aA
    clear aF
    clear aB
    clear aG
    clear aC
    obtain ⟨bH,a6,bI,a7,bJ,a8⟩:=aM.out.g3
    go_wp2
    obtain ⟨hr0,hr1,hr2⟩:=aM.out.c3
    exact bodyPost_ret (v:=.agg #[.bool RS,.slice Ax Nx cx,.slice Ay Ny cy]) (by simp [results,Tryz.results71,go_sem,hr0,hr1,hr2]) rfl (ownRR_close bN.out bF.out bG.out aK.out.lt aL.out.lt (by omega) AP_Ox_Oy.out AP_Oy_Ox.out)
theorem reduced_let (s : Bool) (A : Option Addr) (n c : Nat) (ds : List Nat) (B : Option Addr) (m d : Nat) (bs : List Nat) (z : Int) (b : Nat) (hz : signed s (val ds) = z) (hbv : val bs = b) (w : World) (hA : Arg w A n c (nats ds)) (hB : Arg w B m d (nats bs)) (hds : Canon ds) (hbs : Canon bs) (hn : n ≤ 60) (hm : m ≤ 60) (RS : Bool) (RN RD : List Nat) (hS : loS z b = RS) (hN : loN z b = RN) (hD : loD z b = RD) :
 Calls Tryz.prog 71 #[.agg #[.bool s,.slice A n c],.slice B m d] w (OwnRR 3 RS (nats RN) (nats RD) w):=by
 subst hS hN hD
 exact reduced_at s A n c ds B m d bs z b hz hbv w hA hB hds hbs hn hm
end Go.Proofs.YtodoiekbjjiocaaGreat
namespace Go.Proofs.YtodoiekbjjiocaaGreat
open Go.RowKit Nt
set_option linter.unusedVariables false
set_option maxRecDepth 100000
set_option maxHeartbeats 4000000
theorem ratFromInt_spec (x : Int) (w : World) (hx : -9223372036854775808 ≤ x ∧ x ≤ 9223372036854775807) :
 Calls Tryz.prog 28 #[.int .i64 x] w (OwnRR 3 (sgZ x) (nats (magZ x)) (nats ([1])) w):=by
 have Hx:=Hd hx
 clear hx
 obtain ⟨gx,hgx⟩ : ∃ y9,sgZ x = y9:=⟨_,rfl⟩
 obtain ⟨mx,hmx⟩ : ∃ y9,magZ x = y9:=⟨_,rfl⟩
 rw [hgx,hmx]
 have Hgx:=Hd hgx
 have Hmx:=Hd hmx
 clear hgx hmx
 go_enter Tryz.func28,Tryz.ntmps28
 have aM:=Hd ((Below.refl w.heap.size w).alloc (Nat.le_refl _) (.cells #[.bool false,.slice none 0 0,.slice none 0 0] 35))
 have aB:=Hd (HeldL.new_at w (w.heap.size) [.bool false,.slice none 0 0,.slice none 0 0] 35 (by first | rfl | simp))
 go_wp2_with fail
 have HCx:=Hd (bigIntOf_spec x (w.alloc (.cells #[.bool false,.slice none 0 0,.slice none 0 0] 35)) Hx.out)
 rw [Hgx.out,Hmx.out] at HCx
 refine (HCx.out).mono ?_
 rintro e wx ⟨vx,rfl,ho,hb⟩
 obtain ⟨Ax,cx,rfl⟩:=ho.shape
 have HOx:=Hd ho
 clear ho
 have aA:=Hd (aB.out.after hb)
 have aN:=Hd (aM.out.trans (hb.mono aM.out.size))
 clear hb
 have hoa : OwnV (wx.alloc (.cells #[.int .i64 1] 3)) wx.heap.size 3 (.slice (some ⟨wx.heap.size,0,none⟩) 1 1) (nats [1]):=OwnV.of_whole (ys:=nats [1]) (whole_of (Nat.le_refl _) (by show (wx.alloc (.cells #[.int .i64 1] 3)).heap[wx.heap.size]? = some (.cells #[.int .i64 1] 3); unfold World.alloc; simp) (by unfold maxLen; decide))
 have HOa:=Hd hoa
 have AP_Ox_Oa:=Hd (OwnV.apart HOx.out hoa (Nat.le_refl _))
 have AP_Oa_Ox:=Hd (OwnV.apart' hoa HOx.out (Nat.le_refl _))
 clear hoa
 have aC:=Hd (aA.out.alloc (.cells #[.int .i64 1] 3))
 have aD : w.heap.size ≠ wx.heap.size:=by have:=aA.out.lt; omega
 have aE : wx.heap.size ≠ w.heap.size:=by have:=aA.out.lt; omega
 have aO:=Hd (HeldL.new wx [.int .i64 1] 3)
 have aI:=Hd (OwnV.below HOx.out ((Below.refl _ wx).alloc (Nat.le_refl _) (.cells #[.int .i64 1] 3)))
 have aP:=Hd (aN.out.alloc aN.out.size (.cells #[.int .i64 1] 3))
 obtain ⟨aJ,aF,aK,aG,aL,aH⟩:=aC.out.g3
 go_wp2
 obtain ⟨hr0,hr1,hr2⟩:=aC.out.c3
 exact bodyPost_ret (v:=.agg #[.bool gx,.slice Ax (nats mx).length cx,.slice (some ⟨wx.heap.size,0,none⟩) 1 1]) (by simp [results,Tryz.results28,go_sem,hr0,hr1,hr2]) rfl (ownRR_close aP.out aI.out HOa.out aB.out.lt aA.out.lt (by omega) AP_Ox_Oa.out AP_Oa_Ox.out)
end Go.Proofs.YtodoiekbjjiocaaGreat
namespace Go.Proofs.YtodoiekbjjiocaaGreat
open Go.RowKit Nt
set_option linter.unusedVariables false
set_option maxRecDepth 100000
set_option maxHeartbeats 4000000
theorem cmp_small {a b : Int} (ha : a.natAbs < 1000000000 ^ 60) (hb : b.natAbs < 1000000000 ^ 60) : cmpS (sgZ a) (sgZ b) (val (magZ a)) (val (magZ b)) = cmpZ a b:=by
 rw [sgZ_small ha,sgZ_small hb,magZ_small ha,magZ_small hb,val_dig,val_dig]
 exact cmpS_cmpZ
def sgnR (s : Bool) (xs ys : List Int) : Int:=if okR s xs ys = true then cmpZ (zOf s xs) 0 else 0
theorem l04Mul_at (s : Bool) (A : Option Addr) (n c : Nat) (ds : List Nat) (B : Option Addr) (m d : Nat) (bs : List Nat) (t : Bool) (C : Option Addr) (p q : Nat) (es : List Nat) (E : Option Addr) (k l : Nat) (gs : List Nat) (z : Int) (bv : Nat) (hz : signed s (val ds) * signed t (val es) = z) (hbv : val bs * val gs = bv) (w : World) (hA : Arg w A n c (nats ds)) (hB : Arg w B m d (nats bs)) (hv : Valid ds bs) (hC : Arg w C p q (nats es)) (hE : Arg w E k l (nats gs)) (hv2 : Valid es gs) :
 Calls Tryz.prog 82 #[.agg #[.bool s,.slice A n c,.slice B m d],.agg #[.bool t,.slice C p q,.slice E k l]] w (OwnRR 3 (loS z bv) (nats (loN z bv)) (nats (loD z bv)) w):=by
 obtain ⟨RS,hRS⟩ : ∃ y9,loS z bv = y9:=⟨_,rfl⟩
 obtain ⟨RN,hRN⟩ : ∃ y9,loN z bv = y9:=⟨_,rfl⟩
 obtain ⟨RD,hRD⟩ : ∃ y9,loD z bv = y9:=⟨_,rfl⟩
 rw [hRS,hRN,hRD]
 have HLS:=Hd hRS
 have HLN:=Hd hRN
 have HLD:=Hd hRD
 clear hRS hRN hRD
 have hn : n ≤ 24:=by have:=hA.nlen; have:=hv.2.2.1; omega
 have hm : m ≤ 24:=by have:=hB.nlen; have:=hv.2.2.2.1; omega
 have hp : p ≤ 24:=by have:=hC.nlen; have:=hv2.2.2.1; omega
 have hk : k ≤ 24:=by have:=hE.nlen; have:=hv2.2.2.2.1; omega
 have HA:=Hd hA
 have HB:=Hd hB
 have HC:=Hd hC
 have HE:=Hd hE
 have Hv:=Hd hv
 have Hv2:=Hd hv2
 have Hz:=Hd hz
 have Hbv:=Hd hbv
 clear hA hB hC hE hv hv2 hz hbv
 go_enter Tryz.func82,Tryz.ntmps82
 have aG:=Hd ((((Below.refl w.heap.size w).alloc (Nat.le_refl _) (.cells #[.bool s,.slice A n c,.slice B m d] 35)).alloc (by simp) (.cells #[.bool t,.slice C p q,.slice E k l] 35)).alloc (by simp; omega) (.cells #[.bool false,.slice none 0 0,.slice none 0 0] 35))
 have aJ:=Hd (((HeldL.new_at w (w.heap.size) [.bool s,.slice A n c,.slice B m d] 35 (by first | rfl | simp)).alloc (.cells #[.bool t,.slice C p q,.slice E k l] 35)).alloc (.cells #[.bool false,.slice none 0 0,.slice none 0 0] 35))
 have aK:=Hd ((HeldL.new_at (w.alloc (.cells #[.bool s,.slice A n c,.slice B m d] 35)) (w.heap.size + 1) [.bool t,.slice C p q,.slice E k l] 35 (by first | rfl | simp)).alloc (.cells #[.bool false,.slice none 0 0,.slice none 0 0] 35))
 have aC:=Hd (HeldL.new_at ((w.alloc (.cells #[.bool s,.slice A n c,.slice B m d] 35)).alloc (.cells #[.bool t,.slice C p q,.slice E k l] 35)) (w.heap.size + 1 + 1) [.bool false,.slice none 0 0,.slice none 0 0] 35 (by first | rfl | simp))
 have bW : w.heap.size ≠ w.heap.size + 1:=by omega
 have aZ : w.heap.size ≠ w.heap.size + 1 + 1:=by omega
 have bX : w.heap.size + 1 ≠ w.heap.size:=by omega
 have a2 : w.heap.size + 1 ≠ w.heap.size + 1 + 1:=by omega
 have a3 : w.heap.size + 1 + 1 ≠ w.heap.size:=by omega
 have a4 : w.heap.size + 1 + 1 ≠ w.heap.size + 1:=by omega
 obtain ⟨a5,a6,a7⟩:=aJ.out.c3
 obtain ⟨a8,a9,bA⟩:=aK.out.c3
 obtain ⟨aT,aL,aU,aM,aV,aN⟩:=aC.out.g3
 go_wp2
 go_region_held3 (fun w' =>w'.cell? ⟨w.heap.size,0,none⟩ = some (.bool s) ∧ w'.cell? ⟨w.heap.size,1,none⟩ = some (.slice A n c) ∧ w'.cell? ⟨w.heap.size,2,none⟩ = some (.slice B m d) ∧ w'.cell? ⟨w.heap.size + 1,0,none⟩ = some (.bool t) ∧ w'.cell? ⟨w.heap.size + 1,1,none⟩ = some (.slice C p q) ∧ w'.cell? ⟨w.heap.size + 1,2,none⟩ = some (.slice E k l)) (go_keep)
  (first
    |(go_at_call_of 81 (Value.slice A n c)
      refine (l02Mul_any A C n c p q ds es _ (HA.out.below aG.out.drew (Nat.le_refl _)).1 (HC.out.below aG.out.drew (Nat.le_refl _)).1 Hv.out.1.1 Hv2.out.1.1 ?_).mono ?_
      omega
      rintro e wm1 ⟨v1,rfl,ho,hb⟩
      obtain ⟨A1,c1,rfl⟩:=ho.shape
      have HO1:=Hd ho
      clear ho
      have aO:=Hd (aJ.out.drew.after hb)
      have aD:=Hd (aK.out.drew.after hb)
      have aH:=Hd (aC.out.drew.after hb)
      have aI:=Hd (aG.out.drew.trans (hb.mono aG.out.drew.size))
      clear hb
      obtain ⟨bB,bC,bD⟩:=aO.out.c3
      obtain ⟨bE,bF⟩:=aD.out.c2
      have bG:=aD.out.cell 2 _ rfl)
    |(go_at_call_of 81 (Value.slice B m d)
      refine (l02Mul_any B E m d k l bs gs _ (HB.out.below aI.out (Nat.le_refl _)).1 (HE.out.below aI.out (Nat.le_refl _)).1 Hv.out.2.1.1 Hv2.out.2.1.1 ?_).mono ?_
      omega
      rintro e wm2 ⟨v2,rfl,ho,hb⟩
      obtain ⟨A2,c2,rfl⟩:=ho.shape
      have HO2:=Hd ho
      clear ho
      have aP:=Hd (aO.out.after hb)
      have aE:=Hd (aD.out.after hb)
      have aB:=Hd (aH.out.after hb)
      have aF:=Hd (OwnV.below (w:=wm1) HO1.out hb)
      have bH:=Hd (aI.out.trans (hb.mono aI.out.size))
      clear hb
      obtain ⟨bI,bJ,bK⟩:=aP.out.c3
      obtain ⟨bL,bM⟩:=aE.out.c2
      have bN:=aE.out.cell 2 _ rfl)
    |(go_at_call 80
      refine (l04Low_let (s != t) A1 (nats (dig (val ds * val es))).length c1 (dig (val ds * val es)) A2 (nats (dig (val bs * val gs))).length c2 (dig (val bs * val gs)) z bv (by rw [val_dig,signed_mul]; exact Hz.out) (by rw [val_dig]; exact Hbv.out) _ aF.out.arg HO2.out.arg (dig_can _).1 (dig_can _).1 ?_ ?_ RS RN RD HLS.out HLN.out HLD.out).mono ?_
      rw [nats_len]; exact mul_len Hv.out.1 Hv.out.2.2.1 Hv2.out.1 Hv2.out.2.2.1
      rw [nats_len]; exact mul_len Hv.out.2.1 Hv.out.2.2.2.1 Hv2.out.2.1 Hv2.out.2.2.2.1
      rintro e w9 ⟨v9n,v9d,rfl,hon,hod,apn,apd,hb⟩
      obtain ⟨A9n,c9n,rfl⟩:=hon.shape
      obtain ⟨A9d,c9d,rfl⟩:=hod.shape
      have HO9n:=Hd hon
      have HO9d:=Hd hod
      have AP_O9n_O9d:=Hd apn
      have AP_O9d_O9n:=Hd apd
      clear hon hod apn apd
      have bO:=Hd (aP.out.after hb)
      have bP:=Hd (aE.out.after hb)
      have aA:=Hd (aB.out.after hb)
      have bY:=Hd (OwnV.below (w:=wm2) aF.out hb)
      have bZ:=Hd (OwnV.below (w:=wm2) HO2.out hb)
      have b0:=Hd (bH.out.trans (hb.mono bH.out.size))
      clear hb
      obtain ⟨bQ,bR,bS⟩:=bO.out.c3
      obtain ⟨bT,bU,bV⟩:=bP.out.c3
      obtain ⟨aW,aQ,aX,aR⟩:=aA.out.g2
      have aY:=aA.out.cell 2 _ rfl
      have aS:=aA.out.froz 2 _ rfl))
 go_wp2
 obtain ⟨hr0,hr1,hr2⟩:=aA.out.c3
 exact bodyPost_ret (v:=.agg #[.bool RS,.slice A9n (nats RN).length c9n,.slice A9d (nats RD).length c9d]) (by simp [results,Tryz.results82,go_sem,hr0,hr1,hr2]) rfl (ownRR_close b0.out HO9n.out HO9d.out aB.out.lt aB.out.lt (by omega) AP_O9n_O9d.out AP_O9d_O9n.out)
theorem ratMul_spec (s : Bool) (A : Option Addr) (n c : Nat) (xs : List Int) (B : Option Addr) (m d : Nat) (ys : List Int) (t : Bool) (C : Option Addr) (p q : Nat) (us : List Int) (E : Option Addr) (k l : Nat) (vs : List Int) (w : World) (hA : Arg w A n c (ints xs)) (hB : Arg w B m d (ints ys)) (hC : Arg w C p q (ints us)) (hE : Arg w E k l (ints vs)) :
 Calls Tryz.prog 50 #[.agg #[.bool s,.slice A n c,.slice B m d],.agg #[.bool t,.slice C p q,.slice E k l]] w (OwnRR 3 (rtS (okR s xs ys && okR t us vs) (zOf s xs * zOf t us) (val (toN ys) * val (toN vs))) (nats (rtN (okR s xs ys && okR t us vs) (zOf s xs * zOf t us) (val (toN ys) * val (toN vs)))) (nats (rtD (okR s xs ys && okR t us vs) (zOf s xs * zOf t us) (val (toN ys) * val (toN vs)))) w):=by
 obtain ⟨z,hz⟩ : ∃ y9,zOf s xs * zOf t us = y9:=⟨_,rfl⟩
 obtain ⟨bv,hbv⟩ : ∃ y9,val (toN ys) * val (toN vs) = y9:=⟨_,rfl⟩
 rw [hz,hbv]
 have Hz:=Hd hz
 have Hbv:=Hd hbv
 clear hz hbv
 obtain ⟨RS,hRS⟩ : ∃ y9,rtS (okR s xs ys && okR t us vs) z bv = y9:=⟨_,rfl⟩
 obtain ⟨RN,hRN⟩ : ∃ y9,rtN (okR s xs ys && okR t us vs) z bv = y9:=⟨_,rfl⟩
 obtain ⟨RD,hRD⟩ : ∃ y9,rtD (okR s xs ys && okR t us vs) z bv = y9:=⟨_,rfl⟩
 rw [hRS,hRN,hRD]
 have HRS:=Hd hRS
 have HRN:=Hd hRN
 have HRD:=Hd hRD
 clear hRS hRN hRD
 have HA:=Hd hA
 have HB:=Hd hB
 have HC:=Hd hC
 have HE:=Hd hE
 clear hA hB hC hE
 go_enter Tryz.func50,Tryz.ntmps50
 have aU:=Hd ((((Below.refl w.heap.size w).alloc (Nat.le_refl _) (.cells #[.bool s,.slice A n c,.slice B m d] 35)).alloc (by simp) (.cells #[.bool t,.slice C p q,.slice E k l] 35)).alloc (by simp; omega) (.cells #[.bool false,.slice none 0 0,.slice none 0 0] 35))
 have bH:=Hd (((HeldL.new_at w (w.heap.size) [.bool s,.slice A n c,.slice B m d] 35 (by first | rfl | simp)).alloc (.cells #[.bool t,.slice C p q,.slice E k l] 35)).alloc (.cells #[.bool false,.slice none 0 0,.slice none 0 0] 35))
 have bI:=Hd ((HeldL.new_at (w.alloc (.cells #[.bool s,.slice A n c,.slice B m d] 35)) (w.heap.size + 1) [.bool t,.slice C p q,.slice E k l] 35 (by first | rfl | simp)).alloc (.cells #[.bool false,.slice none 0 0,.slice none 0 0] 35))
 have aV:=Hd (HeldL.new_at ((w.alloc (.cells #[.bool s,.slice A n c,.slice B m d] 35)).alloc (.cells #[.bool t,.slice C p q,.slice E k l] 35)) (w.heap.size + 1 + 1) [.bool false,.slice none 0 0,.slice none 0 0] 35 (by first | rfl | simp))
 have bK : w.heap.size ≠ w.heap.size + 1:=by omega
 have bD : w.heap.size ≠ w.heap.size + 1 + 1:=by omega
 have bL : w.heap.size + 1 ≠ w.heap.size:=by omega
 have bE : w.heap.size + 1 ≠ w.heap.size + 1 + 1:=by omega
 have bF : w.heap.size + 1 + 1 ≠ w.heap.size:=by omega
 have bG : w.heap.size + 1 + 1 ≠ w.heap.size + 1:=by omega
 go_wp2_with fail
 refine (ratOk_spec s A n c xs B m d ys _ (HA.out.below aU.out (Nat.le_refl _)) (HB.out.below aU.out (Nat.le_refl _))).mono ?_
 rintro e w1 ⟨rfl,hb⟩
 have bJ:=Hd (bH.out.after hb)
 have aW:=Hd (bI.out.after hb)
 have aH:=Hd (aV.out.after hb)
 have aK:=Hd (aU.out.trans (hb.mono aU.out.size))
 clear hb
 by_cases hok : okR s xs ys = true
 ·rw [hok]
  obtain ⟨aL,aM,aN⟩:=aW.out.c3
  go_wp2_with fail
  refine (ratOk_spec t C p q us E k l vs _ (HC.out.below aK.out (Nat.le_refl _)) (HE.out.below aK.out (Nat.le_refl _))).mono ?_
  rintro e w2 ⟨rfl,hb⟩
  have aX:=Hd (bJ.out.after hb)
  have aY:=Hd (aW.out.after hb)
  have aA:=Hd (aH.out.after hb)
  have aI:=Hd (aK.out.trans (hb.mono aK.out.size))
  clear hb
  clear aL
  clear aM
  clear aN
  by_cases hok2 : okR t us vs = true
  ·rw [hok2]
   obtain ⟨hex,hey,hval⟩:=okR_nats hok
   have HAn:=Hd (hex ▸ HA.out)
   have HBn:=Hd (hey ▸ HB.out)
   have HV:=Hd hval
   have HOK:=Hd hok
   clear hex hey hval hok
   obtain ⟨hex,hey,hval⟩:=okR_nats hok2
   have HCn:=Hd (hex ▸ HC.out)
   have HEn:=Hd (hey ▸ HE.out)
   have HV2:=Hd hval
   have HOK2:=Hd hok2
   clear hex hey hval hok2
   have HLS:=Hd (show loS z bv = RS by rw [← HRS.out]; exact (rtS_yes (by rw [HOK.out,HOK2.out]; rfl)).symm)
   have HLN:=Hd (show loN z bv = RN by rw [← HRN.out]; exact (rtN_yes (by rw [HOK.out,HOK2.out]; rfl)).symm)
   have HLD:=Hd (show loD z bv = RD by rw [← HRD.out]; exact (rtD_yes (by rw [HOK.out,HOK2.out]; rfl)).symm)
   obtain ⟨aO,aP,aQ⟩:=aX.out.c3
   obtain ⟨aR,aS,aT⟩:=aY.out.c3
   obtain ⟨aE,aB,aF,aC,aG,aD⟩:=aA.out.g3
   go_wp2_with fail
   have HCM:=Hd (l04Mul_at s A n c (toN xs) B m d (toN ys) t C p q (toN us) E k l (toN vs) z bv Hz.out Hbv.out _ (HAn.out.below aI.out (Nat.le_refl _)) (HBn.out.below aI.out (Nat.le_refl _)) HV.out (HCn.out.below aI.out (Nat.le_refl _)) (HEn.out.below aI.out (Nat.le_refl _)) HV2.out)
   rw [HLS.out,HLN.out,HLD.out] at HCM
   refine (HCM.out).mono ?_
   rintro e w9 ⟨v9n,v9d,rfl,hon,hod,apn,apd,hb⟩
   obtain ⟨A9n,c9n,rfl⟩:=hon.shape
   have HO9n:=Hd hon
   obtain ⟨A9d,c9d,rfl⟩:=hod.shape
   have HO9d:=Hd hod
   have AP_O9n_O9d:=Hd apn
   have AP_O9d_O9n:=Hd apd
   clear hon hod apn apd
   have bN:=Hd (aX.out.after hb)
   have bO:=Hd (aY.out.after hb)
   have aJ:=Hd (aA.out.after hb)
   have bM:=Hd (aI.out.trans (hb.mono aI.out.size))
   clear hb
   clear aO
   clear aP
   clear aQ
   clear aR
   clear aS
   clear aT
   clear aE
   clear aB
   clear aF
   clear aC
   clear aG
   clear aD
   obtain ⟨a7,aZ,a8,a2,a9,a3⟩:=aJ.out.g3
   go_wp2
   obtain ⟨hr0,hr1,hr2⟩:=aJ.out.c3
   exact bodyPost_ret (v:=.agg #[.bool RS,.slice A9n (nats RN).length c9n,.slice A9d (nats RD).length c9d]) (by simp [results,Tryz.results50,go_sem,hr0,hr1,hr2]) rfl (ownRR_close bM.out HO9n.out HO9d.out aA.out.lt aA.out.lt (by omega) AP_O9n_O9d.out AP_O9d_O9n.out)
  ·rw [Bool.not_eq_true] at hok2
   rw [hok2]
   obtain rfl : RS = false:=by rw [← HRS.out]; exact rtS_no (by rw [hok2,Bool.and_false])
   obtain rfl : RN = []:=by rw [← HRN.out]; exact rtN_no (by rw [hok2,Bool.and_false])
   obtain rfl : RD = []:=by rw [← HRD.out]; exact rtD_no (by rw [hok2,Bool.and_false])
   obtain ⟨aE,aB,aF,aC,aG,aD⟩:=aA.out.g3
   go_wp2
   obtain ⟨hr0,hr1,hr2⟩:=aA.out.c3
   refine bodyPost_ret (v:=.agg #[.bool false,.slice none 0 0,.slice none 0 0]) (by simp [results,Tryz.results50,go_sem,hr0,hr1,hr2]) rfl ?_
   exact ownRR_close aI.out (OwnV.nil _ (w.heap.size + 1 + 1 + 1) _) (OwnV.nil _ (w.heap.size + 1 + 1 + 1) _) (Nat.lt_succ_self _) (Nat.lt_succ_self _) (by omega) (.inl rfl) (.inl rfl)
 ·rw [Bool.not_eq_true] at hok
  rw [hok]
  obtain rfl : RS = false:=by rw [← HRS.out]; exact rtS_no (by rw [hok,Bool.false_and])
  obtain rfl : RN = []:=by rw [← HRN.out]; exact rtN_no (by rw [hok,Bool.false_and])
  obtain rfl : RD = []:=by rw [← HRD.out]; exact rtD_no (by rw [hok,Bool.false_and])
  obtain ⟨bA,a4,bB,a5,bC,a6⟩:=aH.out.g3
  go_wp2
  obtain ⟨hr0,hr1,hr2⟩:=aH.out.c3
  refine bodyPost_ret (v:=.agg #[.bool false,.slice none 0 0,.slice none 0 0]) (by simp [results,Tryz.results50,go_sem,hr0,hr1,hr2]) rfl ?_
  exact ownRR_close aK.out (OwnV.nil _ (w.heap.size + 1 + 1 + 1) _) (OwnV.nil _ (w.heap.size + 1 + 1 + 1) _) (Nat.lt_succ_self _) (Nat.lt_succ_self _) (by omega) (.inl rfl) (.inl rfl)
theorem ratDiv_spec (s : Bool) (A : Option Addr) (n c : Nat) (xs : List Int) (B : Option Addr) (m d : Nat) (ys : List Int) (t : Bool) (C : Option Addr) (p q : Nat) (us : List Int) (E : Option Addr) (k l : Nat) (vs : List Int) (w : World) (hA : Arg w A n c (ints xs)) (hB : Arg w B m d (ints ys)) (hC : Arg w C p q (ints us)) (hE : Arg w E k l (ints vs)) :
 Calls Tryz.prog 49 #[.agg #[.bool s,.slice A n c,.slice B m d],.agg #[.bool t,.slice C p q,.slice E k l]] w (OwnRR 3 (rtS (okR s xs ys && okR t us vs) (signed (s != t) (val (toN xs) * val (toN vs))) (val (toN ys) * val (toN us))) (nats (rtN (okR s xs ys && okR t us vs) (signed (s != t) (val (toN xs) * val (toN vs))) (val (toN ys) * val (toN us)))) (nats (rtD (okR s xs ys && okR t us vs) (signed (s != t) (val (toN xs) * val (toN vs))) (val (toN ys) * val (toN us)))) w):=by
 obtain ⟨z,hz⟩ : ∃ y9,signed (s != t) (val (toN xs) * val (toN vs)) = y9:=⟨_,rfl⟩
 obtain ⟨bv,hbv⟩ : ∃ y9,val (toN ys) * val (toN us) = y9:=⟨_,rfl⟩
 rw [hz,hbv]
 have Hz:=Hd hz
 have Hbv:=Hd hbv
 clear hz hbv
 obtain ⟨RS,hRS⟩ : ∃ y9,rtS (okR s xs ys && okR t us vs) z bv = y9:=⟨_,rfl⟩
 obtain ⟨RN,hRN⟩ : ∃ y9,rtN (okR s xs ys && okR t us vs) z bv = y9:=⟨_,rfl⟩
 obtain ⟨RD,hRD⟩ : ∃ y9,rtD (okR s xs ys && okR t us vs) z bv = y9:=⟨_,rfl⟩
 rw [hRS,hRN,hRD]
 have HRS:=Hd hRS
 have HRN:=Hd hRN
 have HRD:=Hd hRD
 clear hRS hRN hRD
 have HA:=Hd hA
 have HB:=Hd hB
 have HC:=Hd hC
 have HE:=Hd hE
 clear hA hB hC hE
 go_enter Tryz.func49,Tryz.ntmps49
 have aS:=Hd ((((Below.refl w.heap.size w).alloc (Nat.le_refl _) (.cells #[.bool s,.slice A n c,.slice B m d] 35)).alloc (by simp) (.cells #[.bool t,.slice C p q,.slice E k l] 35)).alloc (by simp; omega) (.cells #[.bool false,.slice none 0 0,.slice none 0 0] 35))
 have bJ:=Hd (((HeldL.new_at w (w.heap.size) [.bool s,.slice A n c,.slice B m d] 35 (by first | rfl | simp)).alloc (.cells #[.bool t,.slice C p q,.slice E k l] 35)).alloc (.cells #[.bool false,.slice none 0 0,.slice none 0 0] 35))
 have bK:=Hd ((HeldL.new_at (w.alloc (.cells #[.bool s,.slice A n c,.slice B m d] 35)) (w.heap.size + 1) [.bool t,.slice C p q,.slice E k l] 35 (by first | rfl | simp)).alloc (.cells #[.bool false,.slice none 0 0,.slice none 0 0] 35))
 have aT:=Hd (HeldL.new_at ((w.alloc (.cells #[.bool s,.slice A n c,.slice B m d] 35)).alloc (.cells #[.bool t,.slice C p q,.slice E k l] 35)) (w.heap.size + 1 + 1) [.bool false,.slice none 0 0,.slice none 0 0] 35 (by first | rfl | simp))
 have cD : w.heap.size ≠ w.heap.size + 1:=by omega
 have bF : w.heap.size ≠ w.heap.size + 1 + 1:=by omega
 have cE : w.heap.size + 1 ≠ w.heap.size:=by omega
 have bG : w.heap.size + 1 ≠ w.heap.size + 1 + 1:=by omega
 have bH : w.heap.size + 1 + 1 ≠ w.heap.size:=by omega
 have bI : w.heap.size + 1 + 1 ≠ w.heap.size + 1:=by omega
 go_wp2_with fail
 refine (ratOk_spec s A n c xs B m d ys _ (HA.out.below aS.out (Nat.le_refl _)) (HB.out.below aS.out (Nat.le_refl _))).mono ?_
 rintro e w1 ⟨rfl,hb⟩
 have bL:=Hd (bJ.out.after hb)
 have aW:=Hd (bK.out.after hb)
 have aC:=Hd (aT.out.after hb)
 have aK:=Hd (aS.out.trans (hb.mono aS.out.size))
 clear hb
 by_cases hok : okR s xs ys = true
 ·rw [hok]
  obtain ⟨aL,aM,aN⟩:=aW.out.c3
  go_wp2_with fail
  refine (ratOk_spec t C p q us E k l vs _ (HC.out.below aK.out (Nat.le_refl _)) (HE.out.below aK.out (Nat.le_refl _))).mono ?_
  rintro e w2 ⟨rfl,hb⟩
  have aX:=Hd (bL.out.after hb)
  have aY:=Hd (aW.out.after hb)
  have aA:=Hd (aC.out.after hb)
  have aO:=Hd (aK.out.trans (hb.mono aK.out.size))
  clear hb
  clear aL
  clear aM
  clear aN
  by_cases hok2 : okR t us vs = true
  ·rw [hok2]
   obtain ⟨hex,hey,hval⟩:=okR_nats hok
   have HAn:=Hd (hex ▸ HA.out)
   have HBn:=Hd (hey ▸ HB.out)
   have HV:=Hd hval
   have HOK:=Hd hok
   clear hex hey hval hok
   obtain ⟨hex,hey,hval⟩:=okR_nats hok2
   have HCn:=Hd (hex ▸ HC.out)
   have HEn:=Hd (hey ▸ HE.out)
   have HV2:=Hd hval
   have HOK2:=Hd hok2
   clear hex hey hval hok2
   have HLS:=Hd (show loS z bv = RS by rw [← HRS.out]; exact (rtS_yes (by rw [HOK.out,HOK2.out]; rfl)).symm)
   have HLN:=Hd (show loN z bv = RN by rw [← HRN.out]; exact (rtN_yes (by rw [HOK.out,HOK2.out]; rfl)).symm)
   have HLD:=Hd (show loD z bv = RD by rw [← HRD.out]; exact (rtD_yes (by rw [HOK.out,HOK2.out]; rfl)).symm)
   have hn : n ≤ 24:=by have:=HAn.out.nlen; have:=HV.out.2.2.1; omega
   have hm : m ≤ 24:=by have:=HBn.out.nlen; have:=HV.out.2.2.2.1; omega
   have hp : p ≤ 24:=by have:=HCn.out.nlen; have:=HV2.out.2.2.1; omega
   have hk : k ≤ 24:=by have:=HEn.out.nlen; have:=HV2.out.2.2.2.1; omega
   obtain ⟨bM,bN,bO⟩:=aX.out.c3
   obtain ⟨bP,bQ,bR⟩:=aY.out.c3
   obtain ⟨aH,aE,aI,aF,aJ,aG⟩:=aA.out.g3
   go_wp2
   go_region_held3 (fun w' =>w'.cell? ⟨w.heap.size,0,none⟩ = some (.bool s) ∧ w'.cell? ⟨w.heap.size,1,none⟩ = some (.slice A n c) ∧ w'.cell? ⟨w.heap.size,2,none⟩ = some (.slice B m d) ∧ w'.cell? ⟨w.heap.size + 1,0,none⟩ = some (.bool t) ∧ w'.cell? ⟨w.heap.size + 1,1,none⟩ = some (.slice C p q) ∧ w'.cell? ⟨w.heap.size + 1,2,none⟩ = some (.slice E k l)) (go_keep)
    (first
      |(go_at_call_of 81 (Value.slice A n c)
        refine (l02Mul_any A E n c k l (toN xs) (toN vs) _ (HAn.out.below aO.out.drew (Nat.le_refl _)).1 (HEn.out.below aO.out.drew (Nat.le_refl _)).1 HV.out.1.1 HV2.out.2.1.1 ?_).mono ?_
        omega
        rintro e wm1 ⟨v1,rfl,ho,hb⟩
        obtain ⟨A1,c1,rfl⟩:=ho.shape
        have HO1:=Hd ho
        clear ho
        have aZ:=Hd (aX.out.drew.after hb)
        have aP:=Hd (aY.out.drew.after hb)
        have aU:=Hd (aA.out.drew.after hb)
        have aV:=Hd (aO.out.drew.trans (hb.mono aO.out.drew.size))
        clear hb
        obtain ⟨bS,bT,bU⟩:=aZ.out.c3
        obtain ⟨bV,bW⟩:=aP.out.c2
        have bX:=aP.out.cell 2 _ rfl)
      |(go_at_call_of 81 (Value.slice B m d)
        refine (l02Mul_any B C m d p q (toN ys) (toN us) _ (HBn.out.below aV.out (Nat.le_refl _)).1 (HCn.out.below aV.out (Nat.le_refl _)).1 HV.out.2.1.1 HV2.out.1.1 ?_).mono ?_
        omega
        rintro e wm2 ⟨v2,rfl,ho,hb⟩
        obtain ⟨A2,c2,rfl⟩:=ho.shape
        have HO2:=Hd ho
        clear ho
        have a2:=Hd (aZ.out.after hb)
        have aQ:=Hd (aP.out.after hb)
        have aD:=Hd (aU.out.after hb)
        have aR:=Hd (OwnV.below (w:=wm1) HO1.out hb)
        have bY:=Hd (aV.out.trans (hb.mono aV.out.size))
        clear hb
        obtain ⟨bZ,b0,b1⟩:=a2.out.c3
        obtain ⟨b2,b3⟩:=aQ.out.c2
        have b4:=aQ.out.cell 2 _ rfl)
      |(go_at_call 80
        refine (l04Low_let (s != t) A1 (nats (dig (val (toN xs) * val (toN vs)))).length c1 (dig (val (toN xs) * val (toN vs))) A2 (nats (dig (val (toN ys) * val (toN us)))).length c2 (dig (val (toN ys) * val (toN us))) z bv (by rw [val_dig]; exact Hz.out) (by rw [val_dig]; exact Hbv.out) _ aR.out.arg HO2.out.arg (dig_can _).1 (dig_can _).1 ?_ ?_ RS RN RD HLS.out HLN.out HLD.out).mono ?_
        rw [nats_len]; exact mul_len HV.out.1 HV.out.2.2.1 HV2.out.2.1 HV2.out.2.2.2.1
        rw [nats_len]; exact mul_len HV.out.2.1 HV.out.2.2.2.1 HV2.out.1 HV2.out.2.2.1
        rintro e w9 ⟨v9n,v9d,rfl,hon,hod,apn,apd,hb⟩
        obtain ⟨A9n,c9n,rfl⟩:=hon.shape
        obtain ⟨A9d,c9d,rfl⟩:=hod.shape
        have HO9n:=Hd hon
        have HO9d:=Hd hod
        have AP_O9n_O9d:=Hd apn
        have AP_O9d_O9n:=Hd apd
        clear hon hod apn apd
        have b5:=Hd (a2.out.after hb)
        have b6:=Hd (aQ.out.after hb)
        have aB:=Hd (aD.out.after hb)
        have cF:=Hd (OwnV.below (w:=wm2) aR.out hb)
        have cG:=Hd (OwnV.below (w:=wm2) HO2.out hb)
        have cH:=Hd (bY.out.trans (hb.mono bY.out.size))
        clear hb
        obtain ⟨b7,b8,b9⟩:=b5.out.c3
        obtain ⟨cA,cB,cC⟩:=b6.out.c3
        obtain ⟨a9,a3,bA,a4⟩:=aB.out.g2
        have bB:=aB.out.cell 2 _ rfl
        have a5:=aB.out.froz 2 _ rfl))
   go_wp2
   obtain ⟨hr0,hr1,hr2⟩:=aB.out.c3
   exact bodyPost_ret (v:=.agg #[.bool RS,.slice A9n (nats RN).length c9n,.slice A9d (nats RD).length c9d]) (by simp [results,Tryz.results49,go_sem,hr0,hr1,hr2]) rfl (ownRR_close cH.out HO9n.out HO9d.out aD.out.lt aD.out.lt (by omega) AP_O9n_O9d.out AP_O9d_O9n.out)
  ·rw [Bool.not_eq_true] at hok2
   rw [hok2]
   obtain rfl : RS = false:=by rw [← HRS.out]; exact rtS_no (by rw [hok2,Bool.and_false])
   obtain rfl : RN = []:=by rw [← HRN.out]; exact rtN_no (by rw [hok2,Bool.and_false])
   obtain rfl : RD = []:=by rw [← HRD.out]; exact rtD_no (by rw [hok2,Bool.and_false])
   obtain ⟨aH,aE,aI,aF,aJ,aG⟩:=aA.out.g3
   go_wp2
   obtain ⟨hr0,hr1,hr2⟩:=aA.out.c3
   refine bodyPost_ret (v:=.agg #[.bool false,.slice none 0 0,.slice none 0 0]) (by simp [results,Tryz.results49,go_sem,hr0,hr1,hr2]) rfl ?_
   exact ownRR_close aO.out (OwnV.nil _ (w.heap.size + 1 + 1 + 1) _) (OwnV.nil _ (w.heap.size + 1 + 1 + 1) _) (Nat.lt_succ_self _) (Nat.lt_succ_self _) (by omega) (.inl rfl) (.inl rfl)
 ·rw [Bool.not_eq_true] at hok
  rw [hok]
  obtain rfl : RS = false:=by rw [← HRS.out]; exact rtS_no (by rw [hok,Bool.false_and])
  obtain rfl : RN = []:=by rw [← HRN.out]; exact rtN_no (by rw [hok,Bool.false_and])
  obtain rfl : RD = []:=by rw [← HRD.out]; exact rtD_no (by rw [hok,Bool.false_and])
  obtain ⟨bC,a6,bD,a7,bE,a8⟩:=aC.out.g3
  go_wp2
  obtain ⟨hr0,hr1,hr2⟩:=aC.out.c3
  refine bodyPost_ret (v:=.agg #[.bool false,.slice none 0 0,.slice none 0 0]) (by simp [results,Tryz.results49,go_sem,hr0,hr1,hr2]) rfl ?_
  exact ownRR_close aK.out (OwnV.nil _ (w.heap.size + 1 + 1 + 1) _) (OwnV.nil _ (w.heap.size + 1 + 1 + 1) _) (Nat.lt_succ_self _) (Nat.lt_succ_self _) (by omega) (.inl rfl) (.inl rfl)
end Go.Proofs.YtodoiekbjjiocaaGreat
namespace Go.Proofs.YtodoiekbjjiocaaGreat
open Go.RowKit Nt
set_option linter.unusedVariables false
set_option maxRecDepth 100000
set_option maxHeartbeats 4000000
theorem sgnR_nil {s : Bool} {xs ys : List Int} (h : xs.length = 0) : sgnR s xs ys = 0:=by
 unfold sgnR
 rw [zOf,List.eq_nil_of_length_eq_zero h]
 have e : signed s (val (toN [])) = 0:=by cases s <;> rfl
 rw [e]
 split <;> rfl
theorem zOf_pos {xs ys : List Int} {s : Bool} (h : okR s xs ys = true) (hl : 0 < xs.length) : 0 < val (toN xs):=val_pos (okI_nats (okB_ok (okR_parts h).1)).2.1 (by rw [toN_len]; exact hl)
theorem sgnR_true {xs ys : List Int} (h : okR true xs ys = true) (hl : 0 < xs.length) : sgnR true xs ys = -1:=by
 have h1:=zOf_pos h hl
 have h2 : zOf true xs < 0:=by simp [zOf,signed]; omega
 unfold sgnR cmpZ
 rw [if_pos h,if_pos h2]
theorem sgnR_false {xs ys : List Int} (h : okR false xs ys = true) (hl : 0 < xs.length) : sgnR false xs ys = 1:=by
 have h1:=zOf_pos h hl
 have h2 : 0 < zOf false xs:=by simp [zOf,signed]; omega
 unfold sgnR cmpZ
 rw [if_pos h,if_neg (by omega),if_neg (by omega)]
theorem sgnR_no {s : Bool} {xs ys : List Int} (h : okR s xs ys = false) : sgnR s xs ys = 0:=by unfold sgnR; rw [h]; rfl
theorem ratSign_spec (s : Bool) (A : Option Addr) (n c : Nat) (xs : List Int) (B : Option Addr) (m d : Nat) (ys : List Int) (w : World) (hA : Arg w A n c (ints xs)) (hB : Arg w B m d (ints ys)) :
 Calls Tryz.prog 48 #[.agg #[.bool s,.slice A n c,.slice B m d]] w fun e w' =>e = .returned (.int .i64 (sgnR s xs ys)) ∧ Below w.heap.size w w':=by
 obtain ⟨Q,hQ⟩ : ∃ y9,sgnR s xs ys = y9:=⟨_,rfl⟩
 rw [hQ]
 have HL:=Hd hA.ilen
 have hn:=hA.max
 unfold maxLen at hn
 have HQ:=Hd hQ
 have HA:=Hd hA
 have HB:=Hd hB
 clear hQ hA hB
 go_enter Tryz.func48,Tryz.ntmps48
 have aE:=Hd ((Below.refl w.heap.size w).alloc (Nat.le_refl _) (.cells #[.bool s,.slice A n c,.slice B m d] 35))
 have aG:=Hd (HeldL.new_at w (w.heap.size) [.bool s,.slice A n c,.slice B m d] 35 (by first | rfl | simp))
 go_wp2_with fail
 refine (ratOk_spec s A n c xs B m d ys _ (HA.out.below aE.out (Nat.le_refl _)) (HB.out.below aE.out (Nat.le_refl _))).mono ?_
 rintro e w1 ⟨rfl,hb⟩
 have aD:=Hd (aG.out.after hb)
 have aF:=Hd (aE.out.trans (hb.mono aE.out.size))
 clear hb
 by_cases hok : okR s xs ys = true
 ·rw [hok]
  have HOK:=Hd hok
  clear hok
  by_cases h0 : n = 0
  ·subst h0
   obtain rfl : Q = 0:=by rw [← HQ.out]; exact sgnR_nil HL.out
   obtain ⟨aA,aB,aC⟩:=aD.out.c3
   go_wp2
   go_ret
   exact ⟨rfl,aF.out⟩
  ·have h1 : ¬ (n : Int) = 0:=by omega
   cases s
   ·obtain rfl : Q = 1:=by rw [← HQ.out]; exact sgnR_false HOK.out (by rw [HL.out]; omega)
    obtain ⟨aA,aB,aC⟩:=aD.out.c3
    go_wp2
    go_ret
    exact ⟨rfl,aF.out⟩
   ·obtain rfl : Q = -1:=by rw [← HQ.out]; exact sgnR_true HOK.out (by rw [HL.out]; omega)
    obtain ⟨aA,aB,aC⟩:=aD.out.c3
    go_wp2
    go_ret
    exact ⟨rfl,aF.out⟩
 ·rw [Bool.not_eq_true] at hok
  rw [hok]
  obtain rfl : Q = 0:=by rw [← HQ.out]; exact sgnR_no hok
  clear hok
  obtain ⟨aA,aB,aC⟩:=aD.out.c3
  go_wp2
  go_ret
  exact ⟨rfl,aF.out⟩
end Go.Proofs.YtodoiekbjjiocaaGreat
