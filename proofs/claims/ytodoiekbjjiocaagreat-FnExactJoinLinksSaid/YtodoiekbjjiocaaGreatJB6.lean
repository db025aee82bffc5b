/- Joined: XBigMul XBigSum XBigSub. Conditions: none. -/
import Derived.Test.YtodoiekbjjiocaaGreatJPk
import Derived.Test.YtodoiekbjjiocaaGreatProg
import Derived.Test.YtodoiekbjjiocaaGreatJB4
import Derived.Test.YtodoiekbjjiocaaGreatJB2
import Derived.Deep.DeepCutAuto
namespace Go.Proofs.YtodoiekbjjiocaaGreat
open Go.RowKit Nt
set_option linter.unusedVariables false
set_option maxRecDepth 100000
set_option maxHeartbeats 4000000
theorem below_al {w u : World} {o : Obj} (h : Below w.heap.size w u) : Below w.heap.size w (u.alloc o):=h.alloc h.size o
theorem times_any (A B : Option Addr) (n c m d : Nat) (xs ys : List Int) (w : World) (hA : VRow w A n (ints xs)) (hB : VRow w B m (ints ys)) (hn : n ≤ maxLen) (hm : m ≤ maxLen) :
 Calls Tryz.prog 125 #[.slice A n c,.slice B m d] w (OwnR 3 (nats (mulN xs ys)) w):=by
 have HA:=Hd hA
 have HB:=Hd hB
 have HN:=Hd hn
 have HM:=Hd hm
 clear hA hB hn hm
 go_enter Tryz.func125,Tryz.ntmps125
 go_wp2_with fail
 refine (natMul_impl A B n c m d xs ys _ HA.out HB.out HN.out HM.out).mono ?_
 rintro e w1 ⟨v,rfl,ho,hb⟩
 have HO1:=Hd ho
 have HB1:=Hd hb
 clear ho hb
 go_wp2
 go_ret
 exact ⟨_,rfl,HO1.out,HB1.out⟩
theorem bigIntMul_impl (s t : Bool) (A B : Option Addr) (n c m d : Nat) (xs ys : List Int) (w : World) (hA : VRow w A n (ints xs)) (hB : VRow w B m (ints ys)) (hn : n ≤ maxLen) (hm : m ≤ maxLen) :
 Calls Tryz.prog 104 #[.agg #[.bool s,.slice A n c],.agg #[.bool t,.slice B m d]] w (OwnRB 3 (resS (okB s xs && okB t ys) (zOf s xs * zOf t ys)) (nats (resM (okB s xs && okB t ys) (zOf s xs * zOf t ys))) w):=by
 obtain ⟨z,hz⟩ : ∃ z,zOf s xs * zOf t ys = z:=⟨_,rfl⟩
 rw [hz]
 have HZ:=Hd hz
 clear hz
 obtain ⟨RS,hRS⟩ : ∃ b,resS (okB s xs && okB t ys) z = b:=⟨_,rfl⟩
 obtain ⟨RM,hRM⟩ : ∃ l,resM (okB s xs && okB t ys) z = l:=⟨_,rfl⟩
 rw [hRS,hRM]
 have HRS:=Hd hRS
 have HRM:=Hd hRM
 clear hRS hRM
 have HA:=Hd hA
 have HB:=Hd hB
 have HN:=Hd hn
 have HM:=Hd hm
 have HL:=Hd (show xs.length = n by simpa [ints] using hA.1)
 have HL2:=Hd (show ys.length = m by simpa [ints] using hB.1)
 clear hA hB hn hm
 go_enter Tryz.func104,Tryz.ntmps104
 have aE:=Hd ((((Below.refl w.heap.size w).alloc (Nat.le_refl _) (.cells #[.bool s,.slice A n c] 33)).alloc (by simp) (.cells #[.bool t,.slice B m d] 33)).alloc (by simp; omega) (.cells #[.bool false,.slice none 0 0] 33))
 have aF:=Hd (((Held.new_at w (w.heap.size) (.bool s) (.slice A n c) 33 (by first | rfl | simp)).alloc (.cells #[.bool t,.slice B m d] 33)).alloc (.cells #[.bool false,.slice none 0 0] 33))
 have aN:=Hd ((Held.new_at (w.alloc (.cells #[.bool s,.slice A n c] 33)) (w.heap.size + 1) (.bool t) (.slice B m d) 33 (by first | rfl | simp)).alloc (.cells #[.bool false,.slice none 0 0] 33))
 have aO:=Hd (Held.new_at ((w.alloc (.cells #[.bool s,.slice A n c] 33)).alloc (.cells #[.bool t,.slice B m d] 33)) (w.heap.size + 1 + 1) (.bool false) (.slice none 0 0) 33 (by first | rfl | simp))
 have hne01 : w.heap.size ≠ w.heap.size + 1:=by omega
 have hne02 : w.heap.size ≠ w.heap.size + 1 + 1:=by omega
 have hne10 : w.heap.size + 1 ≠ w.heap.size:=by omega
 have hne12 : w.heap.size + 1 ≠ w.heap.size + 1 + 1:=by omega
 have hne20 : w.heap.size + 1 + 1 ≠ w.heap.size:=by omega
 have hne21 : w.heap.size + 1 + 1 ≠ w.heap.size + 1:=by omega
 go_upto_region 1 with fail
 go_cut [5,6] (fun p q wx=>∃ b5 b6,p = .pointer (some ⟨b5,0,none⟩) ∧ q = .pointer (some ⟨b6,0,none⟩) ∧ Held wx b5 (.slice A n c) (.bool s) ∧ Held wx b6 (.slice B m d) (.bool t) ∧ Held wx (w.heap.size + 1 + 1) (.bool false) (.slice none 0 0) ∧ b5 ≠ w.heap.size + 1 + 1 ∧ b6 ≠ w.heap.size + 1 + 1 ∧ Below w.heap.size w wx)
 case first=>
  go_region_held3 (fun w' =>w'.cell? ⟨w.heap.size,0,none⟩ = some (.bool s) ∧ w'.cell? ⟨w.heap.size,1,none⟩ = some (.slice A n c) ∧ w'.cell? ⟨w.heap.size + 1,0,none⟩ = some (.bool t) ∧ w'.cell? ⟨w.heap.size + 1,1,none⟩ = some (.slice B m d)) (simp [go_sem])
   (first
     |(go_at_call_of 103 (Value.agg #[Value.bool s,Value.slice A n c]); refine (signedOf_at s A n c _).mono ?_; rintro e w1 ⟨rfl,rfl⟩)
     |(go_at_call_of 103 (Value.agg #[Value.bool t,Value.slice B m d]); refine (signedOf_at t B m d _).mono ?_; rintro e w1 ⟨rfl,rfl⟩))
  all_goals go_wp2_with fail
  all_goals go_meet
  all_goals refine ⟨_,_,rfl,rfl,?_,?_,?_,by omega,by omega,?_⟩
  all_goals first | (refine Held.mk ?_ ?_ ?_ ?_ ?_ <;> first | (simp [go_sem]; done) | (simp; omega)) | (refine Below.drew ?_; (iterate 9 apply below_al); exact Below.refl _ _)
 obtain ⟨b5,b6,rfl,rfl,h5,h6,h7,hn5,hn6,hbw⟩:=hcut
 clear aF aN aO aE
 have aF:=Hd h5
 have aN:=Hd h6
 have aO:=Hd h7
 have aE:=Hd hbw
 have hn5':=hn5.symm
 have hn6':=hn6.symm
 clear h5 h6 h7 hbw
 have aX:=aF.out.c0
 have aY:=aF.out.c1
 go_wp2_with fail
 refine (isValid_any s A n c xs _ (HA.out.below aE.out (Nat.le_refl _)) HN.out).mono ?_
 rintro e w0 ⟨rfl,hb⟩
 have bE:=Hd (aF.out.after hb)
 have aP:=Hd (aN.out.after hb)
 have aG:=Hd (aO.out.after hb)
 have aI:=Hd (aE.out.trans (hb.mono aE.out.size))
 clear hb
 by_cases hok : okB s xs = true
 ·rw [hok]
  have aJ:=aP.out.c0
  have aK:=aP.out.c1
  go_wp2_with fail
  refine (isValid_any t B m d ys _ (HB.out.below aI.out (Nat.le_refl _)) HM.out).mono ?_
  rintro e w01 ⟨rfl,hb⟩
  have aQ:=Hd (bE.out.after hb)
  have aR:=Hd (aP.out.after hb)
  have aA:=Hd (aG.out.after hb)
  have aH:=Hd (aI.out.trans (hb.mono aI.out.size))
  clear hb
  clear aJ
  clear aK
  by_cases hok2 : okB t ys = true
  ·rw [hok2]
   obtain rfl : RS = sgZ z:=by rw [← HRS.out,hok,hok2]; simp [resS]
   obtain rfl : RM = magZ z:=by rw [← HRM.out,hok,hok2]; simp [resM]
   obtain ⟨hex,hcanx,hl60x⟩:=okI_nats (okB_ok hok)
   have hlenx : n ≤ 60:=by have h1:=HL.out; rw [toN_len] at hl60x; omega
   have HAn:=Hd (hex ▸ HA.out)
   have HCx:=Hd hcanx
   clear hex hcanx hl60x
   obtain ⟨hey,hcany,hl60y⟩:=okI_nats (okB_ok hok2)
   have hleny : m ≤ 60:=by have h1:=HL2.out; rw [toN_len] at hl60y; omega
   have HBn:=Hd (hey ▸ HB.out)
   have HCy:=Hd hcany
   clear hey hcany hl60y
   have HOK:=Hd hok
   have HOK2:=Hd hok2
   clear hok hok2
   have HLEN:=Hd (show (nats (magZ z)).length ≤ 60 by rw [nats_len]; exact capd_len _)
   have hlen9:=HLEN.out
   have aZ:=aQ.out.c0
   have a0:=aQ.out.c1
   have a2:=aR.out.c0
   have a3:=aR.out.c1
   have aB:=aA.out.c0
   have aC:=aA.out.c1
   have hk2f0_2:=aA.out.f0
   have hk2f1_2:=aA.out.f1
   have bH:=Hd (show nats (mulN xs ys) = nats (magZ z) by rw [mulN_yes (okB_ok HOK.out) (okB_ok HOK2.out),← HZ.out,zOf,zOf,← signed_mul,magZ_signed])
   have HSG:=Hd (show ((s != t) && decide (0 < (nats (magZ z)).length)) = sgZ z by rw [nats_len,← HZ.out,zOf,zOf,← signed_mul,sgZ_signed,magZ_signed])
   go_wp2
   go_region_held3 (fun w' =>w'.cell? ⟨b5,1,none⟩ = some (.bool s) ∧ w'.cell? ⟨b6,1,none⟩ = some (.bool t) ∧ w'.cell? ⟨b5,0,none⟩ = some (.slice A n c) ∧ w'.cell? ⟨b6,0,none⟩ = some (.slice B m d)) (go_keep)
    (first
      |(go_at_call 125
        refine (times_any A B n c m d xs ys _ (HA.out.below aH.out.drew (Nat.le_refl _)) (HB.out.below aH.out.drew (Nat.le_refl _)) HN.out HM.out).mono ?_
        rintro e w2 ⟨v2,rfl,ho,hb⟩
        rw [bH.out] at ho
        obtain ⟨A1,c1,rfl⟩:=ho.shape
        have HO1:=Hd ho
        clear ho
        have aS:=Hd (aQ.out.drew.after hb)
        have aT:=Hd (aR.out.drew.after hb)
        have bF:=Hd (aA.out.drew.after hb)
        have aU:=Hd (aH.out.drew.trans (hb.mono aH.out.drew.size))
        clear hb
        have a4:=aS.out.c1
        have a5:=aT.out.c1
        have a6:=aS.out.c0
        have a7:=aT.out.c0)
      |(go_at_call 101
        refine (bigIntWith_any (s != t) A1 _ c1 _ ?_).mono ?_
        omega
        rintro e w9 ⟨rfl,hb⟩
        rw [HSG.out]
        have HO9:=Hd (OwnV.below HO1.out hb)
        have aV:=Hd (aS.out.after hb)
        have aW:=Hd (aT.out.after hb)
        have aD:=Hd (bF.out.after hb)
        have bG:=Hd (aU.out.trans (hb.mono aU.out.size))
        clear hb
        have a8:=aV.out.c1
        have a9:=aW.out.c1
        have bA:=aV.out.c0
        have bB:=aW.out.c0
        have bC:=aD.out.c0
        have bD:=aD.out.c1
        have hk2f0_4:=aD.out.f0
        have hk2f1_4:=aD.out.f1))
   go_wp2
   have hr0:=aD.out.c0
   have hr1:=aD.out.c1
   exact bodyPost_ret (v:=.agg #[.bool (sgZ z),.slice A1 (nats (magZ z)).length c1]) (by simp [results,Tryz.results104,go_sem,hr0,hr1]) rfl (ownRB_close bG.out HO9.out aA.out.lt (by omega))
  ·rw [Bool.not_eq_true] at hok2
   rw [hok2]
   obtain rfl : RS = false:=by rw [← HRS.out,hok,hok2]; simp [resS]
   obtain rfl : RM = []:=by rw [← HRM.out,hok,hok2]; simp [resM]
   have aB:=aA.out.c0
   have aC:=aA.out.c1
   have hk2f0_2:=aA.out.f0
   have hk2f1_2:=aA.out.f1
   go_wp2
   exact bodyPost_ret (v:=.agg #[.bool false,.slice none 0 0]) (by simp [results,Tryz.results104,go_sem,aB,aC]) rfl (ownRB_close aH.out (OwnV.nil _ (w.heap.size + 1 + 1 + 1) _) (Nat.lt_succ_self _) (by omega))
 ·rw [Bool.not_eq_true] at hok
  rw [hok]
  obtain rfl : RS = false:=by rw [← HRS.out,hok]; simp [resS]
  obtain rfl : RM = []:=by rw [← HRM.out,hok]; simp [resM]
  have aL:=aG.out.c0
  have aM:=aG.out.c1
  have hk2f0_1:=aG.out.f0
  have hk2f1_1:=aG.out.f1
  go_wp2
  exact bodyPost_ret (v:=.agg #[.bool false,.slice none 0 0]) (by simp [results,Tryz.results104,go_sem,aL,aM]) rfl (ownRB_close aI.out (OwnV.nil _ (w.heap.size + 1 + 1 + 1) _) (Nat.lt_succ_self _) (by omega))
end Go.Proofs.YtodoiekbjjiocaaGreat
namespace Go.Proofs.YtodoiekbjjiocaaGreat
open Go.RowKit Nt
set_option linter.unusedVariables false
set_option maxRecDepth 100000
set_option maxHeartbeats 4000000
theorem OwnV.same {w : World} {base : Nat} {e : TypeId} {v : Value} {xs ys : List Value} (h : OwnV w base e v xs) (he : xs = ys) : OwnV w base e v ys:=he ▸ h
theorem capd_ok {s : Bool} {xs : List Int} (h : okB s xs = true) : capd (val (toN xs)) = toN xs:=by
 rw [capd_of (okB_val h)]
 exact dig_of_can (okI_nats (okB_ok h)).2.1
theorem OwnV.of_whole_n {w : World} {base g n : Nat} {e : TypeId} {ys : List Value} (h : Whole w base g e ys) (hl : ys.length = n) : OwnV w base e (.slice (some ⟨g,0,none⟩) n n) ys:=by subst hl; exact OwnV.of_whole h
theorem plus_any (A B : Option Addr) (n c m d : Nat) (xs ys : List Int) (w : World) (hA : VRow w A n (ints xs)) (hB : VRow w B m (ints ys)) (hn : n ≤ maxLen) (hm : m ≤ maxLen) :
 Calls Tryz.prog 122 #[.slice A n c,.slice B m d] w (OwnR 3 (nats (addN xs ys)) w):=by
 have HA:=Hd hA
 have HB:=Hd hB
 have HN:=Hd hn
 have HM:=Hd hm
 clear hA hB hn hm
 go_enter Tryz.func122,Tryz.ntmps122
 go_wp2_with fail
 refine (natAdd_impl A B n c m d xs ys _ HA.out HB.out HN.out HM.out).mono ?_
 rintro e w1 ⟨v,rfl,ho,hb⟩
 have HO1:=Hd ho
 have HB1:=Hd hb
 clear ho hb
 go_wp2
 go_ret
 exact ⟨_,rfl,HO1.out,HB1.out⟩
theorem minus_any (A B : Option Addr) (n c m d : Nat) (xs ys : List Int) (w : World) (hA : VRow w A n (ints xs)) (hB : VRow w B m (ints ys)) (hn : n ≤ maxLen) (hm : m ≤ maxLen) :
 Calls Tryz.prog 124 #[.slice A n c,.slice B m d] w (OwnR 3 (nats (subN xs ys)) w):=by
 have HA:=Hd hA
 have HB:=Hd hB
 have HN:=Hd hn
 have HM:=Hd hm
 clear hA hB hn hm
 go_enter Tryz.func124,Tryz.ntmps124
 go_wp2_with fail
 refine (natSub_impl A B n c m d xs ys _ HA.out HB.out HN.out HM.out).mono ?_
 rintro e w1 ⟨v,rfl,ho,hb⟩
 have HO1:=Hd ho
 have HB1:=Hd hb
 clear ho hb
 go_wp2
 go_ret
 exact ⟨_,rfl,HO1.out,HB1.out⟩
theorem sumOf_true_true (A B : Option Addr) (n c m d : Nat) (xs ys : List Int) (w : World) (hA : VRow w A n (ints xs)) (hB : VRow w B m (ints ys)) (hn : n ≤ maxLen) (hm : m ≤ maxLen) :
 Calls Tryz.prog 102 #[.agg #[.slice A n c,.bool true],.agg #[.slice B m d,.bool true]] w (OwnRB 3 (resS (okB true xs && okB true ys) (zOf true xs + zOf true ys)) (nats (resM (okB true xs && okB true ys) (zOf true xs + zOf true ys))) w):=by
 obtain ⟨z,hz⟩ : ∃ z,zOf true xs + zOf true ys = z:=⟨_,rfl⟩
 rw [hz]
 have HZ:=Hd hz
 clear hz
 obtain ⟨RS,hRS⟩ : ∃ b,resS (okB true xs && okB true ys) z = b:=⟨_,rfl⟩
 obtain ⟨RM,hRM⟩ : ∃ l,resM (okB true xs && okB true ys) z = l:=⟨_,rfl⟩
 rw [hRS,hRM]
 have HRS:=Hd hRS
 have HRM:=Hd hRM
 clear hRS hRM
 have HA:=Hd hA
 have HB:=Hd hB
 have HN:=Hd hn
 have HM:=Hd hm
 have HL:=Hd (show xs.length = n by simpa [ints] using hA.1)
 have HL2:=Hd (show ys.length = m by simpa [ints] using hB.1)
 clear hA hB hn hm
 go_enter Tryz.func102,Tryz.ntmps102
 have aL:=Hd ((((Below.refl w.heap.size w).alloc (Nat.le_refl _) (.cells #[.slice A n c,.bool true] 107)).alloc (by simp) (.cells #[.slice B m d,.bool true] 107)).alloc (by simp; omega) (.cells #[.bool false,.slice none 0 0] 33))
 have a6:=Hd (((Held.new_at w (w.heap.size) (.slice A n c) (.bool true) 107 (by first | rfl | simp)).alloc (.cells #[.slice B m d,.bool true] 107)).alloc (.cells #[.bool false,.slice none 0 0] 33))
 have a7:=Hd ((Held.new_at (w.alloc (.cells #[.slice A n c,.bool true] 107)) (w.heap.size + 1) (.slice B m d) (.bool true) 107 (by first | rfl | simp)).alloc (.cells #[.bool false,.slice none 0 0] 33))
 have a8:=Hd (Held.new_at ((w.alloc (.cells #[.slice A n c,.bool true] 107)).alloc (.cells #[.slice B m d,.bool true] 107)) (w.heap.size + 1 + 1) (.bool false) (.slice none 0 0) 33 (by first | rfl | simp))
 have hne01 : w.heap.size ≠ w.heap.size + 1:=by omega
 have hne02 : w.heap.size ≠ w.heap.size + 1 + 1:=by omega
 have hne10 : w.heap.size + 1 ≠ w.heap.size:=by omega
 have hne12 : w.heap.size + 1 ≠ w.heap.size + 1 + 1:=by omega
 have hne20 : w.heap.size + 1 + 1 ≠ w.heap.size:=by omega
 have hne21 : w.heap.size + 1 + 1 ≠ w.heap.size + 1:=by omega
 go_wp2_with fail
 refine (isValid_any true A n c xs _ (HA.out.below aL.out (Nat.le_refl _)) HN.out).mono ?_
 rintro e w0 ⟨rfl,hb⟩
 have a9:=Hd (a6.out.after hb)
 have aM:=Hd (a7.out.after hb)
 have aE:=Hd (a8.out.after hb)
 have aG:=Hd (aL.out.trans (hb.mono aL.out.size))
 clear hb
 by_cases hok : okB true xs = true
 ·rw [hok]
  have aH:=aM.out.c0
  have aI:=aM.out.c1
  go_wp2_with fail
  refine (isValid_any true B m d ys _ (HB.out.below aG.out (Nat.le_refl _)) HM.out).mono ?_
  rintro e w01 ⟨rfl,hb⟩
  have aN:=Hd (a9.out.after hb)
  have aO:=Hd (aM.out.after hb)
  have aA:=Hd (aE.out.after hb)
  have aF:=Hd (aG.out.trans (hb.mono aG.out.size))
  clear hb
  clear aH
  clear aI
  by_cases hok2 : okB true ys = true
  ·rw [hok2]
   obtain rfl : RS = sgZ z:=by rw [← HRS.out,hok,hok2]; simp [resS]
   obtain rfl : RM = magZ z:=by rw [← HRM.out,hok,hok2]; simp [resM]
   obtain ⟨hex,hcanx,hl60x⟩:=okI_nats (okB_ok hok)
   have hlenx : n ≤ 60:=by have h1:=HL.out; rw [toN_len] at hl60x; omega
   have HAn:=Hd (hex ▸ HA.out)
   have HCx:=Hd hcanx
   clear hex hcanx hl60x
   obtain ⟨hey,hcany,hl60y⟩:=okI_nats (okB_ok hok2)
   have hleny : m ≤ 60:=by have h1:=HL2.out; rw [toN_len] at hl60y; omega
   have HBn:=Hd (hey ▸ HB.out)
   have HCy:=Hd hcany
   clear hey hcany hl60y
   have HOK:=Hd hok
   have HOK2:=Hd hok2
   clear hok hok2
   have HLEN:=Hd (show (nats (magZ z)).length ≤ 60 by rw [nats_len]; exact capd_len _)
   have hlen9:=HLEN.out
   have aT:=aN.out.c0
   have aU:=aN.out.c1
   have aV:=aO.out.c0
   have aW:=aO.out.c1
   have aB:=aA.out.c0
   have aC:=aA.out.c1
   have hk2f0_2:=aA.out.f0
   have hk2f1_2:=aA.out.f1
   have bD:=Hd (show nats (addN xs ys) = nats (magZ z) by rw [addN_yes (okB_ok HOK.out) (okB_ok HOK2.out),← HZ.out,zOf,zOf,← signed_add,magZ_signed])
   have HSG:=Hd (show (true && decide (0 < (nats (magZ z)).length)) = sgZ z by rw [nats_len,← HZ.out,zOf,zOf,← signed_add,sgZ_signed,magZ_signed])
   go_wp2
   go_region_held3 (fun w' =>w'.cell? ⟨w.heap.size,1,none⟩ = some (.bool true) ∧ w'.cell? ⟨w.heap.size,0,none⟩ = some (.slice A n c) ∧ w'.cell? ⟨w.heap.size + 1,0,none⟩ = some (.slice B m d)) (go_keep)
    (first
      |(go_at_call 122
        refine (plus_any A B n c m d xs ys _ (HA.out.below aF.out.drew (Nat.le_refl _)) (HB.out.below aF.out.drew (Nat.le_refl _)) HN.out HM.out).mono ?_
        rintro e w2 ⟨v2,rfl,ho,hb⟩
        rw [bD.out] at ho
        obtain ⟨A1,c1,rfl⟩:=ho.shape
        have HO1:=Hd ho
        clear ho
        have aP:=Hd (aN.out.drew.after hb)
        have aQ:=Hd (aO.out.drew.after hb)
        have bA:=Hd (aA.out.drew.after hb)
        have aR:=Hd (aF.out.drew.trans (hb.mono aF.out.drew.size))
        clear hb
        have aX:=aP.out.c1
        have aY:=aP.out.c0
        have aZ:=aQ.out.c0)
      |(go_at_call 101
        refine (bigIntWith_any true A1 _ c1 _ ?_).mono ?_
        omega
        rintro e w9 ⟨rfl,hb⟩
        rw [HSG.out]
        have HO9:=Hd (OwnV.below HO1.out hb)
        have aS:=Hd (aP.out.after hb)
        have bB:=Hd (aQ.out.after hb)
        have aD:=Hd (bA.out.after hb)
        have bC:=Hd (aR.out.trans (hb.mono aR.out.size))
        clear hb
        have a0:=aS.out.c1
        have a2:=aS.out.c0
        have a3:=bB.out.c0
        have a4:=aD.out.c0
        have a5:=aD.out.c1
        have hk2f0_4:=aD.out.f0
        have hk2f1_4:=aD.out.f1))
   go_wp2
   have hr0:=aD.out.c0
   have hr1:=aD.out.c1
   exact bodyPost_ret (v:=.agg #[.bool (sgZ z),.slice A1 (nats (magZ z)).length c1]) (by simp [results,Tryz.results102,go_sem,hr0,hr1]) rfl (ownRB_close bC.out HO9.out aA.out.lt (by omega))
  ·rw [Bool.not_eq_true] at hok2
   rw [hok2]
   obtain rfl : RS = false:=by rw [← HRS.out,hok,hok2]; simp [resS]
   obtain rfl : RM = []:=by rw [← HRM.out,hok,hok2]; simp [resM]
   have aB:=aA.out.c0
   have aC:=aA.out.c1
   have hk2f0_2:=aA.out.f0
   have hk2f1_2:=aA.out.f1
   go_wp2
   exact bodyPost_ret (v:=.agg #[.bool false,.slice none 0 0]) (by simp [results,Tryz.results102,go_sem,aB,aC]) rfl (ownRB_close aF.out (OwnV.nil _ (w.heap.size + 1 + 1 + 1) _) (Nat.lt_succ_self _) (by omega))
 ·rw [Bool.not_eq_true] at hok
  rw [hok]
  obtain rfl : RS = false:=by rw [← HRS.out,hok]; simp [resS]
  obtain rfl : RM = []:=by rw [← HRM.out,hok]; simp [resM]
  have aJ:=aE.out.c0
  have aK:=aE.out.c1
  have hk2f0_1:=aE.out.f0
  have hk2f1_1:=aE.out.f1
  go_wp2
  exact bodyPost_ret (v:=.agg #[.bool false,.slice none 0 0]) (by simp [results,Tryz.results102,go_sem,aJ,aK]) rfl (ownRB_close aG.out (OwnV.nil _ (w.heap.size + 1 + 1 + 1) _) (Nat.lt_succ_self _) (by omega))
theorem sumOf_false_false (A B : Option Addr) (n c m d : Nat) (xs ys : List Int) (w : World) (hA : VRow w A n (ints xs)) (hB : VRow w B m (ints ys)) (hn : n ≤ maxLen) (hm : m ≤ maxLen) :
 Calls Tryz.prog 102 #[.agg #[.slice A n c,.bool false],.agg #[.slice B m d,.bool false]] w (OwnRB 3 (resS (okB false xs && okB false ys) (zOf false xs + zOf false ys)) (nats (resM (okB false xs && okB false ys) (zOf false xs + zOf false ys))) w):=by
 obtain ⟨z,hz⟩ : ∃ z,zOf false xs + zOf false ys = z:=⟨_,rfl⟩
 rw [hz]
 have HZ:=Hd hz
 clear hz
 obtain ⟨RS,hRS⟩ : ∃ b,resS (okB false xs && okB false ys) z = b:=⟨_,rfl⟩
 obtain ⟨RM,hRM⟩ : ∃ l,resM (okB false xs && okB false ys) z = l:=⟨_,rfl⟩
 rw [hRS,hRM]
 have HRS:=Hd hRS
 have HRM:=Hd hRM
 clear hRS hRM
 have HA:=Hd hA
 have HB:=Hd hB
 have HN:=Hd hn
 have HM:=Hd hm
 have HL:=Hd (show xs.length = n by simpa [ints] using hA.1)
 have HL2:=Hd (show ys.length = m by simpa [ints] using hB.1)
 clear hA hB hn hm
 go_enter Tryz.func102,Tryz.ntmps102
 have aL:=Hd ((((Below.refl w.heap.size w).alloc (Nat.le_refl _) (.cells #[.slice A n c,.bool false] 107)).alloc (by simp) (.cells #[.slice B m d,.bool false] 107)).alloc (by simp; omega) (.cells #[.bool false,.slice none 0 0] 33))
 have a6:=Hd (((Held.new_at w (w.heap.size) (.slice A n c) (.bool false) 107 (by first | rfl | simp)).alloc (.cells #[.slice B m d,.bool false] 107)).alloc (.cells #[.bool false,.slice none 0 0] 33))
 have a7:=Hd ((Held.new_at (w.alloc (.cells #[.slice A n c,.bool false] 107)) (w.heap.size + 1) (.slice B m d) (.bool false) 107 (by first | rfl | simp)).alloc (.cells #[.bool false,.slice none 0 0] 33))
 have a8:=Hd (Held.new_at ((w.alloc (.cells #[.slice A n c,.bool false] 107)).alloc (.cells #[.slice B m d,.bool false] 107)) (w.heap.size + 1 + 1) (.bool false) (.slice none 0 0) 33 (by first | rfl | simp))
 have hne01 : w.heap.size ≠ w.heap.size + 1:=by omega
 have hne02 : w.heap.size ≠ w.heap.size + 1 + 1:=by omega
 have hne10 : w.heap.size + 1 ≠ w.heap.size:=by omega
 have hne12 : w.heap.size + 1 ≠ w.heap.size + 1 + 1:=by omega
 have hne20 : w.heap.size + 1 + 1 ≠ w.heap.size:=by omega
 have hne21 : w.heap.size + 1 + 1 ≠ w.heap.size + 1:=by omega
 go_wp2_with fail
 refine (isValid_any false A n c xs _ (HA.out.below aL.out (Nat.le_refl _)) HN.out).mono ?_
 rintro e w0 ⟨rfl,hb⟩
 have a9:=Hd (a6.out.after hb)
 have aM:=Hd (a7.out.after hb)
 have aE:=Hd (a8.out.after hb)
 have aG:=Hd (aL.out.trans (hb.mono aL.out.size))
 clear hb
 by_cases hok : okB false xs = true
 ·rw [hok]
  have aH:=aM.out.c0
  have aI:=aM.out.c1
  go_wp2_with fail
  refine (isValid_any false B m d ys _ (HB.out.below aG.out (Nat.le_refl _)) HM.out).mono ?_
  rintro e w01 ⟨rfl,hb⟩
  have aN:=Hd (a9.out.after hb)
  have aO:=Hd (aM.out.after hb)
  have aA:=Hd (aE.out.after hb)
  have aF:=Hd (aG.out.trans (hb.mono aG.out.size))
  clear hb
  clear aH
  clear aI
  by_cases hok2 : okB false ys = true
  ·rw [hok2]
   obtain rfl : RS = sgZ z:=by rw [← HRS.out,hok,hok2]; simp [resS]
   obtain rfl : RM = magZ z:=by rw [← HRM.out,hok,hok2]; simp [resM]
   obtain ⟨hex,hcanx,hl60x⟩:=okI_nats (okB_ok hok)
   have hlenx : n ≤ 60:=by have h1:=HL.out; rw [toN_len] at hl60x; omega
   have HAn:=Hd (hex ▸ HA.out)
   have HCx:=Hd hcanx
   clear hex hcanx hl60x
   obtain ⟨hey,hcany,hl60y⟩:=okI_nats (okB_ok hok2)
   have hleny : m ≤ 60:=by have h1:=HL2.out; rw [toN_len] at hl60y; omega
   have HBn:=Hd (hey ▸ HB.out)
   have HCy:=Hd hcany
   clear hey hcany hl60y
   have HOK:=Hd hok
   have HOK2:=Hd hok2
   clear hok hok2
   have HLEN:=Hd (show (nats (magZ z)).length ≤ 60 by rw [nats_len]; exact capd_len _)
   have hlen9:=HLEN.out
   have aT:=aN.out.c0
   have aU:=aN.out.c1
   have aV:=aO.out.c0
   have aW:=aO.out.c1
   have aB:=aA.out.c0
   have aC:=aA.out.c1
   have hk2f0_2:=aA.out.f0
   have hk2f1_2:=aA.out.f1
   have bD:=Hd (show nats (addN xs ys) = nats (magZ z) by rw [addN_yes (okB_ok HOK.out) (okB_ok HOK2.out),← HZ.out,zOf,zOf,← signed_add,magZ_signed])
   have HSG:=Hd (show (false && decide (0 < (nats (magZ z)).length)) = sgZ z by rw [nats_len,← HZ.out,zOf,zOf,← signed_add,sgZ_signed,magZ_signed])
   go_wp2
   go_region_held3 (fun w' =>w'.cell? ⟨w.heap.size,1,none⟩ = some (.bool false) ∧ w'.cell? ⟨w.heap.size,0,none⟩ = some (.slice A n c) ∧ w'.cell? ⟨w.heap.size + 1,0,none⟩ = some (.slice B m d)) (go_keep)
    (first
      |(go_at_call 122
        refine (plus_any A B n c m d xs ys _ (HA.out.below aF.out.drew (Nat.le_refl _)) (HB.out.below aF.out.drew (Nat.le_refl _)) HN.out HM.out).mono ?_
        rintro e w2 ⟨v2,rfl,ho,hb⟩
        rw [bD.out] at ho
        obtain ⟨A1,c1,rfl⟩:=ho.shape
        have HO1:=Hd ho
        clear ho
        have aP:=Hd (aN.out.drew.after hb)
        have aQ:=Hd (aO.out.drew.after hb)
        have bA:=Hd (aA.out.drew.after hb)
        have aR:=Hd (aF.out.drew.trans (hb.mono aF.out.drew.size))
        clear hb
        have aX:=aP.out.c1
        have aY:=aP.out.c0
        have aZ:=aQ.out.c0)
      |(go_at_call 101
        refine (bigIntWith_any false A1 _ c1 _ ?_).mono ?_
        omega
        rintro e w9 ⟨rfl,hb⟩
        rw [HSG.out]
        have HO9:=Hd (OwnV.below HO1.out hb)
        have aS:=Hd (aP.out.after hb)
        have bB:=Hd (aQ.out.after hb)
        have aD:=Hd (bA.out.after hb)
        have bC:=Hd (aR.out.trans (hb.mono aR.out.size))
        clear hb
        have a0:=aS.out.c1
        have a2:=aS.out.c0
        have a3:=bB.out.c0
        have a4:=aD.out.c0
        have a5:=aD.out.c1
        have hk2f0_4:=aD.out.f0
        have hk2f1_4:=aD.out.f1))
   go_wp2
   have hr0:=aD.out.c0
   have hr1:=aD.out.c1
   exact bodyPost_ret (v:=.agg #[.bool (sgZ z),.slice A1 (nats (magZ z)).length c1]) (by simp [results,Tryz.results102,go_sem,hr0,hr1]) rfl (ownRB_close bC.out HO9.out aA.out.lt (by omega))
  ·rw [Bool.not_eq_true] at hok2
   rw [hok2]
   obtain rfl : RS = false:=by rw [← HRS.out,hok,hok2]; simp [resS]
   obtain rfl : RM = []:=by rw [← HRM.out,hok,hok2]; simp [resM]
   have aB:=aA.out.c0
   have aC:=aA.out.c1
   have hk2f0_2:=aA.out.f0
   have hk2f1_2:=aA.out.f1
   go_wp2
   exact bodyPost_ret (v:=.agg #[.bool false,.slice none 0 0]) (by simp [results,Tryz.results102,go_sem,aB,aC]) rfl (ownRB_close aF.out (OwnV.nil _ (w.heap.size + 1 + 1 + 1) _) (Nat.lt_succ_self _) (by omega))
 ·rw [Bool.not_eq_true] at hok
  rw [hok]
  obtain rfl : RS = false:=by rw [← HRS.out,hok]; simp [resS]
  obtain rfl : RM = []:=by rw [← HRM.out,hok]; simp [resM]
  have aJ:=aE.out.c0
  have aK:=aE.out.c1
  have hk2f0_1:=aE.out.f0
  have hk2f1_1:=aE.out.f1
  go_wp2
  exact bodyPost_ret (v:=.agg #[.bool false,.slice none 0 0]) (by simp [results,Tryz.results102,go_sem,aJ,aK]) rfl (ownRB_close aG.out (OwnV.nil _ (w.heap.size + 1 + 1 + 1) _) (Nat.lt_succ_self _) (by omega))
theorem sumOf_true_false (A B : Option Addr) (n c m d : Nat) (xs ys : List Int) (w : World) (hA : VRow w A n (ints xs)) (hB : VRow w B m (ints ys)) (hn : n ≤ maxLen) (hm : m ≤ maxLen) :
 Calls Tryz.prog 102 #[.agg #[.slice A n c,.bool true],.agg #[.slice B m d,.bool false]] w (OwnRB 3 (resS (okB true xs && okB false ys) (zOf true xs + zOf false ys)) (nats (resM (okB true xs && okB false ys) (zOf true xs + zOf false ys))) w):=by
 obtain ⟨z,hz⟩ : ∃ z,zOf true xs + zOf false ys = z:=⟨_,rfl⟩
 rw [hz]
 have HZ:=Hd hz
 clear hz
 obtain ⟨RS,hRS⟩ : ∃ b,resS (okB true xs && okB false ys) z = b:=⟨_,rfl⟩
 obtain ⟨RM,hRM⟩ : ∃ l,resM (okB true xs && okB false ys) z = l:=⟨_,rfl⟩
 rw [hRS,hRM]
 have HRS:=Hd hRS
 have HRM:=Hd hRM
 clear hRS hRM
 have HA:=Hd hA
 have HB:=Hd hB
 have HN:=Hd hn
 have HM:=Hd hm
 have HL:=Hd (show xs.length = n by simpa [ints] using hA.1)
 have HL2:=Hd (show ys.length = m by simpa [ints] using hB.1)
 clear hA hB hn hm
 go_enter Tryz.func102,Tryz.ntmps102
 have bE:=Hd ((((Below.refl w.heap.size w).alloc (Nat.le_refl _) (.cells #[.slice A n c,.bool true] 107)).alloc (by simp) (.cells #[.slice B m d,.bool false] 107)).alloc (by simp; omega) (.cells #[.bool false,.slice none 0 0] 33))
 have bT:=Hd (((Held.new_at w (w.heap.size) (.slice A n c) (.bool true) 107 (by first | rfl | simp)).alloc (.cells #[.slice B m d,.bool false] 107)).alloc (.cells #[.bool false,.slice none 0 0] 33))
 have bU:=Hd ((Held.new_at (w.alloc (.cells #[.slice A n c,.bool true] 107)) (w.heap.size + 1) (.slice B m d) (.bool false) 107 (by first | rfl | simp)).alloc (.cells #[.bool false,.slice none 0 0] 33))
 have bV:=Hd (Held.new_at ((w.alloc (.cells #[.slice A n c,.bool true] 107)).alloc (.cells #[.slice B m d,.bool false] 107)) (w.heap.size + 1 + 1) (.bool false) (.slice none 0 0) 33 (by first | rfl | simp))
 have hne01 : w.heap.size ≠ w.heap.size + 1:=by omega
 have hne02 : w.heap.size ≠ w.heap.size + 1 + 1:=by omega
 have hne10 : w.heap.size + 1 ≠ w.heap.size:=by omega
 have hne12 : w.heap.size + 1 ≠ w.heap.size + 1 + 1:=by omega
 have hne20 : w.heap.size + 1 + 1 ≠ w.heap.size:=by omega
 have hne21 : w.heap.size + 1 + 1 ≠ w.heap.size + 1:=by omega
 go_wp2_with fail
 refine (isValid_any true A n c xs _ (HA.out.below bE.out (Nat.le_refl _)) HN.out).mono ?_
 rintro e w0 ⟨rfl,hb⟩
 have bW:=Hd (bT.out.after hb)
 have bF:=Hd (bU.out.after hb)
 have aN:=Hd (bV.out.after hb)
 have aQ:=Hd (bE.out.trans (hb.mono bE.out.size))
 clear hb
 by_cases hok : okB true xs = true
 ·rw [hok]
  have aR:=bF.out.c0
  have aS:=bF.out.c1
  go_wp2_with fail
  refine (isValid_any false B m d ys _ (HB.out.below aQ.out (Nat.le_refl _)) HM.out).mono ?_
  rintro e w01 ⟨rfl,hb⟩
  have bG:=Hd (bW.out.after hb)
  have bH:=Hd (bF.out.after hb)
  have aA:=Hd (aN.out.after hb)
  have aO:=Hd (aQ.out.trans (hb.mono aQ.out.size))
  clear hb
  clear aR
  clear aS
  by_cases hok2 : okB false ys = true
  ·rw [hok2]
   obtain rfl : RS = sgZ z:=by rw [← HRS.out,hok,hok2]; simp [resS]
   obtain rfl : RM = magZ z:=by rw [← HRM.out,hok,hok2]; simp [resM]
   obtain ⟨hex,hcanx,hl60x⟩:=okI_nats (okB_ok hok)
   have hlenx : n ≤ 60:=by have h1:=HL.out; rw [toN_len] at hl60x; omega
   have HAn:=Hd (hex ▸ HA.out)
   have HCx:=Hd hcanx
   clear hex hcanx hl60x
   obtain ⟨hey,hcany,hl60y⟩:=okI_nats (okB_ok hok2)
   have hleny : m ≤ 60:=by have h1:=HL2.out; rw [toN_len] at hl60y; omega
   have HBn:=Hd (hey ▸ HB.out)
   have HCy:=Hd hcany
   clear hey hcany hl60y
   have HOK:=Hd hok
   have HOK2:=Hd hok2
   clear hok hok2
   have HLEN:=Hd (show (nats (magZ z)).length ≤ 60 by rw [nats_len]; exact capd_len _)
   have hlen9:=HLEN.out
   have aT:=bG.out.c0
   have aU:=bG.out.c1
   have aV:=bH.out.c0
   have aW:=bH.out.c1
   have aB:=aA.out.c0
   have aC:=aA.out.c1
   have hk2f0_2:=aA.out.f0
   have hk2f1_2:=aA.out.f1
   go_wp2_with fail
   refine (magCmp_any A B n c m d xs ys _ (HA.out.below aO.out (Nat.le_refl _)) (HB.out.below aO.out (Nat.le_refl _)) HN.out HM.out).mono ?_
   rintro e w02 ⟨rfl,hb⟩
   have aJ:=Hd (bG.out.after hb)
   have aK:=Hd (bH.out.after hb)
   have aH:=Hd (aA.out.after hb)
   have aP:=Hd (aO.out.trans (hb.mono aO.out.size))
   clear hb
   clear aT
   clear aU
   clear aV
   clear aW
   clear aB
   clear aC
   clear hk2f0_2
   clear hk2f1_2
   have aX:=aJ.out.c0
   have aY:=aJ.out.c1
   have aZ:=aK.out.c0
   have a0:=aK.out.c1
   have a2:=aH.out.c0
   have a3:=aH.out.c1
   have hk2f0_3:=aH.out.f0
   have hk2f1_3:=aH.out.f1
   have hk0f0_3:=aJ.out.f0
   have hk0f1_3:=aJ.out.f1
   have hk1f0_3:=aK.out.f0
   have hk1f1_3:=aK.out.f1
   have HCM:=Hd (show cmpI xs ys = sgn (val (toN xs)) (val (toN ys)) by rw [cmpI,if_pos ⟨okB_ok HOK.out,okB_ok HOK2.out⟩])
   by_cases hge : val (toN ys) ≤ val (toN xs)
   ·obtain ⟨q,hq⟩ : ∃ q : Int,cmpI xs ys = q:=⟨_,rfl⟩
    have hq0 : 0 ≤ q:=by rw [← hq,HCM.out]; unfold sgn; split; omega; split <;> omega
    have hq1 : ¬ q < 0:=by omega
    rw [hq]
    clear hq
    have bX:=Hd (show nats (subN xs ys) = nats (magZ z) by rw [subN_yes (okB_ok HOK.out) (okB_ok HOK2.out),← HZ.out,zOf,zOf,show signed true (val (toN xs)) + signed false (val (toN ys)) = signed true (val (toN xs) - val (toN ys)) from (signed_sub true _ _ hge).symm,magZ_signed,capd_of (Nat.lt_of_le_of_lt (Nat.sub_le _ _) (okB_val HOK.out))])
    have HSG:=Hd (show (true && decide (0 < (nats (magZ z)).length)) = sgZ z by rw [nats_len,← HZ.out,zOf,zOf,show signed true (val (toN xs)) + signed false (val (toN ys)) = signed true (val (toN xs) - val (toN ys)) from (signed_sub true _ _ hge).symm,sgZ_signed,magZ_signed])
    clear hge
    go_wp2
    go_region_held3 (fun w' =>w'.cell? ⟨w.heap.size,1,none⟩ = some (.bool true) ∧ w'.cell? ⟨w.heap.size,0,none⟩ = some (.slice A n c) ∧ w'.cell? ⟨w.heap.size + 1,0,none⟩ = some (.slice B m d)) (go_keep)
     (first
       |(go_at_call 124
         refine (minus_any A B n c m d xs ys _ (HA.out.below aP.out.drew (Nat.le_refl _)) (HB.out.below aP.out.drew (Nat.le_refl _)) HN.out HM.out).mono ?_
         rintro e w2 ⟨v2,rfl,ho,hb⟩
         rw [bX.out] at ho
         obtain ⟨A1,c1,rfl⟩:=ho.shape
         have HO1:=Hd ho
         clear ho
         have aE:=Hd (aJ.out.drew.after hb)
         have aI:=Hd (aK.out.drew.after hb)
         have aD:=Hd (aH.out.drew.after hb)
         have aF:=Hd (aP.out.drew.trans (hb.mono aP.out.drew.size))
         clear hb
         have a4:=aE.out.c1
         have a5:=aE.out.c0
         have a6:=aI.out.c0)
       |(go_at_call 101
         refine (bigIntWith_any true A1 _ c1 _ ?_).mono ?_
         omega
         rintro e w9 ⟨rfl,hb⟩
         rw [HSG.out]
         have HO9:=Hd (OwnV.below HO1.out hb)
         have aL:=Hd (aE.out.after hb)
         have a7:=Hd (aI.out.after hb)
         have aG:=Hd (aD.out.after hb)
         have a8:=Hd (aF.out.trans (hb.mono aF.out.size))
         clear hb
         have a9:=aL.out.c1
         have bA:=aL.out.c0
         have bB:=a7.out.c0
         have bJ:=aG.out.c0
         have bK:=aG.out.c1
         have hk2f0_5:=aG.out.f0
         have hk2f1_5:=aG.out.f1))
    go_wp2
    have hr0:=aG.out.c0
    have hr1:=aG.out.c1
    exact bodyPost_ret (v:=.agg #[.bool (sgZ z),.slice A1 (nats (magZ z)).length c1]) (by simp [results,Tryz.results102,go_sem,hr0,hr1]) rfl (ownRB_close a8.out HO9.out aH.out.lt (by omega))
   ·have hlt : val (toN xs) < val (toN ys):=by omega
    have hq : cmpI xs ys = -1:=by rw [HCM.out,sgn_lt hlt]
    rw [hq]
    clear hq hge
    have bX:=Hd (show nats (subN ys xs) = nats (magZ z) by rw [subN_yes (okB_ok HOK2.out) (okB_ok HOK.out),← HZ.out,zOf,zOf,show signed true (val (toN xs)) + signed false (val (toN ys)) = signed false (val (toN ys) - val (toN xs)) from (Int.add_comm _ _).trans (signed_sub false _ _ (Nat.le_of_lt hlt)).symm,magZ_signed,capd_of (Nat.lt_of_le_of_lt (Nat.sub_le _ _) (okB_val HOK2.out))])
    have HSG:=Hd (show (false && decide (0 < (nats (magZ z)).length)) = sgZ z by rw [nats_len,← HZ.out,zOf,zOf,show signed true (val (toN xs)) + signed false (val (toN ys)) = signed false (val (toN ys) - val (toN xs)) from (Int.add_comm _ _).trans (signed_sub false _ _ (Nat.le_of_lt hlt)).symm,sgZ_signed,magZ_signed])
    clear hlt
    go_wp2
    clear aX
    clear aY
    clear aZ
    clear a0
    clear a2
    clear a3
    clear hk2f0_3
    clear hk2f1_3
    clear hk0f0_3
    clear hk0f1_3
    clear hk1f0_3
    clear hk1f1_3
    have aE:=Hd ((((aJ.out.set0 (.slice B m d)).set1 (.bool false)).setOther (p:=⟨w.heap.size + 1,0,none⟩) hne01 (.slice A n c)).setOther (p:=⟨w.heap.size + 1,1,none⟩) hne01 (.bool true))
    have aI:=Hd ((((aK.out.setOther (p:=⟨w.heap.size,0,none⟩) hne10 (.slice B m d)).setOther (p:=⟨w.heap.size,1,none⟩) hne10 (.bool false)).set0 (.slice A n c)).set1 (.bool true))
    have aD:=Hd ((((aH.out.setOther (p:=⟨w.heap.size,0,none⟩) hne20 (.slice B m d)).setOther (p:=⟨w.heap.size,1,none⟩) hne20 (.bool false)).setOther (p:=⟨w.heap.size + 1,0,none⟩) hne21 (.slice A n c)).setOther (p:=⟨w.heap.size + 1,1,none⟩) hne21 (.bool true))
    have aF:=Hd ((((aP.out.setCell (p:=⟨w.heap.size,0,none⟩) (Nat.le_refl _) (.slice B m d)).setCell (p:=⟨w.heap.size,1,none⟩) (Nat.le_refl _) (.bool false)).setCell (p:=⟨w.heap.size + 1,0,none⟩) (Nat.le_succ _) (.slice A n c)).setCell (p:=⟨w.heap.size + 1,1,none⟩) (Nat.le_succ _) (.bool true))
    obtain ⟨w03,hw03⟩ : ∃ u,((((w02.setCell ⟨w.heap.size,0,none⟩ (.slice B m d)).setCell ⟨w.heap.size,1,none⟩ (.bool false)).setCell ⟨w.heap.size + 1,0,none⟩ (.slice A n c)).setCell ⟨w.heap.size + 1,1,none⟩ (.bool true)) = u:=⟨_,rfl⟩
    rw [hw03] at aE aI aD aF ⊢
    clear hw03
    have a5:=aE.out.c0
    have a4:=aE.out.c1
    have a6:=aI.out.c0
    have bL:=aI.out.c1
    have bM:=aD.out.c0
    have bN:=aD.out.c1
    have hk2f0_4:=aD.out.f0
    have hk2f1_4:=aD.out.f1
    go_wp2
    go_region_held3 (fun w' =>w'.cell? ⟨w.heap.size,1,none⟩ = some (.bool false) ∧ w'.cell? ⟨w.heap.size,0,none⟩ = some (.slice B m d) ∧ w'.cell? ⟨w.heap.size + 1,0,none⟩ = some (.slice A n c)) (go_keep)
     (first
       |(go_at_call 124
         refine (minus_any B A m d n c ys xs _ (HB.out.below aF.out.drew (Nat.le_refl _)) (HA.out.below aF.out.drew (Nat.le_refl _)) HM.out HN.out).mono ?_
         rintro e w2 ⟨v2,rfl,ho,hb⟩
         rw [bX.out] at ho
         obtain ⟨A1,c1,rfl⟩:=ho.shape
         have HO1:=Hd ho
         clear ho
         have aL:=Hd (aE.out.drew.after hb)
         have a7:=Hd (aI.out.drew.after hb)
         have aG:=Hd (aD.out.drew.after hb)
         have a8:=Hd (aF.out.drew.trans (hb.mono aF.out.drew.size))
         clear hb
         have a9:=aL.out.c1
         have bA:=aL.out.c0
         have bB:=a7.out.c0)
       |(go_at_call 101
         refine (bigIntWith_any false A1 _ c1 _ ?_).mono ?_
         omega
         rintro e w9 ⟨rfl,hb⟩
         rw [HSG.out]
         have HO9:=Hd (OwnV.below HO1.out hb)
         have bI:=Hd (aL.out.after hb)
         have bY:=Hd (a7.out.after hb)
         have aM:=Hd (aG.out.after hb)
         have bZ:=Hd (a8.out.trans (hb.mono a8.out.size))
         clear hb
         have bO:=bI.out.c1
         have bP:=bI.out.c0
         have bQ:=bY.out.c0
         have bR:=aM.out.c0
         have bS:=aM.out.c1
         have hk2f0_6:=aM.out.f0
         have hk2f1_6:=aM.out.f1))
    go_wp2
    have hr0:=aM.out.c0
    have hr1:=aM.out.c1
    exact bodyPost_ret (v:=.agg #[.bool (sgZ z),.slice A1 (nats (magZ z)).length c1]) (by simp [results,Tryz.results102,go_sem,hr0,hr1]) rfl (ownRB_close bZ.out HO9.out aD.out.lt (by omega))
  ·rw [Bool.not_eq_true] at hok2
   rw [hok2]
   obtain rfl : RS = false:=by rw [← HRS.out,hok,hok2]; simp [resS]
   obtain rfl : RM = []:=by rw [← HRM.out,hok,hok2]; simp [resM]
   have aB:=aA.out.c0
   have aC:=aA.out.c1
   have hk2f0_2:=aA.out.f0
   have hk2f1_2:=aA.out.f1
   go_wp2
   exact bodyPost_ret (v:=.agg #[.bool false,.slice none 0 0]) (by simp [results,Tryz.results102,go_sem,aB,aC]) rfl (ownRB_close aO.out (OwnV.nil _ (w.heap.size + 1 + 1 + 1) _) (Nat.lt_succ_self _) (by omega))
 ·rw [Bool.not_eq_true] at hok
  rw [hok]
  obtain rfl : RS = false:=by rw [← HRS.out,hok]; simp [resS]
  obtain rfl : RM = []:=by rw [← HRM.out,hok]; simp [resM]
  have bC:=aN.out.c0
  have bD:=aN.out.c1
  have hk2f0_1:=aN.out.f0
  have hk2f1_1:=aN.out.f1
  go_wp2
  exact bodyPost_ret (v:=.agg #[.bool false,.slice none 0 0]) (by simp [results,Tryz.results102,go_sem,bC,bD]) rfl (ownRB_close aQ.out (OwnV.nil _ (w.heap.size + 1 + 1 + 1) _) (Nat.lt_succ_self _) (by omega))
theorem sumOf_false_true (A B : Option Addr) (n c m d : Nat) (xs ys : List Int) (w : World) (hA : VRow w A n (ints xs)) (hB : VRow w B m (ints ys)) (hn : n ≤ maxLen) (hm : m ≤ maxLen) :
 Calls Tryz.prog 102 #[.agg #[.slice A n c,.bool false],.agg #[.slice B m d,.bool true]] w (OwnRB 3 (resS (okB false xs && okB true ys) (zOf false xs + zOf true ys)) (nats (resM (okB false xs && okB true ys) (zOf false xs + zOf true ys))) w):=by
 obtain ⟨z,hz⟩ : ∃ z,zOf false xs + zOf true ys = z:=⟨_,rfl⟩
 rw [hz]
 have HZ:=Hd hz
 clear hz
 obtain ⟨RS,hRS⟩ : ∃ b,resS (okB false xs && okB true ys) z = b:=⟨_,rfl⟩
 obtain ⟨RM,hRM⟩ : ∃ l,resM (okB false xs && okB true ys) z = l:=⟨_,rfl⟩
 rw [hRS,hRM]
 have HRS:=Hd hRS
 have HRM:=Hd hRM
 clear hRS hRM
 have HA:=Hd hA
 have HB:=Hd hB
 have HN:=Hd hn
 have HM:=Hd hm
 have HL:=Hd (show xs.length = n by simpa [ints] using hA.1)
 have HL2:=Hd (show ys.length = m by simpa [ints] using hB.1)
 clear hA hB hn hm
 go_enter Tryz.func102,Tryz.ntmps102
 have bE:=Hd ((((Below.refl w.heap.size w).alloc (Nat.le_refl _) (.cells #[.slice A n c,.bool false] 107)).alloc (by simp) (.cells #[.slice B m d,.bool true] 107)).alloc (by simp; omega) (.cells #[.bool false,.slice none 0 0] 33))
 have bT:=Hd (((Held.new_at w (w.heap.size) (.slice A n c) (.bool false) 107 (by first | rfl | simp)).alloc (.cells #[.slice B m d,.bool true] 107)).alloc (.cells #[.bool false,.slice none 0 0] 33))
 have bU:=Hd ((Held.new_at (w.alloc (.cells #[.slice A n c,.bool false] 107)) (w.heap.size + 1) (.slice B m d) (.bool true) 107 (by first | rfl | simp)).alloc (.cells #[.bool false,.slice none 0 0] 33))
 have bV:=Hd (Held.new_at ((w.alloc (.cells #[.slice A n c,.bool false] 107)).alloc (.cells #[.slice B m d,.bool true] 107)) (w.heap.size + 1 + 1) (.bool false) (.slice none 0 0) 33 (by first | rfl | simp))
 have hne01 : w.heap.size ≠ w.heap.size + 1:=by omega
 have hne02 : w.heap.size ≠ w.heap.size + 1 + 1:=by omega
 have hne10 : w.heap.size + 1 ≠ w.heap.size:=by omega
 have hne12 : w.heap.size + 1 ≠ w.heap.size + 1 + 1:=by omega
 have hne20 : w.heap.size + 1 + 1 ≠ w.heap.size:=by omega
 have hne21 : w.heap.size + 1 + 1 ≠ w.heap.size + 1:=by omega
 go_wp2_with fail
 refine (isValid_any false A n c xs _ (HA.out.below bE.out (Nat.le_refl _)) HN.out).mono ?_
 rintro e w0 ⟨rfl,hb⟩
 have bW:=Hd (bT.out.after hb)
 have bF:=Hd (bU.out.after hb)
 have aN:=Hd (bV.out.after hb)
 have aQ:=Hd (bE.out.trans (hb.mono bE.out.size))
 clear hb
 by_cases hok : okB false xs = true
 ·rw [hok]
  have aR:=bF.out.c0
  have aS:=bF.out.c1
  go_wp2_with fail
  refine (isValid_any true B m d ys _ (HB.out.below aQ.out (Nat.le_refl _)) HM.out).mono ?_
  rintro e w01 ⟨rfl,hb⟩
  have bG:=Hd (bW.out.after hb)
  have bH:=Hd (bF.out.after hb)
  have aA:=Hd (aN.out.after hb)
  have aO:=Hd (aQ.out.trans (hb.mono aQ.out.size))
  clear hb
  clear aR
  clear aS
  by_cases hok2 : okB true ys = true
  ·rw [hok2]
   obtain rfl : RS = sgZ z:=by rw [← HRS.out,hok,hok2]; simp [resS]
   obtain rfl : RM = magZ z:=by rw [← HRM.out,hok,hok2]; simp [resM]
   obtain ⟨hex,hcanx,hl60x⟩:=okI_nats (okB_ok hok)
   have hlenx : n ≤ 60:=by have h1:=HL.out; rw [toN_len] at hl60x; omega
   have HAn:=Hd (hex ▸ HA.out)
   have HCx:=Hd hcanx
   clear hex hcanx hl60x
   obtain ⟨hey,hcany,hl60y⟩:=okI_nats (okB_ok hok2)
   have hleny : m ≤ 60:=by have h1:=HL2.out; rw [toN_len] at hl60y; omega
   have HBn:=Hd (hey ▸ HB.out)
   have HCy:=Hd hcany
   clear hey hcany hl60y
   have HOK:=Hd hok
   have HOK2:=Hd hok2
   clear hok hok2
   have HLEN:=Hd (show (nats (magZ z)).length ≤ 60 by rw [nats_len]; exact capd_len _)
   have hlen9:=HLEN.out
   have aT:=bG.out.c0
   have aU:=bG.out.c1
   have aV:=bH.out.c0
   have aW:=bH.out.c1
   have aB:=aA.out.c0
   have aC:=aA.out.c1
   have hk2f0_2:=aA.out.f0
   have hk2f1_2:=aA.out.f1
   go_wp2_with fail
   refine (magCmp_any A B n c m d xs ys _ (HA.out.below aO.out (Nat.le_refl _)) (HB.out.below aO.out (Nat.le_refl _)) HN.out HM.out).mono ?_
   rintro e w02 ⟨rfl,hb⟩
   have aJ:=Hd (bG.out.after hb)
   have aK:=Hd (bH.out.after hb)
   have aH:=Hd (aA.out.after hb)
   have aP:=Hd (aO.out.trans (hb.mono aO.out.size))
   clear hb
   clear aT
   clear aU
   clear aV
   clear aW
   clear aB
   clear aC
   clear hk2f0_2
   clear hk2f1_2
   have aX:=aJ.out.c0
   have aY:=aJ.out.c1
   have aZ:=aK.out.c0
   have a0:=aK.out.c1
   have a2:=aH.out.c0
   have a3:=aH.out.c1
   have hk2f0_3:=aH.out.f0
   have hk2f1_3:=aH.out.f1
   have hk0f0_3:=aJ.out.f0
   have hk0f1_3:=aJ.out.f1
   have hk1f0_3:=aK.out.f0
   have hk1f1_3:=aK.out.f1
   have HCM:=Hd (show cmpI xs ys = sgn (val (toN xs)) (val (toN ys)) by rw [cmpI,if_pos ⟨okB_ok HOK.out,okB_ok HOK2.out⟩])
   by_cases hge : val (toN ys) ≤ val (toN xs)
   ·obtain ⟨q,hq⟩ : ∃ q : Int,cmpI xs ys = q:=⟨_,rfl⟩
    have hq0 : 0 ≤ q:=by rw [← hq,HCM.out]; unfold sgn; split; omega; split <;> omega
    have hq1 : ¬ q < 0:=by omega
    rw [hq]
    clear hq
    have bX:=Hd (show nats (subN xs ys) = nats (magZ z) by rw [subN_yes (okB_ok HOK.out) (okB_ok HOK2.out),← HZ.out,zOf,zOf,show signed false (val (toN xs)) + signed true (val (toN ys)) = signed false (val (toN xs) - val (toN ys)) from (signed_sub false _ _ hge).symm,magZ_signed,capd_of (Nat.lt_of_le_of_lt (Nat.sub_le _ _) (okB_val HOK.out))])
    have HSG:=Hd (show (false && decide (0 < (nats (magZ z)).length)) = sgZ z by rw [nats_len,← HZ.out,zOf,zOf,show signed false (val (toN xs)) + signed true (val (toN ys)) = signed false (val (toN xs) - val (toN ys)) from (signed_sub false _ _ hge).symm,sgZ_signed,magZ_signed])
    clear hge
    go_wp2
    go_region_held3 (fun w' =>w'.cell? ⟨w.heap.size,1,none⟩ = some (.bool false) ∧ w'.cell? ⟨w.heap.size,0,none⟩ = some (.slice A n c) ∧ w'.cell? ⟨w.heap.size + 1,0,none⟩ = some (.slice B m d)) (go_keep)
     (first
       |(go_at_call 124
         refine (minus_any A B n c m d xs ys _ (HA.out.below aP.out.drew (Nat.le_refl _)) (HB.out.below aP.out.drew (Nat.le_refl _)) HN.out HM.out).mono ?_
         rintro e w2 ⟨v2,rfl,ho,hb⟩
         rw [bX.out] at ho
         obtain ⟨A1,c1,rfl⟩:=ho.shape
         have HO1:=Hd ho
         clear ho
         have aE:=Hd (aJ.out.drew.after hb)
         have aI:=Hd (aK.out.drew.after hb)
         have aD:=Hd (aH.out.drew.after hb)
         have aF:=Hd (aP.out.drew.trans (hb.mono aP.out.drew.size))
         clear hb
         have a4:=aE.out.c1
         have a5:=aE.out.c0
         have a6:=aI.out.c0)
       |(go_at_call 101
         refine (bigIntWith_any false A1 _ c1 _ ?_).mono ?_
         omega
         rintro e w9 ⟨rfl,hb⟩
         rw [HSG.out]
         have HO9:=Hd (OwnV.below HO1.out hb)
         have aL:=Hd (aE.out.after hb)
         have a7:=Hd (aI.out.after hb)
         have aG:=Hd (aD.out.after hb)
         have a8:=Hd (aF.out.trans (hb.mono aF.out.size))
         clear hb
         have a9:=aL.out.c1
         have bA:=aL.out.c0
         have bB:=a7.out.c0
         have bJ:=aG.out.c0
         have bK:=aG.out.c1
         have hk2f0_5:=aG.out.f0
         have hk2f1_5:=aG.out.f1))
    go_wp2
    have hr0:=aG.out.c0
    have hr1:=aG.out.c1
    exact bodyPost_ret (v:=.agg #[.bool (sgZ z),.slice A1 (nats (magZ z)).length c1]) (by simp [results,Tryz.results102,go_sem,hr0,hr1]) rfl (ownRB_close a8.out HO9.out aH.out.lt (by omega))
   ·have hlt : val (toN xs) < val (toN ys):=by omega
    have hq : cmpI xs ys = -1:=by rw [HCM.out,sgn_lt hlt]
    rw [hq]
    clear hq hge
    have bX:=Hd (show nats (subN ys xs) = nats (magZ z) by rw [subN_yes (okB_ok HOK2.out) (okB_ok HOK.out),← HZ.out,zOf,zOf,show signed false (val (toN xs)) + signed true (val (toN ys)) = signed true (val (toN ys) - val (toN xs)) from (Int.add_comm _ _).trans (signed_sub true _ _ (Nat.le_of_lt hlt)).symm,magZ_signed,capd_of (Nat.lt_of_le_of_lt (Nat.sub_le _ _) (okB_val HOK2.out))])
    have HSG:=Hd (show (true && decide (0 < (nats (magZ z)).length)) = sgZ z by rw [nats_len,← HZ.out,zOf,zOf,show signed false (val (toN xs)) + signed true (val (toN ys)) = signed true (val (toN ys) - val (toN xs)) from (Int.add_comm _ _).trans (signed_sub true _ _ (Nat.le_of_lt hlt)).symm,sgZ_signed,magZ_signed])
    clear hlt
    go_wp2
    clear aX
    clear aY
    clear aZ
    clear a0
    clear a2
    clear a3
    clear hk2f0_3
    clear hk2f1_3
    clear hk0f0_3
    clear hk0f1_3
    clear hk1f0_3
    clear hk1f1_3
    have aE:=Hd ((((aJ.out.set0 (.slice B m d)).set1 (.bool true)).setOther (p:=⟨w.heap.size + 1,0,none⟩) hne01 (.slice A n c)).setOther (p:=⟨w.heap.size + 1,1,none⟩) hne01 (.bool false))
    have aI:=Hd ((((aK.out.setOther (p:=⟨w.heap.size,0,none⟩) hne10 (.slice B m d)).setOther (p:=⟨w.heap.size,1,none⟩) hne10 (.bool true)).set0 (.slice A n c)).set1 (.bool false))
    have aD:=Hd ((((aH.out.setOther (p:=⟨w.heap.size,0,none⟩) hne20 (.slice B m d)).setOther (p:=⟨w.heap.size,1,none⟩) hne20 (.bool true)).setOther (p:=⟨w.heap.size + 1,0,none⟩) hne21 (.slice A n c)).setOther (p:=⟨w.heap.size + 1,1,none⟩) hne21 (.bool false))
    have aF:=Hd ((((aP.out.setCell (p:=⟨w.heap.size,0,none⟩) (Nat.le_refl _) (.slice B m d)).setCell (p:=⟨w.heap.size,1,none⟩) (Nat.le_refl _) (.bool true)).setCell (p:=⟨w.heap.size + 1,0,none⟩) (Nat.le_succ _) (.slice A n c)).setCell (p:=⟨w.heap.size + 1,1,none⟩) (Nat.le_succ _) (.bool false))
    obtain ⟨w03,hw03⟩ : ∃ u,((((w02.setCell ⟨w.heap.size,0,none⟩ (.slice B m d)).setCell ⟨w.heap.size,1,none⟩ (.bool true)).setCell ⟨w.heap.size + 1,0,none⟩ (.slice A n c)).setCell ⟨w.heap.size + 1,1,none⟩ (.bool false)) = u:=⟨_,rfl⟩
    rw [hw03] at aE aI aD aF ⊢
    clear hw03
    have a5:=aE.out.c0
    have a4:=aE.out.c1
    have a6:=aI.out.c0
    have bL:=aI.out.c1
    have bM:=aD.out.c0
    have bN:=aD.out.c1
    have hk2f0_4:=aD.out.f0
    have hk2f1_4:=aD.out.f1
    go_wp2
    go_region_held3 (fun w' =>w'.cell? ⟨w.heap.size,1,none⟩ = some (.bool true) ∧ w'.cell? ⟨w.heap.size,0,none⟩ = some (.slice B m d) ∧ w'.cell? ⟨w.heap.size + 1,0,none⟩ = some (.slice A n c)) (go_keep)
     (first
       |(go_at_call 124
         refine (minus_any B A m d n c ys xs _ (HB.out.below aF.out.drew (Nat.le_refl _)) (HA.out.below aF.out.drew (Nat.le_refl _)) HM.out HN.out).mono ?_
         rintro e w2 ⟨v2,rfl,ho,hb⟩
         rw [bX.out] at ho
         obtain ⟨A1,c1,rfl⟩:=ho.shape
         have HO1:=Hd ho
         clear ho
         have aL:=Hd (aE.out.drew.after hb)
         have a7:=Hd (aI.out.drew.after hb)
         have aG:=Hd (aD.out.drew.after hb)
         have a8:=Hd (aF.out.drew.trans (hb.mono aF.out.drew.size))
         clear hb
         have a9:=aL.out.c1
         have bA:=aL.out.c0
         have bB:=a7.out.c0)
       |(go_at_call 101
         refine (bigIntWith_any true A1 _ c1 _ ?_).mono ?_
         omega
         rintro e w9 ⟨rfl,hb⟩
         rw [HSG.out]
         have HO9:=Hd (OwnV.below HO1.out hb)
         have bI:=Hd (aL.out.after hb)
         have bY:=Hd (a7.out.after hb)
         have aM:=Hd (aG.out.after hb)
         have bZ:=Hd (a8.out.trans (hb.mono a8.out.size))
         clear hb
         have bO:=bI.out.c1
         have bP:=bI.out.c0
         have bQ:=bY.out.c0
         have bR:=aM.out.c0
         have bS:=aM.out.c1
         have hk2f0_6:=aM.out.f0
         have hk2f1_6:=aM.out.f1))
    go_wp2
    have hr0:=aM.out.c0
    have hr1:=aM.out.c1
    exact bodyPost_ret (v:=.agg #[.bool (sgZ z),.slice A1 (nats (magZ z)).length c1]) (by simp [results,Tryz.results102,go_sem,hr0,hr1]) rfl (ownRB_close bZ.out HO9.out aD.out.lt (by omega))
  ·rw [Bool.not_eq_true] at hok2
   rw [hok2]
   obtain rfl : RS = false:=by rw [← HRS.out,hok,hok2]; simp [resS]
   obtain rfl : RM = []:=by rw [← HRM.out,hok,hok2]; simp [resM]
   have aB:=aA.out.c0
   have aC:=aA.out.c1
   have hk2f0_2:=aA.out.f0
   have hk2f1_2:=aA.out.f1
   go_wp2
   exact bodyPost_ret (v:=.agg #[.bool false,.slice none 0 0]) (by simp [results,Tryz.results102,go_sem,aB,aC]) rfl (ownRB_close aO.out (OwnV.nil _ (w.heap.size + 1 + 1 + 1) _) (Nat.lt_succ_self _) (by omega))
 ·rw [Bool.not_eq_true] at hok
  rw [hok]
  obtain rfl : RS = false:=by rw [← HRS.out,hok]; simp [resS]
  obtain rfl : RM = []:=by rw [← HRM.out,hok]; simp [resM]
  have bC:=aN.out.c0
  have bD:=aN.out.c1
  have hk2f0_1:=aN.out.f0
  have hk2f1_1:=aN.out.f1
  go_wp2
  exact bodyPost_ret (v:=.agg #[.bool false,.slice none 0 0]) (by simp [results,Tryz.results102,go_sem,bC,bD]) rfl (ownRB_close aQ.out (OwnV.nil _ (w.heap.size + 1 + 1 + 1) _) (Nat.lt_succ_self _) (by omega))
theorem sumOf_any (s t : Bool) (A B : Option Addr) (n c m d : Nat) (xs ys : List Int) (w : World) (hA : VRow w A n (ints xs)) (hB : VRow w B m (ints ys)) (hn : n ≤ maxLen) (hm : m ≤ maxLen) :
 Calls Tryz.prog 102 #[.agg #[.slice A n c,.bool s],.agg #[.slice B m d,.bool t]] w (OwnRB 3 (resS (okB s xs && okB t ys) (zOf s xs + zOf t ys)) (nats (resM (okB s xs && okB t ys) (zOf s xs + zOf t ys))) w):=by
 cases s <;> cases t
 ·exact sumOf_false_false A B n c m d xs ys w hA hB hn hm
 ·exact sumOf_false_true A B n c m d xs ys w hA hB hn hm
 ·exact sumOf_true_false A B n c m d xs ys w hA hB hn hm
 ·exact sumOf_true_true A B n c m d xs ys w hA hB hn hm
theorem bigIntAdd_impl (s t : Bool) (A B : Option Addr) (n c m d : Nat) (xs ys : List Int) (w : World) (hA : VRow w A n (ints xs)) (hB : VRow w B m (ints ys)) (hn : n ≤ maxLen) (hm : m ≤ maxLen) :
 Calls Tryz.prog 72 #[.agg #[.bool s,.slice A n c],.agg #[.bool t,.slice B m d]] w (OwnRB 3 (resS (okB s xs && okB t ys) (zOf s xs + zOf t ys)) (nats (resM (okB s xs && okB t ys) (zOf s xs + zOf t ys))) w):=by
 obtain ⟨RS,hRS⟩ : ∃ b,resS (okB s xs && okB t ys) (zOf s xs + zOf t ys) = b:=⟨_,rfl⟩
 obtain ⟨RM,hRM⟩ : ∃ l,nats (resM (okB s xs && okB t ys) (zOf s xs + zOf t ys)) = l:=⟨_,rfl⟩
 rw [hRS,hRM]
 have HRS:=Hd hRS
 have HRM:=Hd hRM
 clear hRS hRM
 have HA:=Hd hA
 have HB:=Hd hB
 have HN:=Hd hn
 have HM:=Hd hm
 have HL:=Hd (show xs.length = n by simpa [ints] using hA.1)
 have HL2:=Hd (show ys.length = m by simpa [ints] using hB.1)
 clear hA hB hn hm
 go_enter Tryz.func72,Tryz.ntmps72
 have aG:=Hd ((((Below.refl w.heap.size w).alloc (Nat.le_refl _) (.cells #[.bool s,.slice A n c] 33)).alloc (by simp) (.cells #[.bool t,.slice B m d] 33)).alloc (by simp; omega) (.cells #[.bool false,.slice none 0 0] 33))
 have aZ:=Hd (((Held.new_at w (w.heap.size) (.bool s) (.slice A n c) 33 (by first | rfl | simp)).alloc (.cells #[.bool t,.slice B m d] 33)).alloc (.cells #[.bool false,.slice none 0 0] 33))
 have a0:=Hd ((Held.new_at (w.alloc (.cells #[.bool s,.slice A n c] 33)) (w.heap.size + 1) (.bool t) (.slice B m d) 33 (by first | rfl | simp)).alloc (.cells #[.bool false,.slice none 0 0] 33))
 have a2:=Hd (Held.new_at ((w.alloc (.cells #[.bool s,.slice A n c] 33)).alloc (.cells #[.bool t,.slice B m d] 33)) (w.heap.size + 1 + 1) (.bool false) (.slice none 0 0) 33 (by first | rfl | simp))
 have hne01 : w.heap.size ≠ w.heap.size + 1:=by omega
 have hne02 : w.heap.size ≠ w.heap.size + 1 + 1:=by omega
 have hne10 : w.heap.size + 1 ≠ w.heap.size:=by omega
 have hne12 : w.heap.size + 1 ≠ w.heap.size + 1 + 1:=by omega
 have hne20 : w.heap.size + 1 + 1 ≠ w.heap.size:=by omega
 have hne21 : w.heap.size + 1 + 1 ≠ w.heap.size + 1:=by omega
 go_wp2
 have hx1 : Value.bool s = Value.bool s:=rfl
 go_region_held3 (fun w' =>w'.cell? ⟨w.heap.size,0,none⟩ = some (.bool s) ∧ w'.cell? ⟨w.heap.size,1,none⟩ = some (.slice A n c) ∧ w'.cell? ⟨w.heap.size + 1,0,none⟩ = some (.bool t) ∧ w'.cell? ⟨w.heap.size + 1,1,none⟩ = some (.slice B m d)) (go_keep)
  (first
    |(go_at_call 103
      refine (signedOf_any s A n c _).mono ?_
      rintro e w1 ⟨rfl,hb⟩
      have aC:=Hd (aZ.out.drew.after hb)
      have aD:=Hd (a0.out.drew.after hb)
      have a3:=Hd (a2.out.drew.after hb)
      have aH:=Hd (aG.out.drew.trans (hb.mono aG.out.drew.size))
      clear hb
      have aL:=aC.out.c0
      have aM:=aC.out.c1
      have aN:=aD.out.c0
      have aO:=aD.out.c1)
    |(go_at_call 103
      refine (signedOf_any t B m d _).mono ?_
      rintro e w2 ⟨rfl,hb⟩
      have aE:=Hd (aC.out.after hb)
      have aF:=Hd (aD.out.after hb)
      have aI:=Hd (a3.out.after hb)
      have aB:=Hd (aH.out.trans (hb.mono aH.out.size))
      clear hb
      have aP:=aE.out.c0
      have aQ:=aE.out.c1
      have aR:=aF.out.c0
      have aS:=aF.out.c1)
    |(go_at_call 102
      have h3:=sumOf_any s t A B n c m d xs ys w2 (HA.out.below aB.out (Nat.le_refl _)) (HB.out.below aB.out (Nat.le_refl _)) HN.out HM.out
      rw [HRS.out,HRM.out] at h3
      refine h3.mono ?_
      clear h3
      rintro e w9 ⟨v9,rfl,ho9,hb⟩
      obtain ⟨A9,c9,rfl⟩:=ho9.shape
      have HO9:=Hd ho9
      clear ho9
      have aJ:=Hd (aE.out.after hb)
      have aK:=Hd (aF.out.after hb)
      have aA:=Hd (aI.out.after hb)
      have a4:=Hd (aB.out.trans (hb.mono aB.out.size))
      clear hb
      have aT:=aJ.out.c0
      have aU:=aJ.out.c1
      have aV:=aK.out.c0
      have aW:=aK.out.c1
      have aX:=aA.out.c0
      have aY:=aA.out.c1
      have hk2f0_3:=aA.out.f0
      have hk2f1_3:=aA.out.f1))
 go_wp2
 have hr0:=aA.out.c0
 have hr1:=aA.out.c1
 exact bodyPost_ret (v:=.agg #[.bool RS,.slice A9 RM.length c9]) (by simp [results,Tryz.results72,go_sem,hr0,hr1]) rfl (ownRB_close a4.out HO9.out aI.out.lt (by omega))
end Go.Proofs.YtodoiekbjjiocaaGreat
namespace Go.Proofs.YtodoiekbjjiocaaGreat
open Go.RowKit Nt
set_option linter.unusedVariables false
set_option maxRecDepth 100000
set_option maxHeartbeats 4000000
theorem okB_flip {t : Bool} {ys : List Int} (h : 0 < ys.length) : okB (!t) ys = okB t ys:=by simp [okB,h]
theorem zOf_flip (t : Bool) (ys : List Int) : zOf (!t) ys = -(zOf t ys):=by unfold zOf; exact signed_neg t _
theorem zOf_nil (t : Bool) {ys : List Int} (h : ys.length = 0) : zOf t ys = 0:=by
 rw [List.eq_nil_of_length_eq_zero h]
 cases t <;> simp [zOf,toN,val,signed]
theorem bigIntSub_impl (s t : Bool) (A B : Option Addr) (n c m d : Nat) (xs ys : List Int) (w : World) (hA : VRow w A n (ints xs)) (hB : VRow w B m (ints ys)) (hn : n ≤ maxLen) (hm : m ≤ maxLen) :
 Calls Tryz.prog 114 #[.agg #[.bool s,.slice A n c],.agg #[.bool t,.slice B m d]] w (OwnRB 3 (resS (okB s xs && okB t ys) (zOf s xs - zOf t ys)) (nats (resM (okB s xs && okB t ys) (zOf s xs - zOf t ys))) w):=by
 obtain ⟨RS,hRS⟩ : ∃ b,resS (okB s xs && okB t ys) (zOf s xs - zOf t ys) = b:=⟨_,rfl⟩
 obtain ⟨RM,hRM⟩ : ∃ l,nats (resM (okB s xs && okB t ys) (zOf s xs - zOf t ys)) = l:=⟨_,rfl⟩
 rw [hRS,hRM]
 have HRS:=Hd hRS
 have HRM:=Hd hRM
 clear hRS hRM
 have HA:=Hd hA
 have HB:=Hd hB
 have HN:=Hd hn
 have HM:=Hd hm
 have HL:=Hd (show xs.length = n by simpa [ints] using hA.1)
 have HL2:=Hd (show ys.length = m by simpa [ints] using hB.1)
 clear hA hB hn hm
 have hm63 : m ≤ 9223372036854775807:=by have h:=HM.out; unfold maxLen at h; omega
 go_enter Tryz.func114,Tryz.ntmps114
 have bD:=Hd ((((Below.refl w.heap.size w).alloc (Nat.le_refl _) (.cells #[.bool s,.slice A n c] 33)).alloc (by simp) (.cells #[.bool t,.slice B m d] 33)).alloc (by simp; omega) (.cells #[.bool false,.slice none 0 0] 33))
 have bE:=Hd (((Held.new_at w (w.heap.size) (.bool s) (.slice A n c) 33 (by first | rfl | simp)).alloc (.cells #[.bool t,.slice B m d] 33)).alloc (.cells #[.bool false,.slice none 0 0] 33))
 have bF:=Hd ((Held.new_at (w.alloc (.cells #[.bool s,.slice A n c] 33)) (w.heap.size + 1) (.bool t) (.slice B m d) 33 (by first | rfl | simp)).alloc (.cells #[.bool false,.slice none 0 0] 33))
 have bG:=Hd (Held.new_at ((w.alloc (.cells #[.bool s,.slice A n c] 33)).alloc (.cells #[.bool t,.slice B m d] 33)) (w.heap.size + 1 + 1) (.bool false) (.slice none 0 0) 33 (by first | rfl | simp))
 have hne01 : w.heap.size ≠ w.heap.size + 1:=by omega
 have hne02 : w.heap.size ≠ w.heap.size + 1 + 1:=by omega
 have hne10 : w.heap.size + 1 ≠ w.heap.size:=by omega
 have hne12 : w.heap.size + 1 ≠ w.heap.size + 1 + 1:=by omega
 have hne20 : w.heap.size + 1 + 1 ≠ w.heap.size:=by omega
 have hne21 : w.heap.size + 1 + 1 ≠ w.heap.size + 1:=by omega
 go_wp2_with fail
 refine (signedOf_any t B m d _).mono ?_
 rintro e w0 ⟨rfl,hb⟩
 have aE:=Hd (bE.out.after hb)
 have aN:=Hd (bF.out.after hb)
 have aC:=Hd (bG.out.after hb)
 have aS:=Hd (bD.out.trans (hb.mono bD.out.size))
 clear hb
 have aJ:=aC.out.c0
 have aK:=aC.out.c1
 have hk2f0_1:=aC.out.f0
 have hk2f1_1:=aC.out.f1
 have aL:=aE.out.c0
 have aM:=aE.out.c1
 by_cases h0 : m = 0
 ·subst h0
  have HZY:=Hd (show zOf s xs + zOf t ys = zOf s xs - zOf t ys by rw [zOf_nil t (by exact HL2.out)]; simp)
  go_wp2_with (go_at_call 128; refine (isZero_any B _ d _ (by omega)).mono ?_; rintro e w2 ⟨rfl,rfl⟩)
  have aF:=Hd (aE.out.alloc (.cells #[.slice B 0 d,.bool t] 107))
  have bA:=Hd (aN.out.alloc (.cells #[.slice B 0 d,.bool t] 107))
  have aB:=Hd (aC.out.alloc (.cells #[.slice B 0 d,.bool t] 107))
  have aG:=Hd (Held.new w0 (.slice B 0 d) (.bool t) 107)
  have hne03 : w.heap.size ≠ w0.heap.size:=by have:=aE.out.lt; omega
  have hne30 : w0.heap.size ≠ w.heap.size:=by have:=aE.out.lt; omega
  have hne13 : w.heap.size + 1 ≠ w0.heap.size:=by have:=aN.out.lt; omega
  have hne31 : w0.heap.size ≠ w.heap.size + 1:=by have:=aN.out.lt; omega
  have hne23 : w.heap.size + 1 + 1 ≠ w0.heap.size:=by have:=aC.out.lt; omega
  have hne32 : w0.heap.size ≠ w.heap.size + 1 + 1:=by have:=aC.out.lt; omega
  have aO:=Hd (aS.out.alloc aS.out.size (.cells #[.slice B 0 d,.bool t] 107))
  clear aJ
  clear aK
  clear hk2f0_1
  clear hk2f1_1
  clear aL
  clear aM
  have aT:=aB.out.c0
  have aU:=aB.out.c1
  have hk2f0_2:=aB.out.f0
  have hk2f1_2:=aB.out.f1
  have aV:=aF.out.c0
  have aW:=aF.out.c1
  have aX:=aG.out.c0
  have aY:=aG.out.c1
  go_region_held3 (fun w' =>w'.cell? ⟨w.heap.size,0,none⟩ = some (.bool s) ∧ w'.cell? ⟨w.heap.size,1,none⟩ = some (.slice A n c) ∧ w'.cell? ⟨w0.heap.size,0,none⟩ = some (.slice B 0 d) ∧ w'.cell? ⟨w0.heap.size,1,none⟩ = some (.bool t)) (go_keep)
   (first
     |(go_at_call 103
       refine (signedOf_any s A n c _).mono ?_
       rintro e w1 ⟨rfl,hb⟩
       have aH:=Hd (aF.out.drew.after hb)
       have bB:=Hd (bA.out.drew.after hb)
       have aP:=Hd (aB.out.drew.after hb)
       have aI:=Hd (aG.out.drew.after hb)
       have aD:=Hd (aO.out.drew.trans (hb.mono aO.out.drew.size))
       clear hb
       have aZ:=aH.out.c0
       have a0:=aH.out.c1
       have a2:=aI.out.c0
       have a3:=aI.out.c1)
     |(go_at_call 102
       have h3:=sumOf_any s t A B n c 0 d xs ys w1 (HA.out.below aD.out (Nat.le_refl _)) (HB.out.below aD.out (Nat.le_refl _)) HN.out HM.out
       rw [HZY.out,HRS.out,HRM.out] at h3
       refine h3.mono ?_
       clear h3
       rintro e w9 ⟨v9,rfl,ho9,hb⟩
       obtain ⟨A9,c9,rfl⟩:=ho9.shape
       have HO9:=Hd ho9
       clear ho9
       have aQ:=Hd (aH.out.after hb)
       have bH:=Hd (bB.out.after hb)
       have aA:=Hd (aP.out.after hb)
       have aR:=Hd (aI.out.after hb)
       have bC:=Hd (aD.out.trans (hb.mono aD.out.size))
       clear hb
       have a4:=aQ.out.c0
       have a5:=aQ.out.c1
       have a6:=aR.out.c0
       have a7:=aR.out.c1
       have a8:=aA.out.c0
       have a9:=aA.out.c1
       have hk2f0_4:=aA.out.f0
       have hk2f1_4:=aA.out.f1))
  go_wp2
  have hr0:=aA.out.c0
  have hr1:=aA.out.c1
  exact bodyPost_ret (v:=.agg #[.bool RS,.slice A9 RM.length c9]) (by simp [results,Tryz.results114,go_sem,hr0,hr1]) rfl (ownRB_close bC.out HO9.out aP.out.lt (by omega))
 ·have HZY:=Hd (show zOf s xs + zOf (!t) ys = zOf s xs - zOf t ys by rw [zOf_flip,Int.sub_eq_add_neg])
  have HOF:=Hd (show okB (!t) ys = okB t ys from okB_flip (by rw [HL2.out]; omega))
  go_wp2_with (go_at_call 128; refine (isZero_any B _ d _ (by omega)).mono ?_; rintro e w2 ⟨rfl,rfl⟩)
  have aF:=Hd (aE.out.alloc (.cells #[.slice B m d,.bool (!t)] 107))
  have bA:=Hd (aN.out.alloc (.cells #[.slice B m d,.bool (!t)] 107))
  have aB:=Hd (aC.out.alloc (.cells #[.slice B m d,.bool (!t)] 107))
  have aG:=Hd (Held.new w0 (.slice B m d) (.bool (!t)) 107)
  have hne03 : w.heap.size ≠ w0.heap.size:=by have:=aE.out.lt; omega
  have hne30 : w0.heap.size ≠ w.heap.size:=by have:=aE.out.lt; omega
  have hne13 : w.heap.size + 1 ≠ w0.heap.size:=by have:=aN.out.lt; omega
  have hne31 : w0.heap.size ≠ w.heap.size + 1:=by have:=aN.out.lt; omega
  have hne23 : w.heap.size + 1 + 1 ≠ w0.heap.size:=by have:=aC.out.lt; omega
  have hne32 : w0.heap.size ≠ w.heap.size + 1 + 1:=by have:=aC.out.lt; omega
  have aO:=Hd (aS.out.alloc aS.out.size (.cells #[.slice B m d,.bool (!t)] 107))
  clear aJ
  clear aK
  clear hk2f0_1
  clear hk2f1_1
  clear aL
  clear aM
  have aT:=aB.out.c0
  have aU:=aB.out.c1
  have hk2f0_2:=aB.out.f0
  have hk2f1_2:=aB.out.f1
  have aV:=aF.out.c0
  have aW:=aF.out.c1
  have aX:=aG.out.c0
  have aY:=aG.out.c1
  go_region_held3 (fun w' =>w'.cell? ⟨w.heap.size,0,none⟩ = some (.bool s) ∧ w'.cell? ⟨w.heap.size,1,none⟩ = some (.slice A n c) ∧ w'.cell? ⟨w0.heap.size,0,none⟩ = some (.slice B m d) ∧ w'.cell? ⟨w0.heap.size,1,none⟩ = some (.bool (!t))) (go_keep)
   (first
     |(go_at_call 103
       refine (signedOf_any s A n c _).mono ?_
       rintro e w1 ⟨rfl,hb⟩
       have aH:=Hd (aF.out.drew.after hb)
       have bB:=Hd (bA.out.drew.after hb)
       have aP:=Hd (aB.out.drew.after hb)
       have aI:=Hd (aG.out.drew.after hb)
       have aD:=Hd (aO.out.drew.trans (hb.mono aO.out.drew.size))
       clear hb
       have aZ:=aH.out.c0
       have a0:=aH.out.c1
       have a2:=aI.out.c0
       have a3:=aI.out.c1)
     |(go_at_call 102
       have h3:=sumOf_any s (!t) A B n c m d xs ys w1 (HA.out.below aD.out (Nat.le_refl _)) (HB.out.below aD.out (Nat.le_refl _)) HN.out HM.out
       rw [HZY.out,HOF.out,HRS.out,HRM.out] at h3
       refine h3.mono ?_
       clear h3
       rintro e w9 ⟨v9,rfl,ho9,hb⟩
       obtain ⟨A9,c9,rfl⟩:=ho9.shape
       have HO9:=Hd ho9
       clear ho9
       have aQ:=Hd (aH.out.after hb)
       have bH:=Hd (bB.out.after hb)
       have aA:=Hd (aP.out.after hb)
       have aR:=Hd (aI.out.after hb)
       have bC:=Hd (aD.out.trans (hb.mono aD.out.size))
       clear hb
       have a4:=aQ.out.c0
       have a5:=aQ.out.c1
       have a6:=aR.out.c0
       have a7:=aR.out.c1
       have a8:=aA.out.c0
       have a9:=aA.out.c1
       have hk2f0_4:=aA.out.f0
       have hk2f1_4:=aA.out.f1))
  go_wp2
  have hr0:=aA.out.c0
  have hr1:=aA.out.c1
  exact bodyPost_ret (v:=.agg #[.bool RS,.slice A9 RM.length c9]) (by simp [results,Tryz.results114,go_sem,hr0,hr1]) rfl (ownRB_close bC.out HO9.out aP.out.lt (by omega))
end Go.Proofs.YtodoiekbjjiocaaGreat
