/- Proved: at every slice of links and every link, impl.AddLink answers as its model spec.AddLink in every result, writes into no argument, its answer owns its memory, the call returns true and changes no memory that was there. Conditions: none. -/
import Derived.Test.YtodoiekbjjiocaaGreatAPk
import Derived.Test.YtodoiekbjjiocaaGreatRows
import Derived.Test.YtodoiekbjjiocaaGreatAB1
import Derived.Test.YtodoiekbjjiocaaGreatAOpenL
import Derived.Test.YtodoiekbjjiocaaGreatALkBase
import Derived.Test.YtodoiekbjjiocaaGreatAMarkL
import Derived.Test.YtodoiekbjjiocaaGreatAHand
import Derived.Test.YtodoiekbjjiocaaGreatAAddOpen
import Derived.Test.YtodoiekbjjiocaaGreatAAddLinkI
import Derived.Test.YtodoiekbjjiocaaGreatAAddLinkS
import Derived.WalkKit
import Derived.ProofKit
import Derived.OpenShut
import Derived.ShutString
import Derived.ChangeOld
import Derived.Below
namespace Go.Proofs.YtodoiekbjjiocaaGreat.lawAddLink
open Go.ChangeShapes Go.WideShapes Go.ChangeAt Go.RowKit
open Go.ChangeMaps (open_string shut_string)
set_option linter.unusedVariables false
theorem own : ownKnob Tryz.prog.godebug = none:=by kernel_rfl
theorem laidOut : laidOutB Tryz.prog = true:=by kernel_rfl
open Nt Fr
set_option maxRecDepth 100000 in
set_option maxHeartbeats 80000000 in
theorem walk (W : World) (a0 : Option Addr) (len0 cap0 : Nat) (z0 : List Lr) (w0 : IsLinks W a0 len0 cap0 z0) (A1 B1 : Int) (P1 Q1 R1 : Fr) (p10 p11 q10 q11 r10 r11 : Value) (w1 : LkI W P1 Q1 R1 p10 p11 q10 q11 r10 r11) :
 Calls Tryz.prog 3 #[.slice a0 len0 cap0,.agg #[.int .i64 A1,.int .i64 B1,.bool P1.s,p10,p11,.bool Q1.s,q10,q11,.bool R1.s,r10,r11]] W fun e w' =>e = .returned (.bool true) ∧ Below W.heap.size W w':=by
 obtain ⟨hA,hcap,hcm⟩:=w0
 have hlm : len0 ≤ 9223372036854775807:=by unfold maxLen at hcm; omega
 have HZ:=Hd hA.1
 have HA:=Hd hA
 clear hA hcm
 have HA1:=Hd w1
 clear w1
 have kN:=Hd (St.start1 W [.int .i64 A1,.int .i64 B1,.bool P1.s,p10,p11,.bool Q1.s,q10,q11,.bool R1.s,r10,r11] 29)
 go_enter Tryz.func3,Tryz.ntmps3
 go_wp2_with fail
 refine (szLinkS_any a0 len0 cap0 z0 1048576 _ (by omega) (by omega) (HA.out.below kN.out.below) hlm).mono ?_
 rintro e lT ⟨rfl,hb⟩
 have jU:=Hd (kN.out.call hb)
 clear kN
 clear hb
 by_cases hs0 : (1048576 : Int) < ((len0 + lensL z0 : Nat) : Int)
 ·rw [szOf_neg hs0]
  go_wp2
  go_ret
  exact ⟨rfl,jU.out.below⟩
 rw [szOf_pos hs0]
 obtain ⟨left0,hq0⟩ : ∃ q : Int,1048576 - ((len0 + lensL z0 : Nat) : Int) = q:=⟨_,rfl⟩
 have hl0_ : 0 ≤ left0 ∧ left0 ≤ 1048576 ∧ len0 + lensL z0 ≤ 1048576:=by omega
 rw [hq0]
 have HN:=Hd hl0_.2.2
 have hl1 : len0 ≤ 1048576:=by omega
 clear hq0 hs0
 obtain ⟨dC,dD,dE,dF,dG,dH,dI,dJ,dK,dL,c8⟩:=jU.out.c11 0 rfl
 go_wp2_with fail
 refine (szLink_f A1 B1 P1 Q1 R1 p10 p11 q10 q11 r10 r11 _ left0 (by omega) (by omega) (jU.out.lkI HA1.out)).mono ?_
 rintro e lU ⟨rfl,hb⟩
 have kD:=Hd (jU.out.call hb)
 clear jU
 clear hb
 clear dC dD dE dF dG dH dI dJ dK dL c8
 by_cases hs1 : (left0 : Int) < ((P1.len + Q1.len + R1.len : Nat) : Int)
 ·rw [szOf_neg hs1]
  go_wp2
  go_ret
  exact ⟨rfl,kD.out.below⟩
 rw [szOf_pos hs1]
 obtain ⟨left1,hq1⟩ : ∃ q : Int,left0 - ((P1.len + Q1.len + R1.len : Nat) : Int) = q:=⟨_,rfl⟩
 have hl1_ : 0 ≤ left1 ∧ left1 ≤ 1048576 ∧ P1.len + Q1.len + R1.len ≤ 1048576:=by omega
 rw [hq1]
 have HL1:=Hd hl1_.2.2
 clear hq1 hs1
 obtain ⟨R,hR⟩ : ∃ z,alAns (okSet z0 && okK A1 B1 P1 Q1 R1) (dts z0) ⟨A1,B1,P1,Q1,R1⟩ = z:=⟨_,rfl⟩
 have hbd : (rD R).length ≤ 101 ∧ lensD (rD R) ≤ 1048720 ∧ (rE R).len ≤ 120:=by
  rw [← hR]
  exact alAns_small (x:=⟨A1,B1,P1,Q1,R1⟩) (by rw [HZ.out]; exact HN.out)
 obtain ⟨RD,hRD⟩ : ∃ z,rD R = z:=⟨_,rfl⟩
 obtain ⟨RE,hRE⟩ : ∃ z,rE R = z:=⟨_,rfl⟩
 obtain ⟨rok,hrok⟩ : ∃ z,R.isSome = z:=⟨_,rfl⟩
 obtain ⟨nR,hnR⟩ : ∃ n,RD.length = n:=⟨_,rfl⟩
 obtain ⟨mR,hmR⟩ : ∃ n,lensD RD = n:=⟨_,rfl⟩
 rw [hRD,hRE,hnR,hmR] at hbd
 have hlen : RE.len ≤ 1048576:=by omega
 have hnb : nR ≤ 101 ∧ mR ≤ 1048720:=⟨hbd.1,hbd.2.1⟩
 have HOA:=Hd (show ∀ (w1 w : World) (en : Ending) (bs : List (Nat × List Value)) (cs : List Chunk),OwnSE R w1 en w → St W w1 bs cs → ∃ A c ys bO cO A0 n0 c0 A1 n1 c1,en = .returned (.tuple #[.slice A nR c,.agg #[.bool RE.s,.slice A0 n0 c0,.slice A1 n1 c1],.bool rok]) ∧ dts ys = RD ∧ ys.length = nR ∧ lensL ys = mR ∧ Lks A nR c ys bO cO ∧ St W w (bs ++ bO) ([(.slice A0 n0 c0,ints RE.xs),(.slice A1 n1 c1,ints RE.ys)] :: (cs ++ cO)) from by
  intro w1 w en bs cs h hS
  obtain ⟨A,c,ys,bO,cO,A0,n0,c0,A1,n1,c1,he,hd,hk,hst⟩:=h.lks hS
  have hyl : ys.length = nR:=by rw [← dts_len,hd,hRD]; exact hnR
  rw [hyl] at he hk
  rw [hRD] at hd
  rw [hRE] at he hst
  rw [hrok] at he
  exact ⟨A,c,ys,bO,cO,A0,n0,c0,A1,n1,c1,he,hd,hyl,by rw [← lensD_dts,hd]; exact hmR,hk,hst⟩)
 have HS:=Hd (show ∀ (A : Option Addr) (c : Nat) (ys : List Lr) (p0 p1 q0 q1 r0 r1 : Value) (u : World),ys.length = len0 → (∀ (i : Nat) (y z : Lr),ys[i]? = some y → z0[i]? = some z → y.like z) → LArg u A len0 ys → LkA u P1 Q1 R1 p0 p1 q0 q1 r0 r1 → Calls Tryz.prog 7 #[.slice A len0 c,.agg #[.int .i64 A1,.int .i64 B1,.bool P1.s,p0,p1,.bool Q1.s,q0,q1,.bool R1.s,r0,r1]] u (OwnSE R u) from fun A c ys p0 p1 q0 q1 r0 r1 u e1 e2 h1 h2=>by
  have h:=addLink_s A len0 c ys ⟨A1,B1,P1,Q1,R1,p0,p1,q0,q1,r0,r1⟩ u h1 hl1 h2
  rw [← hR,← alAns_like e1 HZ.out e2]
  exact h)
 have HI:=Hd (show ∀ (A : Option Addr) (c : Nat) (ys : List Lr) (p0 p1 q0 q1 r0 r1 : Value) (u : World),ys.length = len0 → (∀ (i : Nat) (y z : Lr),ys[i]? = some y → z0[i]? = some z → y.like z) → LArg u A len0 ys → LkA u P1 Q1 R1 p0 p1 q0 q1 r0 r1 → Calls Tryz.prog 10 #[.slice A len0 c,.agg #[.int .i64 A1,.int .i64 B1,.bool P1.s,p0,p1,.bool Q1.s,q0,q1,.bool R1.s,r0,r1]] u (OwnSE R u) from fun A c ys p0 p1 q0 q1 r0 r1 u e1 e2 h1 h2=>by
  have h:=addLink_i A len0 c ys ⟨A1,B1,P1,Q1,R1,p0,p1,q0,q1,r0,r1⟩ u h1 hl1 h2
  rw [← hR,← alAns_like e1 HZ.out e2]
  exact h)
 clear hR hRD hRE hrok hnR hmR hbd
 obtain ⟨dM,dN,dO,dP,dQ,dR,dS,dT,dU,dV,c9⟩:=kD.out.c11 0 rfl
 go_upto_region 8 with fail
 clear dM dN dO dP dQ dR dS dT dU dV c9
 go_cut [6,7,8] (fun vl ptr vb wx=>∃ LA lc y bO cO blk A n c B m d,vl = .slice LA nR lc ∧ ptr = .pointer (some ⟨blk,0,none⟩) ∧ vb = .bool rok ∧ dts y = RD ∧ y.length = nR ∧ lensL y = mR ∧ Lks LA nR lc y bO cO ∧ St W wx ((W.heap.size,[.int .i64 A1,.int .i64 B1,.bool P1.s,p10,p11,.bool Q1.s,q10,q11,.bool R1.s,r10,r11]) :: (blk,[.bool RE.s,.slice A n c,.slice B m d]) :: (bO)) ([(.slice A n c,ints RE.xs),(.slice B m d,ints RE.ys)] :: (cO)))
 case first=>
  have bG : ∀ (w' : World) (bs' : List (Nat × List Value)) (cs' : List Chunk),St W w' ((W.heap.size,[.int .i64 A1,.int .i64 B1,.bool P1.s,p10,p11,.bool Q1.s,q10,q11,.bool R1.s,r10,r11]) :: bs') cs' → w'.cell? ⟨W.heap.size,0,none⟩ = some (.int .i64 A1) ∧ w'.cell? ⟨W.heap.size,1,none⟩ = some (.int .i64 B1) ∧ w'.cell? ⟨W.heap.size,2,none⟩ = some (.bool P1.s) ∧ w'.cell? ⟨W.heap.size,3,none⟩ = some (p10) ∧ w'.cell? ⟨W.heap.size,4,none⟩ = some (p11) ∧ w'.cell? ⟨W.heap.size,5,none⟩ = some (.bool Q1.s) ∧ w'.cell? ⟨W.heap.size,6,none⟩ = some (q10) ∧ w'.cell? ⟨W.heap.size,7,none⟩ = some (q11) ∧ w'.cell? ⟨W.heap.size,8,none⟩ = some (.bool R1.s) ∧ w'.cell? ⟨W.heap.size,9,none⟩ = some (r10) ∧ w'.cell? ⟨W.heap.size,10,none⟩ = some (r11):=fun w' bs' cs' h=>(h.c11 0 rfl)
  refine (fun {G goal : Prop} (h1 : (True → G) → goal) (h2 : G)=>h1 (fun _=>h2)) (G:=?G4) (fun FIN=>?_) ?_
  case refine_1=>
   have SS:=Hd kD.out.drew
   refine wp_region_noPanic ?_
   refine wp_region_held_drew (S:=(fun w' =>w'.cell? ⟨W.heap.size,0,none⟩ = some (.int .i64 A1) ∧ w'.cell? ⟨W.heap.size,1,none⟩ = some (.int .i64 B1) ∧ w'.cell? ⟨W.heap.size,2,none⟩ = some (.bool P1.s) ∧ w'.cell? ⟨W.heap.size,3,none⟩ = some (p10) ∧ w'.cell? ⟨W.heap.size,4,none⟩ = some (p11) ∧ w'.cell? ⟨W.heap.size,5,none⟩ = some (.bool Q1.s) ∧ w'.cell? ⟨W.heap.size,6,none⟩ = some (q10) ∧ w'.cell? ⟨W.heap.size,7,none⟩ = some (q11) ∧ w'.cell? ⟨W.heap.size,8,none⟩ = some (.bool R1.s) ∧ w'.cell? ⟨W.heap.size,9,none⟩ = some (r10) ∧ w'.cell? ⟨W.heap.size,10,none⟩ = some (r11))) (by kernel_rfl) ?_ (fun aA=>?_)
   ·exact bG _ _ _ SS.out
   generalize hwd : World.drew _ = wd at SS aA ⊢
   clear hwd
   refine tI 0 rfl ?_ ?_ ?_
   rotate_left
   ·intro w9 aB; (try dsimp only at aB); go_simp; try with_reducible rfl
   try simp only [pm,s0,sS]
   refine tI 2 rfl ?_ ?_ ?_
   rotate_left
   ·intro w9 aB; (try dsimp only at aB); go_simp; try with_reducible rfl
   try simp only [pm,s0,sS]
   refine wpAnyH_ready (rs:=[1,9]) (by kernel_rfl) (by simp) ?_
   refine ac rfl ?_ ?_
   intro K hK
   go_simp
   go_at_call 8
   refine (toLinkS_any a0 len0 cap0 z0 _ (HA.out.below SS.out.below) HN.out).mono ?_
   rintro e f5 ⟨bt,yt,rfl,hyl,hlk,hst⟩
   rw [HZ.out] at hyl ⊢
   have hF:=Hd hyl
   have jV:=Hd hlk
   replace SS:=Hd (show St W f5 ((W.heap.size,[.int .i64 A1,.int .i64 B1,.bool P1.s,p10,p11,.bool Q1.s,q10,q11,.bool R1.s,r10,r11]) :: (bt,cellsL yt) :: ([])) (rowsL yt :: ([])) from (SS.out.comp hst).perm (List.perm_middle (l₁:=([(W.heap.size,[.int .i64 A1,.int .i64 B1,.bool P1.s,p10,p11,.bool Q1.s,q10,q11,.bool R1.s,r10,r11])] : List (Nat × List Value))) (a:=((bt,cellsL yt) : Nat × List Value)) (l₂:=(([]) : List (Nat × List Value)))) (List.Perm.refl _))
   clear hyl hlk hst
   refine hK.out _ _ (bG _ _ _ SS.out) (fun aA=>?_)
   clear hK K
   try simp only [pm,s0,sS]
   refine wpAnyH_ready (rs:=[3,9]) (by kernel_rfl) (by simp) ?_
   refine ac rfl ?_ ?_
   intro K hK
   go_simp
   go_at_call_of 9 (Value.agg #[Value.int .i64 A1,Value.int .i64 B1,Value.bool P1.s,p10,p11,Value.bool Q1.s,q10,q11,Value.bool R1.s,r10,r11])
   refine (toLink_f A1 B1 P1 Q1 R1 p10 p11 q10 q11 r10 r11 _ (SS.out.lkI HA1.out) HL1.out).mono ?_
   rintro e b9 ⟨jW,jX,jY,jZ,j0,j1,rfl,ho,hb⟩
   obtain ⟨bL,bM,bN,rfl⟩:=(ho.at_ 0 rfl).shape3
   obtain ⟨bP,bQ,bR,rfl⟩:=(ho.at_ 1 rfl).shape3
   obtain ⟨bS,bT,bU,rfl⟩:=(ho.at_ 2 rfl).shape3
   obtain ⟨bV,bW,bX,rfl⟩:=(ho.at_ 3 rfl).shape3
   obtain ⟨bY,bZ,b0,rfl⟩:=(ho.at_ 4 rfl).shape3
   obtain ⟨b1,b2,b3,rfl⟩:=(ho.at_ 5 rfl).shape3
   replace SS:=Hd (show St W b9 ((W.heap.size,[.int .i64 A1,.int .i64 B1,.bool P1.s,p10,p11,.bool Q1.s,q10,q11,.bool R1.s,r10,r11]) :: (bt,cellsL yt) :: ([])) (rowsK P1 Q1 R1 (.slice bL bM bN) (.slice bP bQ bR) (.slice bS bT bU) (.slice bV bW bX) (.slice bY bZ b0) (.slice b1 b2 b3) :: rowsL yt :: ([])) from SS.out.rows ho hb)
   clear ho hb
   refine hK.out _ _ (bG _ _ _ SS.out) (fun aA=>?_)
   clear hK K
   try simp only [pm,s0,sS]
   refine wpAnyH_ready (rs:=[4,9]) (by kernel_rfl) (by simp) ?_
   refine ac rfl ?_ ?_
   intro K hK
   go_simp
   go_at_call 7
   refine (HS.out (some ⟨bt,0,none⟩) len0 yt (.slice bL bM bN) (.slice bP bQ bR) (.slice bS bT bU) (.slice bV bW bX) (.slice bY bZ b0) (.slice b1 b2 b3) _ hF.out jV.out (hF.out ▸ SS.out.larg 1 1 rfl rfl) (SS.out.lk 0 rfl)).mono ?_
   intro e bJ ho
   obtain ⟨LAw,lcw,yw,bOw,cOw,Aw,nw,cw,Bw,mw,dw,rfl,hd,hyl,hml,hk,hst⟩:=HOA.out _ _ _ _ _ ho SS.out
   have f2:=Hd hd
   have cD:=Hd hyl
   have gI:=Hd hml
   have f4:=Hd hk
   replace SS:=Hd (show St W bJ ((W.heap.size,[.int .i64 A1,.int .i64 B1,.bool P1.s,p10,p11,.bool Q1.s,q10,q11,.bool R1.s,r10,r11]) :: (bt,cellsL yt) :: (bOw)) ([((.slice Aw nw cw),ints RE.xs),((.slice Bw mw dw),ints RE.ys)] :: rowsK P1 Q1 R1 (.slice bL bM bN) (.slice bP bQ bR) (.slice bS bT bU) (.slice bV bW bX) (.slice bY bZ b0) (.slice b1 b2 b3) :: rowsL yt :: (cOw)) from hst)
   replace SS:=Hd (show St W bJ ((W.heap.size,[.int .i64 A1,.int .i64 B1,.bool P1.s,p10,p11,.bool Q1.s,q10,q11,.bool R1.s,r10,r11]) :: (bOw)) ([((.slice Aw nw cw),ints RE.xs),((.slice Bw mw dw),ints RE.ys)] :: (cOw)) from ((SS.out.dropBox 1).drop 1).drop 1)
   clear hd hyl hml hk hst ho
   refine hK.out _ _ (bG _ _ _ SS.out) (fun aA=>?_)
   clear hK K
   try simp only [pm,s0,sS]
   refine tI 5 rfl ?_ ?_ ?_
   rotate_left
   ·intro w9 aB; (try dsimp only at aB); go_simp; try with_reducible rfl
   try simp only [pm,s0,sS]
   refine tI 6 rfl ?_ ?_ ?_
   rotate_left
   ·intro w9 aB; (try dsimp only at aB); go_simp; try with_reducible rfl
   try simp only [pm,s0,sS]
   refine tI 7 rfl ?_ ?_ ?_
   rotate_left
   ·intro w9 aB; (try dsimp only at aB); go_simp; try with_reducible rfl
   try simp only [pm,s0,sS]
   refine tI 8 rfl ?_ ?_ ?_
   rotate_left
   ·intro w9 aB; (try dsimp only at aB); go_simp; try with_reducible rfl
   try simp only [pm,s0,sS]
   refine wpAnyH_ready (rs:=[9]) (by kernel_rfl) (by simp) ?_
   refine ac rfl ?_ ?_
   intro K hK
   go_simp
   replace SS:=Hd (show St W (World.alloc bJ (.cells #[.bool false,.slice none 0 0,.slice none 0 0] 35)) ((W.heap.size,[.int .i64 A1,.int .i64 B1,.bool P1.s,p10,p11,.bool Q1.s,q10,q11,.bool R1.s,r10,r11]) :: (Array.size (World.heap bJ),[.bool false,.slice none 0 0,.slice none 0 0]) :: (bOw)) ([((.slice Aw nw cw),ints RE.xs),((.slice Bw mw dw),ints RE.ys)] :: (cOw)) from (SS.out.alloc [.bool false,.slice none 0 0,.slice none 0 0] 35).perm (List.perm_middle (l₁:=([(W.heap.size,[.int .i64 A1,.int .i64 B1,.bool P1.s,p10,p11,.bool Q1.s,q10,q11,.bool R1.s,r10,r11])] : List (Nat × List Value))) (a:=((Array.size (World.heap bJ),[.bool false,.slice none 0 0,.slice none 0 0]) : Nat × List Value)) (l₂:=((bOw) : List (Nat × List Value)))) (List.Perm.refl _))
   generalize hbk : Array.size (World.heap bJ) = bkw at SS ⊢
   clear hbk
   generalize hwa : World.alloc _ _ = eK at SS ⊢
   clear hwa
   refine hK.out _ _ (bG _ _ _ SS.out) (fun aA=>?_)
   clear hK K
   try simp only [pm,s0,sS]
   refine tI 10 rfl ?_ ?_ ?_
   rotate_left
   ·intro w9 aB; (try dsimp only at aB); go_simp; try with_reducible rfl
   try simp only [pm,s0,sS]
   clear aA
   revert SS; revert f2 cD gI f4; revert eK; revert bkw; revert LAw lcw yw bOw cOw Aw nw cw Bw mw dw; revert bt bL bM bN bP bQ bR bS bT bU bV bW bX bY bZ b0 b1 b2 b3
   exact FIN trivial
   exact AllReadyH.nil
   refine ac rfl ?_ ?_
   intro K hK
   go_simp
   replace SS:=Hd (show St W (World.alloc b9 (.cells #[.bool false,.slice none 0 0,.slice none 0 0] 35)) ((W.heap.size,[.int .i64 A1,.int .i64 B1,.bool P1.s,p10,p11,.bool Q1.s,q10,q11,.bool R1.s,r10,r11]) :: (Array.size (World.heap b9),[.bool false,.slice none 0 0,.slice none 0 0]) :: (bt,cellsL yt) :: ([])) (rowsK P1 Q1 R1 (.slice bL bM bN) (.slice bP bQ bR) (.slice bS bT bU) (.slice bV bW bX) (.slice bY bZ b0) (.slice b1 b2 b3) :: rowsL yt :: ([])) from (SS.out.alloc [.bool false,.slice none 0 0,.slice none 0 0] 35).perm (List.perm_middle (l₁:=([(W.heap.size,[.int .i64 A1,.int .i64 B1,.bool P1.s,p10,p11,.bool Q1.s,q10,q11,.bool R1.s,r10,r11])] : List (Nat × List Value))) (a:=((Array.size (World.heap b9),[.bool false,.slice none 0 0,.slice none 0 0]) : Nat × List Value)) (l₂:=((bt,cellsL yt) :: ([]) : List (Nat × List Value)))) (List.Perm.refl _))
   generalize hbk : Array.size (World.heap b9) = bkw at SS ⊢
   clear hbk
   generalize hwa : World.alloc _ _ = j2 at SS ⊢
   clear hwa
   refine hK.out _ _ (bG _ _ _ SS.out) (fun aA=>?_)
   clear hK K
   try simp only [pm,s0,sS]
   refine wpAnyH_ready (rs:=[4]) (by kernel_rfl) (by simp) ?_
   refine ac rfl ?_ ?_
   intro K hK
   go_simp
   go_at_call 7
   refine (HS.out (some ⟨bt,0,none⟩) len0 yt (.slice bL bM bN) (.slice bP bQ bR) (.slice bS bT bU) (.slice bV bW bX) (.slice bY bZ b0) (.slice b1 b2 b3) _ hF.out jV.out (hF.out ▸ SS.out.larg 2 1 rfl rfl) (SS.out.lk 0 rfl)).mono ?_
   intro e b6 ho
   obtain ⟨LAw,lcw,yw,bOw,cOw,Aw,nw,cw,Bw,mw,dw,rfl,hd,hyl,hml,hk,hst⟩:=HOA.out _ _ _ _ _ ho SS.out
   have f2:=Hd hd
   have cD:=Hd hyl
   have gI:=Hd hml
   have f4:=Hd hk
   replace SS:=Hd (show St W b6 ((W.heap.size,[.int .i64 A1,.int .i64 B1,.bool P1.s,p10,p11,.bool Q1.s,q10,q11,.bool R1.s,r10,r11]) :: (bkw,[.bool false,.slice none 0 0,.slice none 0 0]) :: (bt,cellsL yt) :: (bOw)) ([((.slice Aw nw cw),ints RE.xs),((.slice Bw mw dw),ints RE.ys)] :: rowsK P1 Q1 R1 (.slice bL bM bN) (.slice bP bQ bR) (.slice bS bT bU) (.slice bV bW bX) (.slice bY bZ b0) (.slice b1 b2 b3) :: rowsL yt :: (cOw)) from hst)
   replace SS:=Hd (show St W b6 ((W.heap.size,[.int .i64 A1,.int .i64 B1,.bool P1.s,p10,p11,.bool Q1.s,q10,q11,.bool R1.s,r10,r11]) :: (bkw,[.bool false,.slice none 0 0,.slice none 0 0]) :: (bOw)) ([((.slice Aw nw cw),ints RE.xs),((.slice Bw mw dw),ints RE.ys)] :: (cOw)) from ((SS.out.dropBox 2).drop 1).drop 1)
   clear hd hyl hml hk hst ho
   refine hK.out _ _ (bG _ _ _ SS.out) (fun aA=>?_)
   clear hK K
   try simp only [pm,s0,sS]
   refine tI 5 rfl ?_ ?_ ?_
   rotate_left
   ·intro w9 aB; (try dsimp only at aB); go_simp; try with_reducible rfl
   try simp only [pm,s0,sS]
   refine tI 6 rfl ?_ ?_ ?_
   rotate_left
   ·intro w9 aB; (try dsimp only at aB); go_simp; try with_reducible rfl
   try simp only [pm,s0,sS]
   refine tI 7 rfl ?_ ?_ ?_
   rotate_left
   ·intro w9 aB; (try dsimp only at aB); go_simp; try with_reducible rfl
   try simp only [pm,s0,sS]
   refine tI 8 rfl ?_ ?_ ?_
   rotate_left
   ·intro w9 aB; (try dsimp only at aB); go_simp; try with_reducible rfl
   try simp only [pm,s0,sS]
   refine tI 10 rfl ?_ ?_ ?_
   rotate_left
   ·intro w9 aB; (try dsimp only at aB); go_simp; try with_reducible rfl
   try simp only [pm,s0,sS]
   clear aA
   revert SS; revert f2 cD gI f4; revert b6; revert bkw; revert LAw lcw yw bOw cOw Aw nw cw Bw mw dw; revert bt bL bM bN bP bQ bR bS bT bU bV bW bX bY bZ b0 b1 b2 b3
   exact FIN trivial
   exact AllReadyH.nil
   exact AllReadyH.nil
   refine ac rfl ?_ ?_
   intro K hK
   go_simp
   replace SS:=Hd (show St W (World.alloc f5 (.cells #[.bool false,.slice none 0 0,.slice none 0 0] 35)) ((W.heap.size,[.int .i64 A1,.int .i64 B1,.bool P1.s,p10,p11,.bool Q1.s,q10,q11,.bool R1.s,r10,r11]) :: (Array.size (World.heap f5),[.bool false,.slice none 0 0,.slice none 0 0]) :: (bt,cellsL yt) :: ([])) (rowsL yt :: ([])) from (SS.out.alloc [.bool false,.slice none 0 0,.slice none 0 0] 35).perm (List.perm_middle (l₁:=([(W.heap.size,[.int .i64 A1,.int .i64 B1,.bool P1.s,p10,p11,.bool Q1.s,q10,q11,.bool R1.s,r10,r11])] : List (Nat × List Value))) (a:=((Array.size (World.heap f5),[.bool false,.slice none 0 0,.slice none 0 0]) : Nat × List Value)) (l₂:=((bt,cellsL yt) :: ([]) : List (Nat × List Value)))) (List.Perm.refl _))
   generalize hbk : Array.size (World.heap f5) = bkw at SS ⊢
   clear hbk
   generalize hwa : World.alloc _ _ = kO at SS ⊢
   clear hwa
   refine hK.out _ _ (bG _ _ _ SS.out) (fun aA=>?_)
   clear hK K
   try simp only [pm,s0,sS]
   refine wpAnyH_ready (rs:=[3]) (by kernel_rfl) (by simp) ?_
   refine ac rfl ?_ ?_
   intro K hK
   go_simp
   go_at_call_of 9 (Value.agg #[Value.int .i64 A1,Value.int .i64 B1,Value.bool P1.s,p10,p11,Value.bool Q1.s,q10,q11,Value.bool R1.s,r10,r11])
   refine (toLink_f A1 B1 P1 Q1 R1 p10 p11 q10 q11 r10 r11 _ (SS.out.lkI HA1.out) HL1.out).mono ?_
   rintro e f6 ⟨jW,jX,jY,jZ,j0,j1,rfl,ho,hb⟩
   obtain ⟨bL,bM,bN,rfl⟩:=(ho.at_ 0 rfl).shape3
   obtain ⟨bP,bQ,bR,rfl⟩:=(ho.at_ 1 rfl).shape3
   obtain ⟨bS,bT,bU,rfl⟩:=(ho.at_ 2 rfl).shape3
   obtain ⟨bV,bW,bX,rfl⟩:=(ho.at_ 3 rfl).shape3
   obtain ⟨bY,bZ,b0,rfl⟩:=(ho.at_ 4 rfl).shape3
   obtain ⟨b1,b2,b3,rfl⟩:=(ho.at_ 5 rfl).shape3
   replace SS:=Hd (show St W f6 ((W.heap.size,[.int .i64 A1,.int .i64 B1,.bool P1.s,p10,p11,.bool Q1.s,q10,q11,.bool R1.s,r10,r11]) :: (bkw,[.bool false,.slice none 0 0,.slice none 0 0]) :: (bt,cellsL yt) :: ([])) (rowsK P1 Q1 R1 (.slice bL bM bN) (.slice bP bQ bR) (.slice bS bT bU) (.slice bV bW bX) (.slice bY bZ b0) (.slice b1 b2 b3) :: rowsL yt :: ([])) from SS.out.rows ho hb)
   clear ho hb
   refine hK.out _ _ (bG _ _ _ SS.out) (fun aA=>?_)
   clear hK K
   try simp only [pm,s0,sS]
   refine wpAnyH_ready (rs:=[4]) (by kernel_rfl) (by simp) ?_
   refine ac rfl ?_ ?_
   intro K hK
   go_simp
   go_at_call 7
   refine (HS.out (some ⟨bt,0,none⟩) len0 yt (.slice bL bM bN) (.slice bP bQ bR) (.slice bS bT bU) (.slice bV bW bX) (.slice bY bZ b0) (.slice b1 b2 b3) _ hF.out jV.out (hF.out ▸ SS.out.larg 2 1 rfl rfl) (SS.out.lk 0 rfl)).mono ?_
   intro e b7 ho
   obtain ⟨LAw,lcw,yw,bOw,cOw,Aw,nw,cw,Bw,mw,dw,rfl,hd,hyl,hml,hk,hst⟩:=HOA.out _ _ _ _ _ ho SS.out
   have f2:=Hd hd
   have cD:=Hd hyl
   have gI:=Hd hml
   have f4:=Hd hk
   replace SS:=Hd (show St W b7 ((W.heap.size,[.int .i64 A1,.int .i64 B1,.bool P1.s,p10,p11,.bool Q1.s,q10,q11,.bool R1.s,r10,r11]) :: (bkw,[.bool false,.slice none 0 0,.slice none 0 0]) :: (bt,cellsL yt) :: (bOw)) ([((.slice Aw nw cw),ints RE.xs),((.slice Bw mw dw),ints RE.ys)] :: rowsK P1 Q1 R1 (.slice bL bM bN) (.slice bP bQ bR) (.slice bS bT bU) (.slice bV bW bX) (.slice bY bZ b0) (.slice b1 b2 b3) :: rowsL yt :: (cOw)) from hst)
   replace SS:=Hd (show St W b7 ((W.heap.size,[.int .i64 A1,.int .i64 B1,.bool P1.s,p10,p11,.bool Q1.s,q10,q11,.bool R1.s,r10,r11]) :: (bkw,[.bool false,.slice none 0 0,.slice none 0 0]) :: (bOw)) ([((.slice Aw nw cw),ints RE.xs),((.slice Bw mw dw),ints RE.ys)] :: (cOw)) from ((SS.out.dropBox 2).drop 1).drop 1)
   clear hd hyl hml hk hst ho
   refine hK.out _ _ (bG _ _ _ SS.out) (fun aA=>?_)
   clear hK K
   try simp only [pm,s0,sS]
   refine tI 5 rfl ?_ ?_ ?_
   rotate_left
   ·intro w9 aB; (try dsimp only at aB); go_simp; try with_reducible rfl
   try simp only [pm,s0,sS]
   refine tI 6 rfl ?_ ?_ ?_
   rotate_left
   ·intro w9 aB; (try dsimp only at aB); go_simp; try with_reducible rfl
   try simp only [pm,s0,sS]
   refine tI 7 rfl ?_ ?_ ?_
   rotate_left
   ·intro w9 aB; (try dsimp only at aB); go_simp; try with_reducible rfl
   try simp only [pm,s0,sS]
   refine tI 8 rfl ?_ ?_ ?_
   rotate_left
   ·intro w9 aB; (try dsimp only at aB); go_simp; try with_reducible rfl
   try simp only [pm,s0,sS]
   refine tI 10 rfl ?_ ?_ ?_
   rotate_left
   ·intro w9 aB; (try dsimp only at aB); go_simp; try with_reducible rfl
   try simp only [pm,s0,sS]
   clear aA
   revert SS; revert f2 cD gI f4; revert b7; revert bkw; revert LAw lcw yw bOw cOw Aw nw cw Bw mw dw; revert bt bL bM bN bP bQ bR bS bT bU bV bW bX bY bZ b0 b1 b2 b3
   exact FIN trivial
   exact AllReadyH.nil
   exact AllReadyH.nil
   exact AllReadyH.nil
   refine ac rfl ?_ ?_
   intro K hK
   go_simp
   replace SS:=Hd (show St W (World.alloc wd (.cells #[.bool false,.slice none 0 0,.slice none 0 0] 35)) ((W.heap.size,[.int .i64 A1,.int .i64 B1,.bool P1.s,p10,p11,.bool Q1.s,q10,q11,.bool R1.s,r10,r11]) :: (Array.size (World.heap wd),[.bool false,.slice none 0 0,.slice none 0 0]) :: ([])) (([])) from (SS.out.alloc [.bool false,.slice none 0 0,.slice none 0 0] 35).perm (List.perm_middle (l₁:=([(W.heap.size,[.int .i64 A1,.int .i64 B1,.bool P1.s,p10,p11,.bool Q1.s,q10,q11,.bool R1.s,r10,r11])] : List (Nat × List Value))) (a:=((Array.size (World.heap wd),[.bool false,.slice none 0 0,.slice none 0 0]) : Nat × List Value)) (l₂:=(([]) : List (Nat × List Value)))) (List.Perm.refl _))
   generalize hbk : Array.size (World.heap wd) = bkw at SS ⊢
   clear hbk
   generalize hwa : World.alloc _ _ = lL at SS ⊢
   clear hwa
   refine hK.out _ _ (bG _ _ _ SS.out) (fun aA=>?_)
   clear hK K
   try simp only [pm,s0,sS]
   refine wpAnyH_ready (rs:=[1]) (by kernel_rfl) (by simp) ?_
   refine ac rfl ?_ ?_
   intro K hK
   go_simp
   go_at_call 8
   refine (toLinkS_any a0 len0 cap0 z0 _ (HA.out.below SS.out.below) HN.out).mono ?_
   rintro e i3 ⟨bt,yt,rfl,hyl,hlk,hst⟩
   rw [HZ.out] at hyl ⊢
   have hF:=Hd hyl
   have jV:=Hd hlk
   replace SS:=Hd (show St W i3 ((W.heap.size,[.int .i64 A1,.int .i64 B1,.bool P1.s,p10,p11,.bool Q1.s,q10,q11,.bool R1.s,r10,r11]) :: (bt,cellsL yt) :: (bkw,[.bool false,.slice none 0 0,.slice none 0 0]) :: ([])) (rowsL yt :: ([])) from (SS.out.comp hst).perm (List.perm_middle (l₁:=([(W.heap.size,[.int .i64 A1,.int .i64 B1,.bool P1.s,p10,p11,.bool Q1.s,q10,q11,.bool R1.s,r10,r11])] : List (Nat × List Value))) (a:=((bt,cellsL yt) : Nat × List Value)) (l₂:=((bkw,[.bool false,.slice none 0 0,.slice none 0 0]) :: ([]) : List (Nat × List Value)))) (List.Perm.refl _))
   clear hyl hlk hst
   refine hK.out _ _ (bG _ _ _ SS.out) (fun aA=>?_)
   clear hK K
   try simp only [pm,s0,sS]
   refine wpAnyH_ready (rs:=[3]) (by kernel_rfl) (by simp) ?_
   refine ac rfl ?_ ?_
   intro K hK
   go_simp
   go_at_call_of 9 (Value.agg #[Value.int .i64 A1,Value.int .i64 B1,Value.bool P1.s,p10,p11,Value.bool Q1.s,q10,q11,Value.bool R1.s,r10,r11])
   refine (toLink_f A1 B1 P1 Q1 R1 p10 p11 q10 q11 r10 r11 _ (SS.out.lkI HA1.out) HL1.out).mono ?_
   rintro e f7 ⟨jW,jX,jY,jZ,j0,j1,rfl,ho,hb⟩
   obtain ⟨bL,bM,bN,rfl⟩:=(ho.at_ 0 rfl).shape3
   obtain ⟨bP,bQ,bR,rfl⟩:=(ho.at_ 1 rfl).shape3
   obtain ⟨bS,bT,bU,rfl⟩:=(ho.at_ 2 rfl).shape3
   obtain ⟨bV,bW,bX,rfl⟩:=(ho.at_ 3 rfl).shape3
   obtain ⟨bY,bZ,b0,rfl⟩:=(ho.at_ 4 rfl).shape3
   obtain ⟨b1,b2,b3,rfl⟩:=(ho.at_ 5 rfl).shape3
   replace SS:=Hd (show St W f7 ((W.heap.size,[.int .i64 A1,.int .i64 B1,.bool P1.s,p10,p11,.bool Q1.s,q10,q11,.bool R1.s,r10,r11]) :: (bt,cellsL yt) :: (bkw,[.bool false,.slice none 0 0,.slice none 0 0]) :: ([])) (rowsK P1 Q1 R1 (.slice bL bM bN) (.slice bP bQ bR) (.slice bS bT bU) (.slice bV bW bX) (.slice bY bZ b0) (.slice b1 b2 b3) :: rowsL yt :: ([])) from SS.out.rows ho hb)
   clear ho hb
   refine hK.out _ _ (bG _ _ _ SS.out) (fun aA=>?_)
   clear hK K
   try simp only [pm,s0,sS]
   refine wpAnyH_ready (rs:=[4]) (by kernel_rfl) (by simp) ?_
   refine ac rfl ?_ ?_
   intro K hK
   go_simp
   go_at_call 7
   refine (HS.out (some ⟨bt,0,none⟩) len0 yt (.slice bL bM bN) (.slice bP bQ bR) (.slice bS bT bU) (.slice bV bW bX) (.slice bY bZ b0) (.slice b1 b2 b3) _ hF.out jV.out (hF.out ▸ SS.out.larg 1 1 rfl rfl) (SS.out.lk 0 rfl)).mono ?_
   intro e b8 ho
   obtain ⟨LAw,lcw,yw,bOw,cOw,Aw,nw,cw,Bw,mw,dw,rfl,hd,hyl,hml,hk,hst⟩:=HOA.out _ _ _ _ _ ho SS.out
   have f2:=Hd hd
   have cD:=Hd hyl
   have gI:=Hd hml
   have f4:=Hd hk
   replace SS:=Hd (show St W b8 ((W.heap.size,[.int .i64 A1,.int .i64 B1,.bool P1.s,p10,p11,.bool Q1.s,q10,q11,.bool R1.s,r10,r11]) :: (bt,cellsL yt) :: (bkw,[.bool false,.slice none 0 0,.slice none 0 0]) :: (bOw)) ([((.slice Aw nw cw),ints RE.xs),((.slice Bw mw dw),ints RE.ys)] :: rowsK P1 Q1 R1 (.slice bL bM bN) (.slice bP bQ bR) (.slice bS bT bU) (.slice bV bW bX) (.slice bY bZ b0) (.slice b1 b2 b3) :: rowsL yt :: (cOw)) from hst)
   replace SS:=Hd (show St W b8 ((W.heap.size,[.int .i64 A1,.int .i64 B1,.bool P1.s,p10,p11,.bool Q1.s,q10,q11,.bool R1.s,r10,r11]) :: (bkw,[.bool false,.slice none 0 0,.slice none 0 0]) :: (bOw)) ([((.slice Aw nw cw),ints RE.xs),((.slice Bw mw dw),ints RE.ys)] :: (cOw)) from ((SS.out.dropBox 1).drop 1).drop 1)
   clear hd hyl hml hk hst ho
   refine hK.out _ _ (bG _ _ _ SS.out) (fun aA=>?_)
   clear hK K
   try simp only [pm,s0,sS]
   refine tI 5 rfl ?_ ?_ ?_
   rotate_left
   ·intro w9 aB; (try dsimp only at aB); go_simp; try with_reducible rfl
   try simp only [pm,s0,sS]
   refine tI 6 rfl ?_ ?_ ?_
   rotate_left
   ·intro w9 aB; (try dsimp only at aB); go_simp; try with_reducible rfl
   try simp only [pm,s0,sS]
   refine tI 7 rfl ?_ ?_ ?_
   rotate_left
   ·intro w9 aB; (try dsimp only at aB); go_simp; try with_reducible rfl
   try simp only [pm,s0,sS]
   refine tI 8 rfl ?_ ?_ ?_
   rotate_left
   ·intro w9 aB; (try dsimp only at aB); go_simp; try with_reducible rfl
   try simp only [pm,s0,sS]
   refine tI 10 rfl ?_ ?_ ?_
   rotate_left
   ·intro w9 aB; (try dsimp only at aB); go_simp; try with_reducible rfl
   try simp only [pm,s0,sS]
   clear aA
   revert SS; revert f2 cD gI f4; revert b8; revert bkw; revert LAw lcw yw bOw cOw Aw nw cw Bw mw dw; revert bt bL bM bN bP bQ bR bS bT bU bV bW bX bY bZ b0 b1 b2 b3
   exact FIN trivial
   exact AllReadyH.nil
   exact AllReadyH.nil
   exact AllReadyH.nil
   exact AllReadyH.nil
  intro bt bL bM bN bP bQ bR bS bT bU bV bW bX bY bZ b0 b1 b2 b3 LAw lcw yw bOw cOw Aw nw cw Bw mw dw bkw wq f2 cD gI f4 SS
  have aA:=bG _ _ _ SS.out
  refine wpAnyH_ready (rs:=[11]) (by kernel_rfl) (by simp) ?_
  refine ac rfl ?_ ?_
  rotate_left
  exact AllReadyH.nil
  intro K hK
  rw [if_pos (by rfl)]
  refine wp_store_mid _ _ _ rfl _ _ (List.toArray [.bool RE.s,(.slice Aw nw cw),(.slice Bw mw dw)]) rfl rfl (SS.out.there_ 1 rfl rfl) (size_rat) (all_oneCell_toArray (List.all_eq_true.mp rfl)) ?_
  simp only [Act.put]
  replace SS:=Hd (SS.out.setKit 1 [.bool RE.s,(.slice Aw nw cw),(.slice Bw mw dw)] rfl rfl)
  simp only [List.set_cons_zero,List.set_cons_succ] at SS
  generalize hwz : World.setCells _ _ _ _ = wz at SS ⊢
  clear hwz
  refine hK.out _ _ (bG _ _ _ SS.out) (fun aA=>?_)
  clear hK K
  try simp only [pm,s0,sS]
  refine tI 12 rfl ?_ ?_ ?_
  rotate_left
  ·intro w9 aB; (try dsimp only at aB); go_simp; try with_reducible rfl
  try simp only [pm,s0,sS]
  refine wpAnyH_done (by kernel_rfl) ?_ _
  refine NoPanic.normal ?_
  go_wp2_with fail
  go_meet
  exact ⟨LAw,lcw,yw,bOw,cOw,bkw,Aw,nw,cw,Bw,mw,dw,rfl,rfl,rfl,f2.out,cD.out,gI.out,f4.out,SS.out⟩
 obtain ⟨LAw,lcw,yw,bOw,cOw,bI,Aw,nw,cw,Bw,mw,dw,rfl,rfl,rfl,hd,hyl,hml,hk,hst⟩:=hcut
 have f2:=Hd hd
 have cD:=Hd hyl
 have gI:=Hd hml
 have f4:=Hd hk
 have c2:=Hd (show St W wc ((W.heap.size,[.int .i64 A1,.int .i64 B1,.bool P1.s,p10,p11,.bool Q1.s,q10,q11,.bool R1.s,r10,r11]) :: (bI,[.bool RE.s,(.slice Aw nw cw),(.slice Bw mw dw)]) :: (bOw)) ([((.slice Aw nw cw),ints RE.xs),((.slice Bw mw dw),ints RE.ys)] :: (cOw)) from hst)
 clear kD
 clear hst hd hyl hml hk
 have i4:=c2.out.ne 0 1 rfl rfl (by decide)
 have i5:=c2.out.ne 1 0 rfl rfl (by decide)
 obtain ⟨wnw,hwnw⟩ : ∃ u,wc = u:=⟨_,rfl⟩
 rw [hwnw] at c2 ⊢
 clear hwnw
 go_wp2_with fail
 refine (toLinkS_any a0 len0 cap0 z0 _ (HA.out.below c2.out.below) HN.out).mono ?_
 rintro e kP ⟨bx,yx,rfl,hyl,hlk,hst⟩
 rw [HZ.out] at hyl ⊢
 have jS:=Hd hyl
 have kQ:=Hd hlk
 have fW:=Hd (show St W kP ((bx,cellsL yx) :: (W.heap.size,[.int .i64 A1,.int .i64 B1,.bool P1.s,p10,p11,.bool Q1.s,q10,q11,.bool R1.s,r10,r11]) :: (bI,[.bool RE.s,(.slice Aw nw cw),(.slice Bw mw dw)]) :: (bOw)) (rowsL yx :: [((.slice Aw nw cw),ints RE.xs),((.slice Bw mw dw),ints RE.ys)] :: (cOw)) from c2.out.comp hst)
 clear c2
 clear hyl hlk hst
 obtain ⟨cE,cF,cG,cH,cI,cJ,cK,cL,cM,cN,cA⟩:=fW.out.c11 1 rfl
 go_wp2_with fail
 refine (toLink_f A1 B1 P1 Q1 R1 p10 p11 q10 q11 r10 r11 _ (fW.out.lkI HA1.out) HL1.out).mono ?_
 rintro e b4 ⟨k8,k9,lA,lB,lC,lD,rfl,ho,hb⟩
 obtain ⟨aE,aF,aG,rfl⟩:=(ho.at_ 0 rfl).shape3
 obtain ⟨aH,aI,aJ,rfl⟩:=(ho.at_ 1 rfl).shape3
 obtain ⟨aK,aL,aM,rfl⟩:=(ho.at_ 2 rfl).shape3
 obtain ⟨aN,aO,aP,rfl⟩:=(ho.at_ 3 rfl).shape3
 obtain ⟨aQ,aR,aS,rfl⟩:=(ho.at_ 4 rfl).shape3
 obtain ⟨aT,aU,aV,rfl⟩:=(ho.at_ 5 rfl).shape3
 have hL:=Hd (show St W b4 ((bx,cellsL yx) :: (W.heap.size,[.int .i64 A1,.int .i64 B1,.bool P1.s,p10,p11,.bool Q1.s,q10,q11,.bool R1.s,r10,r11]) :: (bI,[.bool RE.s,(.slice Aw nw cw),(.slice Bw mw dw)]) :: (bOw)) (rowsK P1 Q1 R1 (.slice aE aF aG) (.slice aH aI aJ) (.slice aK aL aM) (.slice aN aO aP) (.slice aQ aR aS) (.slice aT aU aV) :: rowsL yx :: [((.slice Aw nw cw),ints RE.xs),((.slice Bw mw dw),ints RE.ys)] :: (cOw)) from fW.out.rows ho hb)
 clear fW
 clear ho hb
 clear cE cF cG cH cI cJ cK cL cM cN cA
 have b5:=Hd (hL.out.alloc [.int .i64 A1,.int .i64 B1,.bool P1.s,(.slice aE aF aG),(.slice aH aI aJ),.bool Q1.s,(.slice aK aL aM),(.slice aN aO aP),.bool R1.s,(.slice aQ aR aS),(.slice aT aU aV)] 40)
 clear hL
 have j3:=b5.out.ne 1 0 rfl rfl (by decide)
 have j4:=b5.out.ne 0 1 rfl rfl (by decide)
 have hM:=b5.out.ne 2 0 rfl rfl (by decide)
 have hN:=b5.out.ne 0 2 rfl rfl (by decide)
 have j5:=b5.out.ne 3 0 rfl rfl (by decide)
 have j6:=b5.out.ne 0 3 rfl rfl (by decide)
 obtain ⟨dW,dX,dY,dZ,d2,d3,d4,d5,d6,d7,dA⟩:=b5.out.c11 0 rfl
 go_wp2_with fail
 clear dW dX dY dZ d2 d3 d4 d5 d6 d7 dA
 refine (HI.out (some ⟨bx,0,none⟩) len0 yx (.slice aE aF aG) (.slice aH aI aJ) (.slice aK aL aM) (.slice aN aO aP) (.slice aQ aR aS) (.slice aT aU aV) _ jS.out kQ.out (jS.out ▸ b5.out.larg 1 1 rfl rfl) (b5.out.lk 0 rfl)).mono ?_
 intro e aD ho
 obtain ⟨LAg,lcg,yg,bOg,cOg,Ag,ng,cg,Bg,mg,dg,rfl,hd,hyl,hml,hk,hst⟩:=HOA.out _ _ _ _ _ ho b5.out
 have lE:=Hd hd
 have j7:=Hd hyl
 have jT:=Hd hml
 have kR:=Hd hk
 have hO:=Hd (show St W aD ((b4.heap.size,[.int .i64 A1,.int .i64 B1,.bool P1.s,(.slice aE aF aG),(.slice aH aI aJ),.bool Q1.s,(.slice aK aL aM),(.slice aN aO aP),.bool R1.s,(.slice aQ aR aS),(.slice aT aU aV)]) :: (bx,cellsL yx) :: (W.heap.size,[.int .i64 A1,.int .i64 B1,.bool P1.s,p10,p11,.bool Q1.s,q10,q11,.bool R1.s,r10,r11]) :: (bI,[.bool RE.s,(.slice Aw nw cw),(.slice Bw mw dw)]) :: (bOw ++ bOg)) ([((.slice Ag ng cg),ints RE.xs),((.slice Bg mg dg),ints RE.ys)] :: rowsK P1 Q1 R1 (.slice aE aF aG) (.slice aH aI aJ) (.slice aK aL aM) (.slice aN aO aP) (.slice aQ aR aS) (.slice aT aU aV) :: rowsL yx :: [((.slice Aw nw cw),ints RE.xs),((.slice Bw mw dw),ints RE.ys)] :: (cOw ++ cOg)) from hst)
 clear b5
 clear hd hyl hml hk hst ho
 have bH:=Hd (hO.out.alloc [.bool RE.s,(.slice Ag ng cg),(.slice Bg mg dg)] 35)
 clear hO
 have j8:=bH.out.ne 1 0 rfl rfl (by decide)
 have j9:=bH.out.ne 0 1 rfl rfl (by decide)
 have kE:=bH.out.ne 2 0 rfl rfl (by decide)
 have kF:=bH.out.ne 0 2 rfl rfl (by decide)
 have i6:=bH.out.ne 3 0 rfl rfl (by decide)
 have i7:=bH.out.ne 0 3 rfl rfl (by decide)
 have kG:=bH.out.ne 4 0 rfl rfl (by decide)
 have kH:=bH.out.ne 0 4 rfl rfl (by decide)
 obtain ⟨eL,eM,eN⟩:=bH.out.c3 0 rfl
 obtain ⟨eO,eP,eQ⟩:=bH.out.c3 4 rfl
 go_wp2_with fail
 refine (eqLinkS_same LAg LAw nR lcg lcw yg yw _ (bH.out.lksRow kR.out (fun p hp=>by simp [hp]) (fun p hp=>by simp [hp])) (bH.out.lksRow f4.out (fun p hp=>by simp [hp]) (fun p hp=>by simp [hp])) (like_dts (lE.out.trans f2.out.symm)) (by omega)).mono ?_
 rintro e lM ⟨rfl,hb⟩
 have c4:=Hd (bH.out.call hb)
 clear bH
 clear hb
 clear eL eM eN eO eP eQ
 obtain ⟨eR,eS,eT⟩:=c4.out.c3 0 rfl
 obtain ⟨eU,eV,eW⟩:=c4.out.c3 4 rfl
 go_wp2_with fail
 refine (eqRat_f RE (.slice Ag ng cg) (.slice Bg mg dg) _ (.slice Aw nw cw) (.slice Bw mw dw) (c4.out.fr 0 0 rfl rfl rfl).i (c4.out.fr 3 0 rfl rfl rfl).i).mono ?_
 rintro e lN ⟨rfl,hb⟩
 have f8:=Hd (c4.out.call hb)
 clear c4
 clear hb
 clear eR eS eT eU eV eW
 go_wp2_with fail
 refine (toLinkS_any a0 len0 cap0 z0 _ (HA.out.below f8.out.below) HN.out).mono ?_
 rintro e kS ⟨bu,yu,rfl,hyl,hlk,hst⟩
 rw [HZ.out] at hyl ⊢
 have lF:=Hd hyl
 have lO:=Hd hlk
 have fX:=Hd (show St W kS ((bu,cellsL yu) :: (aD.heap.size,[.bool RE.s,(.slice Ag ng cg),(.slice Bg mg dg)]) :: (b4.heap.size,[.int .i64 A1,.int .i64 B1,.bool P1.s,(.slice aE aF aG),(.slice aH aI aJ),.bool Q1.s,(.slice aK aL aM),(.slice aN aO aP),.bool R1.s,(.slice aQ aR aS),(.slice aT aU aV)]) :: (bx,cellsL yx) :: (W.heap.size,[.int .i64 A1,.int .i64 B1,.bool P1.s,p10,p11,.bool Q1.s,q10,q11,.bool R1.s,r10,r11]) :: (bI,[.bool RE.s,(.slice Aw nw cw),(.slice Bw mw dw)]) :: (bOw ++ bOg)) (rowsL yu :: [((.slice Ag ng cg),ints RE.xs),((.slice Bg mg dg),ints RE.ys)] :: rowsK P1 Q1 R1 (.slice aE aF aG) (.slice aH aI aJ) (.slice aK aL aM) (.slice aN aO aP) (.slice aQ aR aS) (.slice aT aU aV) :: rowsL yx :: [((.slice Aw nw cw),ints RE.xs),((.slice Bw mw dw),ints RE.ys)] :: (cOw ++ cOg)) from f8.out.comp hst)
 clear f8
 clear hyl hlk hst
 go_wp2_with fail
 refine (eqLinkS_same (some ⟨bx,0,none⟩) (some ⟨bu,0,none⟩) len0 len0 len0 yx yu _ (jS.out ▸ fX.out.lrow 3 3 rfl rfl) (lF.out ▸ fX.out.lrow 0 0 rfl rfl) (like_both jS.out lF.out HZ.out kQ.out lO.out) hl1).mono ?_
 rintro e kT ⟨rfl,hb⟩
 have hP:=Hd (fX.out.call hb)
 clear fX
 clear hb
 have d8:=Hd (show St W kT ((aD.heap.size,[.bool RE.s,(.slice Ag ng cg),(.slice Bg mg dg)]) :: (b4.heap.size,[.int .i64 A1,.int .i64 B1,.bool P1.s,(.slice aE aF aG),(.slice aH aI aJ),.bool Q1.s,(.slice aK aL aM),(.slice aN aO aP),.bool R1.s,(.slice aQ aR aS),(.slice aT aU aV)]) :: (bx,cellsL yx) :: (W.heap.size,[.int .i64 A1,.int .i64 B1,.bool P1.s,p10,p11,.bool Q1.s,q10,q11,.bool R1.s,r10,r11]) :: (bI,[.bool RE.s,(.slice Aw nw cw),(.slice Bw mw dw)]) :: (bOw ++ bOg)) ([((.slice Ag ng cg),ints RE.xs),((.slice Bg mg dg),ints RE.ys)] :: rowsK P1 Q1 R1 (.slice aE aF aG) (.slice aH aI aJ) (.slice aK aL aM) (.slice aN aO aP) (.slice aQ aR aS) (.slice aT aU aV) :: rowsL yx :: [((.slice Aw nw cw),ints RE.xs),((.slice Bw mw dw),ints RE.ys)] :: (cOw ++ cOg)) from ((hP.out.dropBox 0).drop 0))
 clear hP
 obtain ⟨hQ,hT,hU,hX,hY,hZ,h3,h4,h5,h6,hG⟩:=d8.out.c11 1 rfl
 obtain ⟨gJ,gK,gL,gM,gN,gO,gP,gQ,gR,gS,f9⟩:=d8.out.c11 3 rfl
 go_wp2
 go_region_held3 (fun w' =>w'.cell? ⟨b4.heap.size,0,none⟩ = some (.int .i64 A1) ∧ w'.cell? ⟨b4.heap.size,1,none⟩ = some (.int .i64 B1) ∧ w'.cell? ⟨b4.heap.size,2,none⟩ = some (.bool P1.s) ∧ w'.cell? ⟨b4.heap.size,3,none⟩ = some ((.slice aE aF aG)) ∧ w'.cell? ⟨b4.heap.size,4,none⟩ = some ((.slice aH aI aJ)) ∧ w'.cell? ⟨b4.heap.size,5,none⟩ = some (.bool Q1.s) ∧ w'.cell? ⟨b4.heap.size,6,none⟩ = some ((.slice aK aL aM)) ∧ w'.cell? ⟨b4.heap.size,7,none⟩ = some ((.slice aN aO aP)) ∧ w'.cell? ⟨b4.heap.size,8,none⟩ = some (.bool R1.s) ∧ w'.cell? ⟨b4.heap.size,9,none⟩ = some ((.slice aQ aR aS)) ∧ w'.cell? ⟨b4.heap.size,10,none⟩ = some ((.slice aT aU aV)) ∧ w'.cell? ⟨W.heap.size,0,none⟩ = some (.int .i64 A1) ∧ w'.cell? ⟨W.heap.size,1,none⟩ = some (.int .i64 B1) ∧ w'.cell? ⟨W.heap.size,2,none⟩ = some (.bool P1.s) ∧ w'.cell? ⟨W.heap.size,3,none⟩ = some (p10) ∧ w'.cell? ⟨W.heap.size,4,none⟩ = some (p11) ∧ w'.cell? ⟨W.heap.size,5,none⟩ = some (.bool Q1.s) ∧ w'.cell? ⟨W.heap.size,6,none⟩ = some (q10) ∧ w'.cell? ⟨W.heap.size,7,none⟩ = some (q11) ∧ w'.cell? ⟨W.heap.size,8,none⟩ = some (.bool R1.s) ∧ w'.cell? ⟨W.heap.size,9,none⟩ = some (r10) ∧ w'.cell? ⟨W.heap.size,10,none⟩ = some (r11)) (go_keep)
  (first
    |(go_at_call_of 9 (Value.agg #[Value.int .i64 A1,Value.int .i64 B1,Value.bool P1.s,p10,p11,Value.bool Q1.s,q10,q11,Value.bool R1.s,r10,r11])
      refine (toLink_f A1 B1 P1 Q1 R1 p10 p11 q10 q11 r10 r11 _ (d8.out.drew.lkI HA1.out) HL1.out).mono ?_
      rintro e lP ⟨kU,kV,kW,kX,kY,kZ,rfl,ho,hb⟩
      obtain ⟨i8,i9,jA,rfl⟩:=(ho.at_ 0 rfl).shape3
      obtain ⟨jB,jC,jD,rfl⟩:=(ho.at_ 1 rfl).shape3
      obtain ⟨jE,jF,jG,rfl⟩:=(ho.at_ 2 rfl).shape3
      obtain ⟨jH,jI,jJ,rfl⟩:=(ho.at_ 3 rfl).shape3
      obtain ⟨jK,jL,jM,rfl⟩:=(ho.at_ 4 rfl).shape3
      obtain ⟨jN,jO,jP,rfl⟩:=(ho.at_ 5 rfl).shape3
      have cB:=Hd (d8.out.drew.rows ho hb)
      clear d8 ho hb
      obtain ⟨h7,h8,iA,iB,iC,iD,iE,iF,iG,iH,hH⟩:=cB.out.c11 1 rfl
      obtain ⟨gT,gU,gV,gW,gX,gY,gZ,g0,g1,g2⟩:=cB.out.c10 3 rfl
      have gA:=cB.out.cell 3 10 rfl rfl)
    |(go_at_call 13
      refine (eqLink_f A1 B1 P1 Q1 R1 (.slice aE aF aG) (.slice aH aI aJ) (.slice aK aL aM) (.slice aN aO aP) (.slice aQ aR aS) (.slice aT aU aV) (.slice i8 i9 jA) (.slice jB jC jD) (.slice jE jF jG) (.slice jH jI jJ) (.slice jK jL jM) (.slice jN jO jP) _ (cB.out.lk 2 rfl).i (cB.out.lk 0 rfl).i).mono ?_
      rintro e kA ⟨rfl,hb⟩
      have d9:=Hd (cB.out.call hb)
      clear cB hb
      obtain ⟨iI,iJ,iK,iL,iM,iN,iO,iP,iQ,iR,hI⟩:=d9.out.c11 1 rfl
      obtain ⟨g3,g4,g5,g6,g7,g8,g9,hB,hC,hD⟩:=d9.out.c10 3 rfl
      have gB:=d9.out.cell 3 10 rfl rfl))
 have iS:=Hd (show St W kA ((aD.heap.size,[.bool RE.s,(.slice Ag ng cg),(.slice Bg mg dg)]) :: (b4.heap.size,[.int .i64 A1,.int .i64 B1,.bool P1.s,(.slice aE aF aG),(.slice aH aI aJ),.bool Q1.s,(.slice aK aL aM),(.slice aN aO aP),.bool R1.s,(.slice aQ aR aS),(.slice aT aU aV)]) :: (bx,cellsL yx) :: (W.heap.size,[.int .i64 A1,.int .i64 B1,.bool P1.s,p10,p11,.bool Q1.s,q10,q11,.bool R1.s,r10,r11]) :: (bI,[.bool RE.s,(.slice Aw nw cw),(.slice Bw mw dw)]) :: (bOw ++ bOg)) ([((.slice Ag ng cg),ints RE.xs),((.slice Bg mg dg),ints RE.ys)] :: rowsK P1 Q1 R1 (.slice aE aF aG) (.slice aH aI aJ) (.slice aK aL aM) (.slice aN aO aP) (.slice aQ aR aS) (.slice aT aU aV) :: rowsL yx :: [((.slice Aw nw cw),ints RE.xs),((.slice Bw mw dw),ints RE.ys)] :: (cOw ++ cOg)) from (d9.out.drop 0))
 clear d9
 go_wp2_with fail
 have iT:=Hd (show St W kA ((bx,cellsL yx) :: (aD.heap.size,[.bool RE.s,(.slice Ag ng cg),(.slice Bg mg dg)]) :: (b4.heap.size,[.int .i64 A1,.int .i64 B1,.bool P1.s,(.slice aE aF aG),(.slice aH aI aJ),.bool Q1.s,(.slice aK aL aM),(.slice aN aO aP),.bool R1.s,(.slice aQ aR aS),(.slice aT aU aV)]) :: (W.heap.size,[.int .i64 A1,.int .i64 B1,.bool P1.s,p10,p11,.bool Q1.s,q10,q11,.bool R1.s,r10,r11]) :: (bI,[.bool RE.s,(.slice Aw nw cw),(.slice Bw mw dw)]) :: (bOw ++ bOg)) (rowsL yx :: [((.slice Ag ng cg),ints RE.xs),((.slice Bg mg dg),ints RE.ys)] :: rowsK P1 Q1 R1 (.slice aE aF aG) (.slice aH aI aJ) (.slice aK aL aM) (.slice aN aO aP) (.slice aQ aR aS) (.slice aT aU aV) :: [((.slice Aw nw cw),ints RE.xs),((.slice Bw mw dw),ints RE.ys)] :: (cOw ++ cOg)) from iS.out.front 2 2 rfl rfl)
 clear iS
 have hll : lensL yx = lensL z0:=by rw [← lensD_dts yx,← lensD_dts z0,dts_like jS.out HZ.out kQ.out]
 refine (markLinkS_f bx len0 len0 1 1 (by rfl) yx W _ _ _ jS.out iT.out (by rw [hll]; have:=HN.out; omega)).mono ?_
 rintro e k3 ⟨rfl,hst⟩
 rw [hll]
 have fY:=Hd (show St W k3 ((aD.heap.size,[.bool RE.s,(.slice Ag ng cg),(.slice Bg mg dg)]) :: (b4.heap.size,[.int .i64 A1,.int .i64 B1,.bool P1.s,(.slice aE aF aG),(.slice aH aI aJ),.bool Q1.s,(.slice aK aL aM),(.slice aN aO aP),.bool R1.s,(.slice aQ aR aS),(.slice aT aU aV)]) :: (W.heap.size,[.int .i64 A1,.int .i64 B1,.bool P1.s,p10,p11,.bool Q1.s,q10,q11,.bool R1.s,r10,r11]) :: (bI,[.bool RE.s,(.slice Aw nw cw),(.slice Bw mw dw)]) :: (bOw ++ bOg)) ([((.slice Ag ng cg),ints RE.xs),((.slice Bg mg dg),ints RE.ys)] :: rowsK P1 Q1 R1 (.slice aE aF aG) (.slice aH aI aJ) (.slice aK aL aM) (.slice aN aO aP) (.slice aQ aR aS) (.slice aT aU aV) :: [((.slice Aw nw cw),ints RE.xs),((.slice Bw mw dw),ints RE.ys)] :: (cOw ++ cOg)) from (hst.dropBox 0).drop 0)
 clear iT
 clear hst hll
 obtain ⟨km,hkm⟩ : ∃ q : Nat,1 + 5 * len0 + lensL z0 = q:=⟨_,rfl⟩
 have hkmb : km ≤ 6291456:=by have:=HN.out; omega
 rw [hkm]
 clear hkm
 obtain ⟨eA,eB,eC,eD,eE,eF,eG,eH,eI,eJ,dB⟩:=fY.out.c11 1 rfl
 go_wp2_with fail
 obtain ⟨q0,hq0⟩ : ∃ z,lenL [((.slice aE aF aG),ints P1.xs),((.slice aH aI aJ),ints P1.ys),((.slice aK aL aM),ints Q1.xs),((.slice aN aO aP),ints Q1.ys),((.slice aQ aR aS),ints R1.xs),((.slice aT aU aV),ints R1.ys)] = z:=⟨_,rfl⟩
 have hbq0 : q0 ≤ 2097152:=by rw [← hq0]; simp only [lenL,ints_len]; have h9:=HL1.out; simp only [Fr.len] at h9; omega
 have Hq0:=Hd hq0
 clear hq0
 refine (markLink_f A1 B1 P1.s Q1.s R1.s (.slice aE aF aG) (.slice aH aI aJ) (.slice aK aL aM) (.slice aN aO aP) (.slice aQ aR aS) (.slice aT aU aV) (ints P1.xs) (ints P1.ys) (ints Q1.xs) (ints Q1.ys) (ints R1.xs) (ints R1.ys) _ (km) W.heap.size _ (by first | rfl | omega) (fY.out.own 1 rfl) (by rw [show lenL _ = q0 from Hq0.out]; omega)).mono ?_
 rintro e k4 ⟨rfl,ho,ht⟩
 rw [show lenL _ = q0 from Hq0.out]
 have iU:=Hd (fY.out.marked 1 rfl ho ht)
 clear fY
 clear ho ht
 clear eA eB eC eD eE eF eG eH eI eJ dB
 obtain ⟨k2,hk2⟩ : ∃ q : Nat,km + q0 = q:=⟨_,rfl⟩
 rw [hk2]
 have hk20 : decide ((k2 : Int) < 0) = false:=decide_eq_false (by omega)
 clear hk2
 have c5:=Hd (show St W k4 ((aD.heap.size,[.bool RE.s,(.slice Ag ng cg),(.slice Bg mg dg)]) :: (W.heap.size,[.int .i64 A1,.int .i64 B1,.bool P1.s,p10,p11,.bool Q1.s,q10,q11,.bool R1.s,r10,r11]) :: (bI,[.bool RE.s,(.slice Aw nw cw),(.slice Bw mw dw)]) :: (bOw ++ bOg)) ([((.slice Ag ng cg),ints RE.xs),((.slice Bg mg dg),ints RE.ys)] :: [((.slice Aw nw cw),ints RE.xs),((.slice Bw mw dw),ints RE.ys)] :: (cOw ++ cOg)) from ((iU.out.dropBox 1).drop 1))
 clear iU
 obtain ⟨eX,eY,eZ⟩:=c5.out.c3 0 rfl
 obtain ⟨e0,e3,e4⟩:=c5.out.c3 2 rfl
 go_wp2_with fail
 refine (eqLinkS_same LAg LAw nR lcg lcw yg yw _ (c5.out.lksRow kR.out (fun p hp=>by simp [hp]) (fun p hp=>by simp [hp])) (c5.out.lksRow f4.out (fun p hp=>by simp [hp]) (fun p hp=>by simp [hp])) (like_dts (lE.out.trans f2.out.symm)) (by omega)).mono ?_
 rintro e lQ ⟨rfl,hb⟩
 have c6:=Hd (c5.out.call hb)
 clear c5
 clear hb
 clear eX eY eZ e0 e3 e4
 obtain ⟨e5,e6,e7⟩:=c6.out.c3 0 rfl
 obtain ⟨e8,e9,fA⟩:=c6.out.c3 2 rfl
 go_wp2_with fail
 refine (eqRat_f RE (.slice Ag ng cg) (.slice Bg mg dg) _ (.slice Aw nw cw) (.slice Bw mw dw) (c6.out.fr 0 0 rfl rfl rfl).i (c6.out.fr 1 0 rfl rfl rfl).i).mono ?_
 rintro e k5 ⟨rfl,hb⟩
 have iV:=Hd (c6.out.call hb)
 clear c6
 clear hb
 clear e5 e6 e7 e8 e9 fA
 go_wp2_with fail
 refine (markLinkS_o LAg nR lcg 1 1 (by rfl) yg W _ bOg _ cOg _ kR.out (show St W k5 (((aD.heap.size,[.bool RE.s,(.slice Ag ng cg),(.slice Bg mg dg)]) :: (W.heap.size,[.int .i64 A1,.int .i64 B1,.bool P1.s,p10,p11,.bool Q1.s,q10,q11,.bool R1.s,r10,r11]) :: (bI,[.bool RE.s,(.slice Aw nw cw),(.slice Bw mw dw)]) :: (bOw)) ++ bOg) (([((.slice Ag ng cg),ints RE.xs),((.slice Bg mg dg),ints RE.ys)] :: [((.slice Aw nw cw),ints RE.xs),((.slice Bw mw dw),ints RE.ys)] :: (cOw)) ++ cOg) from iV.out).swap (by rw [jT.out]; omega)).mono ?_
 rintro e k6 ⟨rfl,bOm,cOm,hk,hst⟩
 rw [jT.out]
 have lG:=Hd hk
 have fZ:=Hd (show St W k6 ((aD.heap.size,[.bool RE.s,(.slice Ag ng cg),(.slice Bg mg dg)]) :: (W.heap.size,[.int .i64 A1,.int .i64 B1,.bool P1.s,p10,p11,.bool Q1.s,q10,q11,.bool R1.s,r10,r11]) :: (bI,[.bool RE.s,(.slice Aw nw cw),(.slice Bw mw dw)]) :: (bOw ++ bOm)) ([((.slice Ag ng cg),ints RE.xs),((.slice Bg mg dg),ints RE.ys)] :: [((.slice Aw nw cw),ints RE.xs),((.slice Bw mw dw),ints RE.ys)] :: (cOw ++ cOm)) from hst.swap)
 clear iV
 clear hk hst
 obtain ⟨mm,hmm⟩ : ∃ q : Nat,1 + 5 * nR + mR = q:=⟨_,rfl⟩
 have hmmb : mm ≤ 2097152:=by omega
 rw [hmm]
 have lH:=Hd hmm
 clear hmm
 obtain ⟨fB,fC,fD⟩:=fZ.out.c3 0 rfl
 go_wp2_with fail
 obtain ⟨m0,hm0⟩ : ∃ z,lenL [((.slice Ag ng cg),ints RE.xs),((.slice Bg mg dg),ints RE.ys)] = z:=⟨_,rfl⟩
 have hbm0 : m0 ≤ 2097152:=by rw [← hm0]; simp only [lenL,ints_len]; have h9:=hlen; simp only [Fr.len] at h9; omega
 have Hm0:=Hd hm0
 clear hm0
 refine (markRat_f (.slice Ag ng cg) (.slice Bg mg dg) _ RE.s (ints RE.xs) (ints RE.ys) (mm) W.heap.size _ (by first | rfl | omega) (fZ.out.own 0 rfl) (by rw [show lenL _ = m0 from Hm0.out]; omega)).mono ?_
 rintro e k7 ⟨rfl,ho,ht⟩
 rw [show lenL _ = m0 from Hm0.out]
 have gC:=Hd (fZ.out.marked 0 rfl ho ht)
 clear fZ
 clear ho ht
 clear fB fC fD
 go_wp2_with fail
 refine (heldLinkS_o LAg nR lcg 1 1 (by rfl) yg W _ bOm _ cOm _ j7.out lG.out (show St W k7 (((aD.heap.size,[.bool RE.s,(.slice Ag ng cg),(.slice Bg mg dg)]) :: (W.heap.size,[.int .i64 A1,.int .i64 B1,.bool P1.s,p10,p11,.bool Q1.s,q10,q11,.bool R1.s,r10,r11]) :: (bI,[.bool RE.s,(.slice Aw nw cw),(.slice Bw mw dw)]) :: (bOw)) ++ bOm) ((markL (mm) [((.slice Ag ng cg),ints RE.xs),((.slice Bg mg dg),ints RE.ys)] :: [((.slice Aw nw cw),ints RE.xs),((.slice Bw mw dw),ints RE.ys)] :: (cOw)) ++ cOm) from gC.out).swap (by rw [jT.out]; omega)).mono ?_
 rintro e lR ⟨rfl,hb⟩
 rw [jT.out,lH.out]
 have f0:=Hd (gC.out.call hb)
 clear gC
 clear hb
 obtain ⟨fE,fF,fG⟩:=f0.out.c3 0 rfl
 go_wp2_with fail
 refine (heldRat_f (.slice Ag ng cg) (.slice Bg mg dg) _ RE.s (ints RE.xs) (ints RE.ys) (mm) W.heap.size _ (by first | rfl | omega) (f0.out.own 0 rfl) (by rw [show lenL _ = m0 from Hm0.out]; omega)).mono ?_
 rintro e lS ⟨rfl,hb⟩
 rw [show lenL _ = m0 from Hm0.out]
 have gD:=Hd (f0.out.call hb)
 clear f0
 clear hb
 clear fE fF fG
 obtain ⟨cP,cQ,cR,cS,cT,cU,cV,cW,cX,cY,cC⟩:=gD.out.c11 1 rfl
 go_upto_region 35 with fail
 clear cP cQ cR cS cT cU cV cW cX cY cC
 go_cut [17,18,19] (fun vl ptr vb wx=>∃ LA lc y bO cO blk A n c B m d,vl = .slice LA nR lc ∧ ptr = .pointer (some ⟨blk,0,none⟩) ∧ vb = .bool rok ∧ dts y = RD ∧ y.length = nR ∧ lensL y = mR ∧ Lks LA nR lc y bO cO ∧ St W wx ((aD.heap.size,[.bool RE.s,(.slice Ag ng cg),(.slice Bg mg dg)]) :: (W.heap.size,[.int .i64 A1,.int .i64 B1,.bool P1.s,p10,p11,.bool Q1.s,q10,q11,.bool R1.s,r10,r11]) :: (bI,[.bool RE.s,(.slice Aw nw cw),(.slice Bw mw dw)]) :: (blk,[.bool RE.s,.slice A n c,.slice B m d]) :: (bOw ++ bOm ++ bO)) ([(.slice A n c,ints RE.xs),(.slice B m d,ints RE.ys)] :: markL (mm) [((.slice Ag ng cg),ints RE.xs),((.slice Bg mg dg),ints RE.ys)] :: [((.slice Aw nw cw),ints RE.xs),((.slice Bw mw dw),ints RE.ys)] :: (cOw ++ cOm ++ cO)))
 case first=>
  have aC : ∀ (w' : World) (bs' : List (Nat × List Value)) (cs' : List Chunk),St W w' ((aD.heap.size,[.bool RE.s,(.slice Ag ng cg),(.slice Bg mg dg)]) :: (W.heap.size,[.int .i64 A1,.int .i64 B1,.bool P1.s,p10,p11,.bool Q1.s,q10,q11,.bool R1.s,r10,r11]) :: (bI,[.bool RE.s,(.slice Aw nw cw),(.slice Bw mw dw)]) :: bs') cs' → w'.cell? ⟨W.heap.size,0,none⟩ = some (.int .i64 A1) ∧ w'.cell? ⟨W.heap.size,1,none⟩ = some (.int .i64 B1) ∧ w'.cell? ⟨W.heap.size,2,none⟩ = some (.bool P1.s) ∧ w'.cell? ⟨W.heap.size,3,none⟩ = some (p10) ∧ w'.cell? ⟨W.heap.size,4,none⟩ = some (p11) ∧ w'.cell? ⟨W.heap.size,5,none⟩ = some (.bool Q1.s) ∧ w'.cell? ⟨W.heap.size,6,none⟩ = some (q10) ∧ w'.cell? ⟨W.heap.size,7,none⟩ = some (q11) ∧ w'.cell? ⟨W.heap.size,8,none⟩ = some (.bool R1.s) ∧ w'.cell? ⟨W.heap.size,9,none⟩ = some (r10) ∧ w'.cell? ⟨W.heap.size,10,none⟩ = some (r11):=fun w' bs' cs' h=>(h.c11 1 rfl)
  refine (fun {G goal : Prop} (h1 : (True → G) → goal) (h2 : G)=>h1 (fun _=>h2)) (G:=?G129) (fun FIN=>?_) ?_
  case refine_1=>
   have SS:=Hd gD.out.drew
   refine wp_region_noPanic ?_
   refine wp_region_held_drew (S:=(fun w' =>w'.cell? ⟨W.heap.size,0,none⟩ = some (.int .i64 A1) ∧ w'.cell? ⟨W.heap.size,1,none⟩ = some (.int .i64 B1) ∧ w'.cell? ⟨W.heap.size,2,none⟩ = some (.bool P1.s) ∧ w'.cell? ⟨W.heap.size,3,none⟩ = some (p10) ∧ w'.cell? ⟨W.heap.size,4,none⟩ = some (p11) ∧ w'.cell? ⟨W.heap.size,5,none⟩ = some (.bool Q1.s) ∧ w'.cell? ⟨W.heap.size,6,none⟩ = some (q10) ∧ w'.cell? ⟨W.heap.size,7,none⟩ = some (q11) ∧ w'.cell? ⟨W.heap.size,8,none⟩ = some (.bool R1.s) ∧ w'.cell? ⟨W.heap.size,9,none⟩ = some (r10) ∧ w'.cell? ⟨W.heap.size,10,none⟩ = some (r11))) (by kernel_rfl) ?_ (fun aA=>?_)
   ·exact aC _ _ _ SS.out
   generalize hwd : World.drew _ = wd at SS aA ⊢
   clear hwd
   refine tI 0 rfl ?_ ?_ ?_
   rotate_left
   ·intro w9 aB; (try dsimp only at aB); go_simp; try with_reducible rfl
   try simp only [pm,s0,sS]
   refine tI 2 rfl ?_ ?_ ?_
   rotate_left
   ·intro w9 aB; (try dsimp only at aB); go_simp; try with_reducible rfl
   try simp only [pm,s0,sS]
   refine wpAnyH_ready (rs:=[1,9]) (by kernel_rfl) (by simp) ?_
   refine ac rfl ?_ ?_
   intro K hK
   go_simp
   go_at_call 8
   refine (toLinkS_any a0 len0 cap0 z0 _ (HA.out.below SS.out.below) HN.out).mono ?_
   rintro e f5 ⟨bz,yz,rfl,hyl,hlk,hst⟩
   rw [HZ.out] at hyl ⊢
   have hJ:=Hd hyl
   have kB:=Hd hlk
   replace SS:=Hd (show St W f5 ((aD.heap.size,[.bool RE.s,(.slice Ag ng cg),(.slice Bg mg dg)]) :: (W.heap.size,[.int .i64 A1,.int .i64 B1,.bool P1.s,p10,p11,.bool Q1.s,q10,q11,.bool R1.s,r10,r11]) :: (bI,[.bool RE.s,(.slice Aw nw cw),(.slice Bw mw dw)]) :: (bz,cellsL yz) :: (bOw ++ bOm)) (rowsL yz :: markL (mm) [((.slice Ag ng cg),ints RE.xs),((.slice Bg mg dg),ints RE.ys)] :: [((.slice Aw nw cw),ints RE.xs),((.slice Bw mw dw),ints RE.ys)] :: (cOw ++ cOm)) from (SS.out.comp hst).perm (List.perm_middle (l₁:=([(aD.heap.size,[.bool RE.s,(.slice Ag ng cg),(.slice Bg mg dg)]),(W.heap.size,[.int .i64 A1,.int .i64 B1,.bool P1.s,p10,p11,.bool Q1.s,q10,q11,.bool R1.s,r10,r11]),(bI,[.bool RE.s,(.slice Aw nw cw),(.slice Bw mw dw)])] : List (Nat × List Value))) (a:=((bz,cellsL yz) : Nat × List Value)) (l₂:=((bOw ++ bOm) : List (Nat × List Value)))) (List.Perm.refl _))
   clear hyl hlk hst
   refine hK.out _ _ (aC _ _ _ SS.out) (fun aA=>?_)
   clear hK K
   try simp only [pm,s0,sS]
   refine wpAnyH_ready (rs:=[3,9]) (by kernel_rfl) (by simp) ?_
   refine ac rfl ?_ ?_
   intro K hK
   go_simp
   go_at_call_of 9 (Value.agg #[Value.int .i64 A1,Value.int .i64 B1,Value.bool P1.s,p10,p11,Value.bool Q1.s,q10,q11,Value.bool R1.s,r10,r11])
   refine (toLink_f A1 B1 P1 Q1 R1 p10 p11 q10 q11 r10 r11 _ (SS.out.lkI HA1.out) HL1.out).mono ?_
   rintro e b9 ⟨iW,iX,iY,iZ,i0,i1,rfl,ho,hb⟩
   obtain ⟨aW,aX,aY,rfl⟩:=(ho.at_ 0 rfl).shape3
   obtain ⟨aZ,a2,a3,rfl⟩:=(ho.at_ 1 rfl).shape3
   obtain ⟨a4,a5,a6,rfl⟩:=(ho.at_ 2 rfl).shape3
   obtain ⟨a7,a8,a9,rfl⟩:=(ho.at_ 3 rfl).shape3
   obtain ⟨bA,bB,bC,rfl⟩:=(ho.at_ 4 rfl).shape3
   obtain ⟨bD,bE,bF,rfl⟩:=(ho.at_ 5 rfl).shape3
   replace SS:=Hd (show St W b9 ((aD.heap.size,[.bool RE.s,(.slice Ag ng cg),(.slice Bg mg dg)]) :: (W.heap.size,[.int .i64 A1,.int .i64 B1,.bool P1.s,p10,p11,.bool Q1.s,q10,q11,.bool R1.s,r10,r11]) :: (bI,[.bool RE.s,(.slice Aw nw cw),(.slice Bw mw dw)]) :: (bz,cellsL yz) :: (bOw ++ bOm)) (rowsK P1 Q1 R1 (.slice aW aX aY) (.slice aZ a2 a3) (.slice a4 a5 a6) (.slice a7 a8 a9) (.slice bA bB bC) (.slice bD bE bF) :: rowsL yz :: markL (mm) [((.slice Ag ng cg),ints RE.xs),((.slice Bg mg dg),ints RE.ys)] :: [((.slice Aw nw cw),ints RE.xs),((.slice Bw mw dw),ints RE.ys)] :: (cOw ++ cOm)) from SS.out.rows ho hb)
   clear ho hb
   refine hK.out _ _ (aC _ _ _ SS.out) (fun aA=>?_)
   clear hK K
   try simp only [pm,s0,sS]
   refine wpAnyH_ready (rs:=[4,9]) (by kernel_rfl) (by simp) ?_
   refine ac rfl ?_ ?_
   intro K hK
   go_simp
   go_at_call 10
   refine (HI.out (some ⟨bz,0,none⟩) len0 yz (.slice aW aX aY) (.slice aZ a2 a3) (.slice a4 a5 a6) (.slice a7 a8 a9) (.slice bA bB bC) (.slice bD bE bF) _ hJ.out kB.out (hJ.out ▸ SS.out.larg 3 1 rfl rfl) (SS.out.lk 0 rfl)).mono ?_
   intro e bJ ho
   obtain ⟨LAh,lch,yh,bOh,cOh,Ah,nh,ch,Bh,mh,dh,rfl,hd,hyl,hml,hk,hst⟩:=HOA.out _ _ _ _ _ ho SS.out
   have gE:=Hd hd
   have cZ:=Hd hyl
   have hE:=Hd hml
   have gF:=Hd hk
   replace SS:=Hd (show St W bJ ((aD.heap.size,[.bool RE.s,(.slice Ag ng cg),(.slice Bg mg dg)]) :: (W.heap.size,[.int .i64 A1,.int .i64 B1,.bool P1.s,p10,p11,.bool Q1.s,q10,q11,.bool R1.s,r10,r11]) :: (bI,[.bool RE.s,(.slice Aw nw cw),(.slice Bw mw dw)]) :: (bz,cellsL yz) :: (bOw ++ bOm ++ bOh)) ([((.slice Ah nh ch),ints RE.xs),((.slice Bh mh dh),ints RE.ys)] :: rowsK P1 Q1 R1 (.slice aW aX aY) (.slice aZ a2 a3) (.slice a4 a5 a6) (.slice a7 a8 a9) (.slice bA bB bC) (.slice bD bE bF) :: rowsL yz :: markL (mm) [((.slice Ag ng cg),ints RE.xs),((.slice Bg mg dg),ints RE.ys)] :: [((.slice Aw nw cw),ints RE.xs),((.slice Bw mw dw),ints RE.ys)] :: (cOw ++ cOm ++ cOh)) from hst)
   replace SS:=Hd (show St W bJ ((aD.heap.size,[.bool RE.s,(.slice Ag ng cg),(.slice Bg mg dg)]) :: (W.heap.size,[.int .i64 A1,.int .i64 B1,.bool P1.s,p10,p11,.bool Q1.s,q10,q11,.bool R1.s,r10,r11]) :: (bI,[.bool RE.s,(.slice Aw nw cw),(.slice Bw mw dw)]) :: (bOw ++ bOm ++ bOh)) ([((.slice Ah nh ch),ints RE.xs),((.slice Bh mh dh),ints RE.ys)] :: markL (mm) [((.slice Ag ng cg),ints RE.xs),((.slice Bg mg dg),ints RE.ys)] :: [((.slice Aw nw cw),ints RE.xs),((.slice Bw mw dw),ints RE.ys)] :: (cOw ++ cOm ++ cOh)) from ((SS.out.dropBox 3).drop 1).drop 1)
   clear hd hyl hml hk hst ho
   refine hK.out _ _ (aC _ _ _ SS.out) (fun aA=>?_)
   clear hK K
   try simp only [pm,s0,sS]
   refine tI 5 rfl ?_ ?_ ?_
   rotate_left
   ·intro w9 aB; (try dsimp only at aB); go_simp; try with_reducible rfl
   try simp only [pm,s0,sS]
   refine tI 6 rfl ?_ ?_ ?_
   rotate_left
   ·intro w9 aB; (try dsimp only at aB); go_simp; try with_reducible rfl
   try simp only [pm,s0,sS]
   refine tI 7 rfl ?_ ?_ ?_
   rotate_left
   ·intro w9 aB; (try dsimp only at aB); go_simp; try with_reducible rfl
   try simp only [pm,s0,sS]
   refine tI 8 rfl ?_ ?_ ?_
   rotate_left
   ·intro w9 aB; (try dsimp only at aB); go_simp; try with_reducible rfl
   try simp only [pm,s0,sS]
   refine wpAnyH_ready (rs:=[9]) (by kernel_rfl) (by simp) ?_
   refine ac rfl ?_ ?_
   intro K hK
   go_simp
   replace SS:=Hd (show St W (World.alloc bJ (.cells #[.bool false,.slice none 0 0,.slice none 0 0] 35)) ((aD.heap.size,[.bool RE.s,(.slice Ag ng cg),(.slice Bg mg dg)]) :: (W.heap.size,[.int .i64 A1,.int .i64 B1,.bool P1.s,p10,p11,.bool Q1.s,q10,q11,.bool R1.s,r10,r11]) :: (bI,[.bool RE.s,(.slice Aw nw cw),(.slice Bw mw dw)]) :: (Array.size (World.heap bJ),[.bool false,.slice none 0 0,.slice none 0 0]) :: (bOw ++ bOm ++ bOh)) ([((.slice Ah nh ch),ints RE.xs),((.slice Bh mh dh),ints RE.ys)] :: markL (mm) [((.slice Ag ng cg),ints RE.xs),((.slice Bg mg dg),ints RE.ys)] :: [((.slice Aw nw cw),ints RE.xs),((.slice Bw mw dw),ints RE.ys)] :: (cOw ++ cOm ++ cOh)) from (SS.out.alloc [.bool false,.slice none 0 0,.slice none 0 0] 35).perm (List.perm_middle (l₁:=([(aD.heap.size,[.bool RE.s,(.slice Ag ng cg),(.slice Bg mg dg)]),(W.heap.size,[.int .i64 A1,.int .i64 B1,.bool P1.s,p10,p11,.bool Q1.s,q10,q11,.bool R1.s,r10,r11]),(bI,[.bool RE.s,(.slice Aw nw cw),(.slice Bw mw dw)])] : List (Nat × List Value))) (a:=((Array.size (World.heap bJ),[.bool false,.slice none 0 0,.slice none 0 0]) : Nat × List Value)) (l₂:=((bOw ++ bOm ++ bOh) : List (Nat × List Value)))) (List.Perm.refl _))
   generalize hbk : Array.size (World.heap bJ) = bkh at SS ⊢
   clear hbk
   generalize hwa : World.alloc _ _ = eK at SS ⊢
   clear hwa
   refine hK.out _ _ (aC _ _ _ SS.out) (fun aA=>?_)
   clear hK K
   try simp only [pm,s0,sS]
   refine tI 10 rfl ?_ ?_ ?_
   rotate_left
   ·intro w9 aB; (try dsimp only at aB); go_simp; try with_reducible rfl
   try simp only [pm,s0,sS]
   clear aA
   revert SS; revert gE cZ hE gF; revert eK; revert bkh; revert LAh lch yh bOh cOh Ah nh ch Bh mh dh; revert bz aW aX aY aZ a2 a3 a4 a5 a6 a7 a8 a9 bA bB bC bD bE bF
   exact FIN trivial
   exact AllReadyH.nil
   refine ac rfl ?_ ?_
   intro K hK
   go_simp
   replace SS:=Hd (show St W (World.alloc b9 (.cells #[.bool false,.slice none 0 0,.slice none 0 0] 35)) ((aD.heap.size,[.bool RE.s,(.slice Ag ng cg),(.slice Bg mg dg)]) :: (W.heap.size,[.int .i64 A1,.int .i64 B1,.bool P1.s,p10,p11,.bool Q1.s,q10,q11,.bool R1.s,r10,r11]) :: (bI,[.bool RE.s,(.slice Aw nw cw),(.slice Bw mw dw)]) :: (Array.size (World.heap b9),[.bool false,.slice none 0 0,.slice none 0 0]) :: (bz,cellsL yz) :: (bOw ++ bOm)) (rowsK P1 Q1 R1 (.slice aW aX aY) (.slice aZ a2 a3) (.slice a4 a5 a6) (.slice a7 a8 a9) (.slice bA bB bC) (.slice bD bE bF) :: rowsL yz :: markL (mm) [((.slice Ag ng cg),ints RE.xs),((.slice Bg mg dg),ints RE.ys)] :: [((.slice Aw nw cw),ints RE.xs),((.slice Bw mw dw),ints RE.ys)] :: (cOw ++ cOm)) from (SS.out.alloc [.bool false,.slice none 0 0,.slice none 0 0] 35).perm (List.perm_middle (l₁:=([(aD.heap.size,[.bool RE.s,(.slice Ag ng cg),(.slice Bg mg dg)]),(W.heap.size,[.int .i64 A1,.int .i64 B1,.bool P1.s,p10,p11,.bool Q1.s,q10,q11,.bool R1.s,r10,r11]),(bI,[.bool RE.s,(.slice Aw nw cw),(.slice Bw mw dw)])] : List (Nat × List Value))) (a:=((Array.size (World.heap b9),[.bool false,.slice none 0 0,.slice none 0 0]) : Nat × List Value)) (l₂:=((bz,cellsL yz) :: (bOw ++ bOm) : List (Nat × List Value)))) (List.Perm.refl _))
   generalize hbk : Array.size (World.heap b9) = bkh at SS ⊢
   clear hbk
   generalize hwa : World.alloc _ _ = j2 at SS ⊢
   clear hwa
   refine hK.out _ _ (aC _ _ _ SS.out) (fun aA=>?_)
   clear hK K
   try simp only [pm,s0,sS]
   refine wpAnyH_ready (rs:=[4]) (by kernel_rfl) (by simp) ?_
   refine ac rfl ?_ ?_
   intro K hK
   go_simp
   go_at_call 10
   refine (HI.out (some ⟨bz,0,none⟩) len0 yz (.slice aW aX aY) (.slice aZ a2 a3) (.slice a4 a5 a6) (.slice a7 a8 a9) (.slice bA bB bC) (.slice bD bE bF) _ hJ.out kB.out (hJ.out ▸ SS.out.larg 4 1 rfl rfl) (SS.out.lk 0 rfl)).mono ?_
   intro e b6 ho
   obtain ⟨LAh,lch,yh,bOh,cOh,Ah,nh,ch,Bh,mh,dh,rfl,hd,hyl,hml,hk,hst⟩:=HOA.out _ _ _ _ _ ho SS.out
   have gE:=Hd hd
   have cZ:=Hd hyl
   have hE:=Hd hml
   have gF:=Hd hk
   replace SS:=Hd (show St W b6 ((aD.heap.size,[.bool RE.s,(.slice Ag ng cg),(.slice Bg mg dg)]) :: (W.heap.size,[.int .i64 A1,.int .i64 B1,.bool P1.s,p10,p11,.bool Q1.s,q10,q11,.bool R1.s,r10,r11]) :: (bI,[.bool RE.s,(.slice Aw nw cw),(.slice Bw mw dw)]) :: (bkh,[.bool false,.slice none 0 0,.slice none 0 0]) :: (bz,cellsL yz) :: (bOw ++ bOm ++ bOh)) ([((.slice Ah nh ch),ints RE.xs),((.slice Bh mh dh),ints RE.ys)] :: rowsK P1 Q1 R1 (.slice aW aX aY) (.slice aZ a2 a3) (.slice a4 a5 a6) (.slice a7 a8 a9) (.slice bA bB bC) (.slice bD bE bF) :: rowsL yz :: markL (mm) [((.slice Ag ng cg),ints RE.xs),((.slice Bg mg dg),ints RE.ys)] :: [((.slice Aw nw cw),ints RE.xs),((.slice Bw mw dw),ints RE.ys)] :: (cOw ++ cOm ++ cOh)) from hst)
   replace SS:=Hd (show St W b6 ((aD.heap.size,[.bool RE.s,(.slice Ag ng cg),(.slice Bg mg dg)]) :: (W.heap.size,[.int .i64 A1,.int .i64 B1,.bool P1.s,p10,p11,.bool Q1.s,q10,q11,.bool R1.s,r10,r11]) :: (bI,[.bool RE.s,(.slice Aw nw cw),(.slice Bw mw dw)]) :: (bkh,[.bool false,.slice none 0 0,.slice none 0 0]) :: (bOw ++ bOm ++ bOh)) ([((.slice Ah nh ch),ints RE.xs),((.slice Bh mh dh),ints RE.ys)] :: markL (mm) [((.slice Ag ng cg),ints RE.xs),((.slice Bg mg dg),ints RE.ys)] :: [((.slice Aw nw cw),ints RE.xs),((.slice Bw mw dw),ints RE.ys)] :: (cOw ++ cOm ++ cOh)) from ((SS.out.dropBox 4).drop 1).drop 1)
   clear hd hyl hml hk hst ho
   refine hK.out _ _ (aC _ _ _ SS.out) (fun aA=>?_)
   clear hK K
   try simp only [pm,s0,sS]
   refine tI 5 rfl ?_ ?_ ?_
   rotate_left
   ·intro w9 aB; (try dsimp only at aB); go_simp; try with_reducible rfl
   try simp only [pm,s0,sS]
   refine tI 6 rfl ?_ ?_ ?_
   rotate_left
   ·intro w9 aB; (try dsimp only at aB); go_simp; try with_reducible rfl
   try simp only [pm,s0,sS]
   refine tI 7 rfl ?_ ?_ ?_
   rotate_left
   ·intro w9 aB; (try dsimp only at aB); go_simp; try with_reducible rfl
   try simp only [pm,s0,sS]
   refine tI 8 rfl ?_ ?_ ?_
   rotate_left
   ·intro w9 aB; (try dsimp only at aB); go_simp; try with_reducible rfl
   try simp only [pm,s0,sS]
   refine tI 10 rfl ?_ ?_ ?_
   rotate_left
   ·intro w9 aB; (try dsimp only at aB); go_simp; try with_reducible rfl
   try simp only [pm,s0,sS]
   clear aA
   revert SS; revert gE cZ hE gF; revert b6; revert bkh; revert LAh lch yh bOh cOh Ah nh ch Bh mh dh; revert bz aW aX aY aZ a2 a3 a4 a5 a6 a7 a8 a9 bA bB bC bD bE bF
   exact FIN trivial
   exact AllReadyH.nil
   exact AllReadyH.nil
   refine ac rfl ?_ ?_
   intro K hK
   go_simp
   replace SS:=Hd (show St W (World.alloc f5 (.cells #[.bool false,.slice none 0 0,.slice none 0 0] 35)) ((aD.heap.size,[.bool RE.s,(.slice Ag ng cg),(.slice Bg mg dg)]) :: (W.heap.size,[.int .i64 A1,.int .i64 B1,.bool P1.s,p10,p11,.bool Q1.s,q10,q11,.bool R1.s,r10,r11]) :: (bI,[.bool RE.s,(.slice Aw nw cw),(.slice Bw mw dw)]) :: (Array.size (World.heap f5),[.bool false,.slice none 0 0,.slice none 0 0]) :: (bz,cellsL yz) :: (bOw ++ bOm)) (rowsL yz :: markL (mm) [((.slice Ag ng cg),ints RE.xs),((.slice Bg mg dg),ints RE.ys)] :: [((.slice Aw nw cw),ints RE.xs),((.slice Bw mw dw),ints RE.ys)] :: (cOw ++ cOm)) from (SS.out.alloc [.bool false,.slice none 0 0,.slice none 0 0] 35).perm (List.perm_middle (l₁:=([(aD.heap.size,[.bool RE.s,(.slice Ag ng cg),(.slice Bg mg dg)]),(W.heap.size,[.int .i64 A1,.int .i64 B1,.bool P1.s,p10,p11,.bool Q1.s,q10,q11,.bool R1.s,r10,r11]),(bI,[.bool RE.s,(.slice Aw nw cw),(.slice Bw mw dw)])] : List (Nat × List Value))) (a:=((Array.size (World.heap f5),[.bool false,.slice none 0 0,.slice none 0 0]) : Nat × List Value)) (l₂:=((bz,cellsL yz) :: (bOw ++ bOm) : List (Nat × List Value)))) (List.Perm.refl _))
   generalize hbk : Array.size (World.heap f5) = bkh at SS ⊢
   clear hbk
   generalize hwa : World.alloc _ _ = kO at SS ⊢
   clear hwa
   refine hK.out _ _ (aC _ _ _ SS.out) (fun aA=>?_)
   clear hK K
   try simp only [pm,s0,sS]
   refine wpAnyH_ready (rs:=[3]) (by kernel_rfl) (by simp) ?_
   refine ac rfl ?_ ?_
   intro K hK
   go_simp
   go_at_call_of 9 (Value.agg #[Value.int .i64 A1,Value.int .i64 B1,Value.bool P1.s,p10,p11,Value.bool Q1.s,q10,q11,Value.bool R1.s,r10,r11])
   refine (toLink_f A1 B1 P1 Q1 R1 p10 p11 q10 q11 r10 r11 _ (SS.out.lkI HA1.out) HL1.out).mono ?_
   rintro e f6 ⟨iW,iX,iY,iZ,i0,i1,rfl,ho,hb⟩
   obtain ⟨aW,aX,aY,rfl⟩:=(ho.at_ 0 rfl).shape3
   obtain ⟨aZ,a2,a3,rfl⟩:=(ho.at_ 1 rfl).shape3
   obtain ⟨a4,a5,a6,rfl⟩:=(ho.at_ 2 rfl).shape3
   obtain ⟨a7,a8,a9,rfl⟩:=(ho.at_ 3 rfl).shape3
   obtain ⟨bA,bB,bC,rfl⟩:=(ho.at_ 4 rfl).shape3
   obtain ⟨bD,bE,bF,rfl⟩:=(ho.at_ 5 rfl).shape3
   replace SS:=Hd (show St W f6 ((aD.heap.size,[.bool RE.s,(.slice Ag ng cg),(.slice Bg mg dg)]) :: (W.heap.size,[.int .i64 A1,.int .i64 B1,.bool P1.s,p10,p11,.bool Q1.s,q10,q11,.bool R1.s,r10,r11]) :: (bI,[.bool RE.s,(.slice Aw nw cw),(.slice Bw mw dw)]) :: (bkh,[.bool false,.slice none 0 0,.slice none 0 0]) :: (bz,cellsL yz) :: (bOw ++ bOm)) (rowsK P1 Q1 R1 (.slice aW aX aY) (.slice aZ a2 a3) (.slice a4 a5 a6) (.slice a7 a8 a9) (.slice bA bB bC) (.slice bD bE bF) :: rowsL yz :: markL (mm) [((.slice Ag ng cg),ints RE.xs),((.slice Bg mg dg),ints RE.ys)] :: [((.slice Aw nw cw),ints RE.xs),((.slice Bw mw dw),ints RE.ys)] :: (cOw ++ cOm)) from SS.out.rows ho hb)
   clear ho hb
   refine hK.out _ _ (aC _ _ _ SS.out) (fun aA=>?_)
   clear hK K
   try simp only [pm,s0,sS]
   refine wpAnyH_ready (rs:=[4]) (by kernel_rfl) (by simp) ?_
   refine ac rfl ?_ ?_
   intro K hK
   go_simp
   go_at_call 10
   refine (HI.out (some ⟨bz,0,none⟩) len0 yz (.slice aW aX aY) (.slice aZ a2 a3) (.slice a4 a5 a6) (.slice a7 a8 a9) (.slice bA bB bC) (.slice bD bE bF) _ hJ.out kB.out (hJ.out ▸ SS.out.larg 4 1 rfl rfl) (SS.out.lk 0 rfl)).mono ?_
   intro e b7 ho
   obtain ⟨LAh,lch,yh,bOh,cOh,Ah,nh,ch,Bh,mh,dh,rfl,hd,hyl,hml,hk,hst⟩:=HOA.out _ _ _ _ _ ho SS.out
   have gE:=Hd hd
   have cZ:=Hd hyl
   have hE:=Hd hml
   have gF:=Hd hk
   replace SS:=Hd (show St W b7 ((aD.heap.size,[.bool RE.s,(.slice Ag ng cg),(.slice Bg mg dg)]) :: (W.heap.size,[.int .i64 A1,.int .i64 B1,.bool P1.s,p10,p11,.bool Q1.s,q10,q11,.bool R1.s,r10,r11]) :: (bI,[.bool RE.s,(.slice Aw nw cw),(.slice Bw mw dw)]) :: (bkh,[.bool false,.slice none 0 0,.slice none 0 0]) :: (bz,cellsL yz) :: (bOw ++ bOm ++ bOh)) ([((.slice Ah nh ch),ints RE.xs),((.slice Bh mh dh),ints RE.ys)] :: rowsK P1 Q1 R1 (.slice aW aX aY) (.slice aZ a2 a3) (.slice a4 a5 a6) (.slice a7 a8 a9) (.slice bA bB bC) (.slice bD bE bF) :: rowsL yz :: markL (mm) [((.slice Ag ng cg),ints RE.xs),((.slice Bg mg dg),ints RE.ys)] :: [((.slice Aw nw cw),ints RE.xs),((.slice Bw mw dw),ints RE.ys)] :: (cOw ++ cOm ++ cOh)) from hst)
   replace SS:=Hd (show St W b7 ((aD.heap.size,[.bool RE.s,(.slice Ag ng cg),(.slice Bg mg dg)]) :: (W.heap.size,[.int .i64 A1,.int .i64 B1,.bool P1.s,p10,p11,.bool Q1.s,q10,q11,.bool R1.s,r10,r11]) :: (bI,[.bool RE.s,(.slice Aw nw cw),(.slice Bw mw dw)]) :: (bkh,[.bool false,.slice none 0 0,.slice none 0 0]) :: (bOw ++ bOm ++ bOh)) ([((.slice Ah nh ch),ints RE.xs),((.slice Bh mh dh),ints RE.ys)] :: markL (mm) [((.slice Ag ng cg),ints RE.xs),((.slice Bg mg dg),ints RE.ys)] :: [((.slice Aw nw cw),ints RE.xs),((.slice Bw mw dw),ints RE.ys)] :: (cOw ++ cOm ++ cOh)) from ((SS.out.dropBox 4).drop 1).drop 1)
   clear hd hyl hml hk hst ho
   refine hK.out _ _ (aC _ _ _ SS.out) (fun aA=>?_)
   clear hK K
   try simp only [pm,s0,sS]
   refine tI 5 rfl ?_ ?_ ?_
   rotate_left
   ·intro w9 aB; (try dsimp only at aB); go_simp; try with_reducible rfl
   try simp only [pm,s0,sS]
   refine tI 6 rfl ?_ ?_ ?_
   rotate_left
   ·intro w9 aB; (try dsimp only at aB); go_simp; try with_reducible rfl
   try simp only [pm,s0,sS]
   refine tI 7 rfl ?_ ?_ ?_
   rotate_left
   ·intro w9 aB; (try dsimp only at aB); go_simp; try with_reducible rfl
   try simp only [pm,s0,sS]
   refine tI 8 rfl ?_ ?_ ?_
   rotate_left
   ·intro w9 aB; (try dsimp only at aB); go_simp; try with_reducible rfl
   try simp only [pm,s0,sS]
   refine tI 10 rfl ?_ ?_ ?_
   rotate_left
   ·intro w9 aB; (try dsimp only at aB); go_simp; try with_reducible rfl
   try simp only [pm,s0,sS]
   clear aA
   revert SS; revert gE cZ hE gF; revert b7; revert bkh; revert LAh lch yh bOh cOh Ah nh ch Bh mh dh; revert bz aW aX aY aZ a2 a3 a4 a5 a6 a7 a8 a9 bA bB bC bD bE bF
   exact FIN trivial
   exact AllReadyH.nil
   exact AllReadyH.nil
   exact AllReadyH.nil
   refine ac rfl ?_ ?_
   intro K hK
   go_simp
   replace SS:=Hd (show St W (World.alloc wd (.cells #[.bool false,.slice none 0 0,.slice none 0 0] 35)) ((aD.heap.size,[.bool RE.s,(.slice Ag ng cg),(.slice Bg mg dg)]) :: (W.heap.size,[.int .i64 A1,.int .i64 B1,.bool P1.s,p10,p11,.bool Q1.s,q10,q11,.bool R1.s,r10,r11]) :: (bI,[.bool RE.s,(.slice Aw nw cw),(.slice Bw mw dw)]) :: (Array.size (World.heap wd),[.bool false,.slice none 0 0,.slice none 0 0]) :: (bOw ++ bOm)) (markL (mm) [((.slice Ag ng cg),ints RE.xs),((.slice Bg mg dg),ints RE.ys)] :: [((.slice Aw nw cw),ints RE.xs),((.slice Bw mw dw),ints RE.ys)] :: (cOw ++ cOm)) from (SS.out.alloc [.bool false,.slice none 0 0,.slice none 0 0] 35).perm (List.perm_middle (l₁:=([(aD.heap.size,[.bool RE.s,(.slice Ag ng cg),(.slice Bg mg dg)]),(W.heap.size,[.int .i64 A1,.int .i64 B1,.bool P1.s,p10,p11,.bool Q1.s,q10,q11,.bool R1.s,r10,r11]),(bI,[.bool RE.s,(.slice Aw nw cw),(.slice Bw mw dw)])] : List (Nat × List Value))) (a:=((Array.size (World.heap wd),[.bool false,.slice none 0 0,.slice none 0 0]) : Nat × List Value)) (l₂:=((bOw ++ bOm) : List (Nat × List Value)))) (List.Perm.refl _))
   generalize hbk : Array.size (World.heap wd) = bkh at SS ⊢
   clear hbk
   generalize hwa : World.alloc _ _ = lL at SS ⊢
   clear hwa
   refine hK.out _ _ (aC _ _ _ SS.out) (fun aA=>?_)
   clear hK K
   try simp only [pm,s0,sS]
   refine wpAnyH_ready (rs:=[1]) (by kernel_rfl) (by simp) ?_
   refine ac rfl ?_ ?_
   intro K hK
   go_simp
   go_at_call 8
   refine (toLinkS_any a0 len0 cap0 z0 _ (HA.out.below SS.out.below) HN.out).mono ?_
   rintro e i3 ⟨bz,yz,rfl,hyl,hlk,hst⟩
   rw [HZ.out] at hyl ⊢
   have hJ:=Hd hyl
   have kB:=Hd hlk
   replace SS:=Hd (show St W i3 ((aD.heap.size,[.bool RE.s,(.slice Ag ng cg),(.slice Bg mg dg)]) :: (W.heap.size,[.int .i64 A1,.int .i64 B1,.bool P1.s,p10,p11,.bool Q1.s,q10,q11,.bool R1.s,r10,r11]) :: (bI,[.bool RE.s,(.slice Aw nw cw),(.slice Bw mw dw)]) :: (bz,cellsL yz) :: (bkh,[.bool false,.slice none 0 0,.slice none 0 0]) :: (bOw ++ bOm)) (rowsL yz :: markL (mm) [((.slice Ag ng cg),ints RE.xs),((.slice Bg mg dg),ints RE.ys)] :: [((.slice Aw nw cw),ints RE.xs),((.slice Bw mw dw),ints RE.ys)] :: (cOw ++ cOm)) from (SS.out.comp hst).perm (List.perm_middle (l₁:=([(aD.heap.size,[.bool RE.s,(.slice Ag ng cg),(.slice Bg mg dg)]),(W.heap.size,[.int .i64 A1,.int .i64 B1,.bool P1.s,p10,p11,.bool Q1.s,q10,q11,.bool R1.s,r10,r11]),(bI,[.bool RE.s,(.slice Aw nw cw),(.slice Bw mw dw)])] : List (Nat × List Value))) (a:=((bz,cellsL yz) : Nat × List Value)) (l₂:=((bkh,[.bool false,.slice none 0 0,.slice none 0 0]) :: (bOw ++ bOm) : List (Nat × List Value)))) (List.Perm.refl _))
   clear hyl hlk hst
   refine hK.out _ _ (aC _ _ _ SS.out) (fun aA=>?_)
   clear hK K
   try simp only [pm,s0,sS]
   refine wpAnyH_ready (rs:=[3]) (by kernel_rfl) (by simp) ?_
   refine ac rfl ?_ ?_
   intro K hK
   go_simp
   go_at_call_of 9 (Value.agg #[Value.int .i64 A1,Value.int .i64 B1,Value.bool P1.s,p10,p11,Value.bool Q1.s,q10,q11,Value.bool R1.s,r10,r11])
   refine (toLink_f A1 B1 P1 Q1 R1 p10 p11 q10 q11 r10 r11 _ (SS.out.lkI HA1.out) HL1.out).mono ?_
   rintro e f7 ⟨iW,iX,iY,iZ,i0,i1,rfl,ho,hb⟩
   obtain ⟨aW,aX,aY,rfl⟩:=(ho.at_ 0 rfl).shape3
   obtain ⟨aZ,a2,a3,rfl⟩:=(ho.at_ 1 rfl).shape3
   obtain ⟨a4,a5,a6,rfl⟩:=(ho.at_ 2 rfl).shape3
   obtain ⟨a7,a8,a9,rfl⟩:=(ho.at_ 3 rfl).shape3
   obtain ⟨bA,bB,bC,rfl⟩:=(ho.at_ 4 rfl).shape3
   obtain ⟨bD,bE,bF,rfl⟩:=(ho.at_ 5 rfl).shape3
   replace SS:=Hd (show St W f7 ((aD.heap.size,[.bool RE.s,(.slice Ag ng cg),(.slice Bg mg dg)]) :: (W.heap.size,[.int .i64 A1,.int .i64 B1,.bool P1.s,p10,p11,.bool Q1.s,q10,q11,.bool R1.s,r10,r11]) :: (bI,[.bool RE.s,(.slice Aw nw cw),(.slice Bw mw dw)]) :: (bz,cellsL yz) :: (bkh,[.bool false,.slice none 0 0,.slice none 0 0]) :: (bOw ++ bOm)) (rowsK P1 Q1 R1 (.slice aW aX aY) (.slice aZ a2 a3) (.slice a4 a5 a6) (.slice a7 a8 a9) (.slice bA bB bC) (.slice bD bE bF) :: rowsL yz :: markL (mm) [((.slice Ag ng cg),ints RE.xs),((.slice Bg mg dg),ints RE.ys)] :: [((.slice Aw nw cw),ints RE.xs),((.slice Bw mw dw),ints RE.ys)] :: (cOw ++ cOm)) from SS.out.rows ho hb)
   clear ho hb
   refine hK.out _ _ (aC _ _ _ SS.out) (fun aA=>?_)
   clear hK K
   try simp only [pm,s0,sS]
   refine wpAnyH_ready (rs:=[4]) (by kernel_rfl) (by simp) ?_
   refine ac rfl ?_ ?_
   intro K hK
   go_simp
   go_at_call 10
   refine (HI.out (some ⟨bz,0,none⟩) len0 yz (.slice aW aX aY) (.slice aZ a2 a3) (.slice a4 a5 a6) (.slice a7 a8 a9) (.slice bA bB bC) (.slice bD bE bF) _ hJ.out kB.out (hJ.out ▸ SS.out.larg 3 1 rfl rfl) (SS.out.lk 0 rfl)).mono ?_
   intro e b8 ho
   obtain ⟨LAh,lch,yh,bOh,cOh,Ah,nh,ch,Bh,mh,dh,rfl,hd,hyl,hml,hk,hst⟩:=HOA.out _ _ _ _ _ ho SS.out
   have gE:=Hd hd
   have cZ:=Hd hyl
   have hE:=Hd hml
   have gF:=Hd hk
   replace SS:=Hd (show St W b8 ((aD.heap.size,[.bool RE.s,(.slice Ag ng cg),(.slice Bg mg dg)]) :: (W.heap.size,[.int .i64 A1,.int .i64 B1,.bool P1.s,p10,p11,.bool Q1.s,q10,q11,.bool R1.s,r10,r11]) :: (bI,[.bool RE.s,(.slice Aw nw cw),(.slice Bw mw dw)]) :: (bz,cellsL yz) :: (bkh,[.bool false,.slice none 0 0,.slice none 0 0]) :: (bOw ++ bOm ++ bOh)) ([((.slice Ah nh ch),ints RE.xs),((.slice Bh mh dh),ints RE.ys)] :: rowsK P1 Q1 R1 (.slice aW aX aY) (.slice aZ a2 a3) (.slice a4 a5 a6) (.slice a7 a8 a9) (.slice bA bB bC) (.slice bD bE bF) :: rowsL yz :: markL (mm) [((.slice Ag ng cg),ints RE.xs),((.slice Bg mg dg),ints RE.ys)] :: [((.slice Aw nw cw),ints RE.xs),((.slice Bw mw dw),ints RE.ys)] :: (cOw ++ cOm ++ cOh)) from hst)
   replace SS:=Hd (show St W b8 ((aD.heap.size,[.bool RE.s,(.slice Ag ng cg),(.slice Bg mg dg)]) :: (W.heap.size,[.int .i64 A1,.int .i64 B1,.bool P1.s,p10,p11,.bool Q1.s,q10,q11,.bool R1.s,r10,r11]) :: (bI,[.bool RE.s,(.slice Aw nw cw),(.slice Bw mw dw)]) :: (bkh,[.bool false,.slice none 0 0,.slice none 0 0]) :: (bOw ++ bOm ++ bOh)) ([((.slice Ah nh ch),ints RE.xs),((.slice Bh mh dh),ints RE.ys)] :: markL (mm) [((.slice Ag ng cg),ints RE.xs),((.slice Bg mg dg),ints RE.ys)] :: [((.slice Aw nw cw),ints RE.xs),((.slice Bw mw dw),ints RE.ys)] :: (cOw ++ cOm ++ cOh)) from ((SS.out.dropBox 3).drop 1).drop 1)
   clear hd hyl hml hk hst ho
   refine hK.out _ _ (aC _ _ _ SS.out) (fun aA=>?_)
   clear hK K
   try simp only [pm,s0,sS]
   refine tI 5 rfl ?_ ?_ ?_
   rotate_left
   ·intro w9 aB; (try dsimp only at aB); go_simp; try with_reducible rfl
   try simp only [pm,s0,sS]
   refine tI 6 rfl ?_ ?_ ?_
   rotate_left
   ·intro w9 aB; (try dsimp only at aB); go_simp; try with_reducible rfl
   try simp only [pm,s0,sS]
   refine tI 7 rfl ?_ ?_ ?_
   rotate_left
   ·intro w9 aB; (try dsimp only at aB); go_simp; try with_reducible rfl
   try simp only [pm,s0,sS]
   refine tI 8 rfl ?_ ?_ ?_
   rotate_left
   ·intro w9 aB; (try dsimp only at aB); go_simp; try with_reducible rfl
   try simp only [pm,s0,sS]
   refine tI 10 rfl ?_ ?_ ?_
   rotate_left
   ·intro w9 aB; (try dsimp only at aB); go_simp; try with_reducible rfl
   try simp only [pm,s0,sS]
   clear aA
   revert SS; revert gE cZ hE gF; revert b8; revert bkh; revert LAh lch yh bOh cOh Ah nh ch Bh mh dh; revert bz aW aX aY aZ a2 a3 a4 a5 a6 a7 a8 a9 bA bB bC bD bE bF
   exact FIN trivial
   exact AllReadyH.nil
   exact AllReadyH.nil
   exact AllReadyH.nil
   exact AllReadyH.nil
  intro bz aW aX aY aZ a2 a3 a4 a5 a6 a7 a8 a9 bA bB bC bD bE bF LAh lch yh bOh cOh Ah nh ch Bh mh dh bkh wq gE cZ hE gF SS
  have aA:=aC _ _ _ SS.out
  refine wpAnyH_ready (rs:=[11]) (by kernel_rfl) (by simp) ?_
  refine ac rfl ?_ ?_
  rotate_left
  exact AllReadyH.nil
  intro K hK
  rw [if_pos (by rfl)]
  refine wp_store_mid _ _ _ rfl _ _ (List.toArray [.bool RE.s,(.slice Ah nh ch),(.slice Bh mh dh)]) rfl rfl (SS.out.there_ 3 rfl rfl) (size_rat) (all_oneCell_toArray (List.all_eq_true.mp rfl)) ?_
  simp only [Act.put]
  replace SS:=Hd (SS.out.setKit 3 [.bool RE.s,(.slice Ah nh ch),(.slice Bh mh dh)] rfl rfl)
  simp only [List.set_cons_zero,List.set_cons_succ] at SS
  generalize hwz : World.setCells _ _ _ _ = wz at SS ⊢
  clear hwz
  refine hK.out _ _ (aC _ _ _ SS.out) (fun aA=>?_)
  clear hK K
  try simp only [pm,s0,sS]
  refine tI 12 rfl ?_ ?_ ?_
  rotate_left
  ·intro w9 aB; (try dsimp only at aB); go_simp; try with_reducible rfl
  try simp only [pm,s0,sS]
  refine wpAnyH_done (by kernel_rfl) ?_ _
  refine NoPanic.normal ?_
  go_wp2_with fail
  go_meet
  exact ⟨LAh,lch,yh,bOh,cOh,bkh,Ah,nh,ch,Bh,mh,dh,rfl,rfl,rfl,gE.out,cZ.out,hE.out,gF.out,SS.out⟩
 obtain ⟨LAh,lch,yh,bOh,cOh,kI,Ah,nh,ch,Bh,mh,dh,rfl,rfl,rfl,hd,hyl,hml,hk,hst⟩:=hcut
 have gE:=Hd hd
 have cZ:=Hd hyl
 have hE:=Hd hml
 have gF:=Hd hk
 have bK:=Hd (show St W wc ((aD.heap.size,[.bool RE.s,(.slice Ag ng cg),(.slice Bg mg dg)]) :: (W.heap.size,[.int .i64 A1,.int .i64 B1,.bool P1.s,p10,p11,.bool Q1.s,q10,q11,.bool R1.s,r10,r11]) :: (bI,[.bool RE.s,(.slice Aw nw cw),(.slice Bw mw dw)]) :: (kI,[.bool RE.s,(.slice Ah nh ch),(.slice Bh mh dh)]) :: (bOw ++ bOm ++ bOh)) ([((.slice Ah nh ch),ints RE.xs),((.slice Bh mh dh),ints RE.ys)] :: markL (mm) [((.slice Ag ng cg),ints RE.xs),((.slice Bg mg dg),ints RE.ys)] :: [((.slice Aw nw cw),ints RE.xs),((.slice Bw mw dw),ints RE.ys)] :: (cOw ++ cOm ++ cOh)) from hst)
 clear gD
 clear hst hd hyl hml hk
 have kJ:=bK.out.ne 0 3 rfl rfl (by decide)
 have kK:=bK.out.ne 3 0 rfl rfl (by decide)
 have jQ:=bK.out.ne 1 3 rfl rfl (by decide)
 have jR:=bK.out.ne 3 1 rfl rfl (by decide)
 have kL:=bK.out.ne 2 3 rfl rfl (by decide)
 have kM:=bK.out.ne 3 2 rfl rfl (by decide)
 obtain ⟨wnh,hwnh⟩ : ∃ u,wc = u:=⟨_,rfl⟩
 rw [hwnh] at bK ⊢
 clear hwnh
 obtain ⟨fH,fI,fJ⟩:=bK.out.c3 3 rfl
 obtain ⟨fK,fL,fM⟩:=bK.out.c3 2 rfl
 go_wp2_with fail
 refine (eqLinkS_same LAh LAw nR lch lcw yh yw _ (bK.out.lksRow gF.out (fun p hp=>by simp [hp]) (fun p hp=>by simp [hp])) (bK.out.lksRow f4.out (fun p hp=>by simp [hp]) (fun p hp=>by simp [hp])) (like_dts (gE.out.trans f2.out.symm)) (by omega)).mono ?_
 rintro e lI ⟨rfl,hb⟩
 have c7:=Hd (bK.out.call hb)
 clear bK
 clear hb
 clear fH fI fJ fK fL fM
 obtain ⟨fN,fO,fP⟩:=c7.out.c3 3 rfl
 obtain ⟨fQ,fR,fS⟩:=c7.out.c3 2 rfl
 go_wp2_with fail
 refine (eqRat_f RE (.slice Ah nh ch) (.slice Bh mh dh) _ (.slice Aw nw cw) (.slice Bw mw dw) (c7.out.fr 0 0 rfl rfl rfl).i (c7.out.fr 2 0 rfl rfl rfl).i).mono ?_
 rintro e gG ⟨rfl,hb⟩
 have i2:=Hd (c7.out.call hb)
 clear c7
 clear hb
 clear fN fO fP fQ fR fS
 have gH:=Hd (show St W gG ((aD.heap.size,[.bool RE.s,(.slice Ag ng cg),(.slice Bg mg dg)]) :: (W.heap.size,[.int .i64 A1,.int .i64 B1,.bool P1.s,p10,p11,.bool Q1.s,q10,q11,.bool R1.s,r10,r11]) :: (bI,[.bool RE.s,(.slice Aw nw cw),(.slice Bw mw dw)]) :: (kI,[.bool RE.s,(.slice Ah nh ch),(.slice Bh mh dh)]) :: (bOw ++ bOm)) ([((.slice Ah nh ch),ints RE.xs),((.slice Bh mh dh),ints RE.ys)] :: markL (mm) [((.slice Ag ng cg),ints RE.xs),((.slice Bg mg dg),ints RE.ys)] :: [((.slice Aw nw cw),ints RE.xs),((.slice Bw mw dw),ints RE.ys)] :: (cOw ++ cOm)) from (show St W gG (((aD.heap.size,[.bool RE.s,(.slice Ag ng cg),(.slice Bg mg dg)]) :: (W.heap.size,[.int .i64 A1,.int .i64 B1,.bool P1.s,p10,p11,.bool Q1.s,q10,q11,.bool R1.s,r10,r11]) :: (bI,[.bool RE.s,(.slice Aw nw cw),(.slice Bw mw dw)]) :: (kI,[.bool RE.s,(.slice Ah nh ch),(.slice Bh mh dh)]) :: (bOw ++ bOm)) ++ bOh) (([((.slice Ah nh ch),ints RE.xs),((.slice Bh mh dh),ints RE.ys)] :: markL (mm) [((.slice Ag ng cg),ints RE.xs),((.slice Bg mg dg),ints RE.ys)] :: [((.slice Aw nw cw),ints RE.xs),((.slice Bw mw dw),ints RE.ys)] :: (cOw ++ cOm)) ++ cOh) from i2.out).sub (List.sublist_append_left _ _) (List.sublist_append_left _ _))
 clear i2
 go_wp2_with fail
 refine (heldLinkS_o LAg nR lcg 1 1 (by rfl) yg W _ bOm _ cOm _ j7.out lG.out (show St W gG (((aD.heap.size,[.bool RE.s,(.slice Ag ng cg),(.slice Bg mg dg)]) :: (W.heap.size,[.int .i64 A1,.int .i64 B1,.bool P1.s,p10,p11,.bool Q1.s,q10,q11,.bool R1.s,r10,r11]) :: (bI,[.bool RE.s,(.slice Aw nw cw),(.slice Bw mw dw)]) :: (kI,[.bool RE.s,(.slice Ah nh ch),(.slice Bh mh dh)]) :: (bOw)) ++ bOm) (([((.slice Ah nh ch),ints RE.xs),((.slice Bh mh dh),ints RE.ys)] :: markL (mm) [((.slice Ag ng cg),ints RE.xs),((.slice Bg mg dg),ints RE.ys)] :: [((.slice Aw nw cw),ints RE.xs),((.slice Bw mw dw),ints RE.ys)] :: (cOw)) ++ cOm) from gH.out).swap (by rw [jT.out]; omega)).mono ?_
 rintro e lJ ⟨rfl,hb⟩
 rw [jT.out,lH.out]
 have f1:=Hd (gH.out.call hb)
 clear gH
 clear hb
 obtain ⟨fT,fU,fV⟩:=f1.out.c3 0 rfl
 go_wp2_with fail
 refine (heldRat_f (.slice Ag ng cg) (.slice Bg mg dg) _ RE.s (ints RE.xs) (ints RE.ys) (mm) W.heap.size _ (by first | rfl | omega) (f1.out.own 1 rfl) (by rw [show lenL _ = m0 from Hm0.out]; omega)).mono ?_
 rintro e lK ⟨rfl,hb⟩
 rw [show lenL _ = m0 from Hm0.out]
 have kC:=Hd (f1.out.call hb)
 clear f1
 clear hb
 clear fT fU fV
 go_wp2
 go_ret
 exact ⟨rfl,kC.out.below⟩
set_option maxRecDepth 100000 in
theorem lifted (os : Os) (started : os.Started) (H : Type) (enc : TypeId × Value → H) :
 ReturnsInHanded {} Tryz.checked os 3 .any (Rows.fnExactAddLinkSpec.pre6 enc Tryz.prog Tryz.f3 Rows.fnExactAddLinkRow.domain false) (Rows.fnExactAddLinkSpec.post enc Tryz.prog Tryz.f3 false true false false):=by
 refine returnsInHanded_of_change (C:=Tryz.checked) own started (by kernel_rfl) Tryz.func3
  (ChangeSpec.witness6 (enc:=enc) (C:=Tryz.checked) false ⟨#[],#[.slice none 0 0,.agg #[.int .i64 0,.int .i64 0,.bool false,.slice none 0 0,.slice none 0 0,.bool false,.slice none 0 0,.slice none 0 0,.bool false,.slice none 0 0,.slice none 0 0]],[]⟩ 8 (by kernel_rfl) (by kernel_rfl) (by kernel_rfl) (by kernel_rfl)) ?_
 intro W base args ds gs before hval0 hW hcnd _
 have hval : ∀ (j : Nat) t v,Tryz.f3.params[j]? = some t → args[j]? = some v → Value.okWide Tryz.prog W .any base t v:=hval0
 have hW':=hW
 obtain ⟨p,q,hA0,hV,rfl,hfz,hnd⟩:=hW
 have hA : DataW.TrodAll enc Tryz.prog W 0 (fun _=>true) true Tryz.f3.params.toList args.toList ds p:=hA0
 rw [Tryz.params3] at hA hval
 obtain ⟨v0,vs0,d0,ds0,p0,q0,hargs,rfl,rfl,h0,r0⟩:=trodAll_cons hA
 obtain ⟨v1,vs1,d1,ds1,p1,q1,rfl,rfl,rfl,h1,r1⟩:=trodAll_cons r0
 obtain ⟨rfl,rfl,rfl⟩:=trodAll_nil r1
 obtain rfl : args = #[v0,v1]:=by cases args; simp_all
 obtain ⟨rfl,rfl⟩:=trodVars_none hV
 obtain ⟨a0,len0,cap0,rfl⟩:=okWide_slice Tryz.underlying22 (hval 0 22 v0 rfl rfl)
 have k0:=h0
 have lt0 : ∀ x ∈ p0,x.block < W.heap.size:=by obtain ⟨m,hm⟩:=k0; exact DataW.trod_lt m _ _ _ hm
 obtain ⟨z0,w0⟩:=isLinks_of linkT Tryz.underlying22 h0
 have k1:=h1
 have lt1 : ∀ x ∈ p1,x.block < W.heap.size:=by obtain ⟨m,hm⟩:=k1; exact DataW.trod_lt m _ _ _ hm
 obtain ⟨A1,B1,P1,Q1,R1,p10,p11,q10,q11,r10,r11,rfl,w1⟩:=isLink_of linkT (hval 1 29 v1 rfl rfl) h1
 clear hA0 hval0
 refine (walk W a0 len0 cap0 z0 w0 A1 B1 P1 Q1 R1 p10 p11 q10 q11 r10 r11 w1).mono fun e W' ⟨he,bel⟩=>?_
 subst he
 exact ⟨_,rfl,_,_,_,[],_,[],hW',trodAll_mk1 (shut_bool Tryz.underlying4 _),(trodAll_cons_mk (Below.trod laidOut (by kernel_rfl) (of_decide_eq_true (by kernel_rfl)) k0 bel lt0) (trodAll_cons_mk (Below.trod laidOut (by kernel_rfl) (of_decide_eq_true (by kernel_rfl)) k1 bel lt1) trodAll_mk0)),rfl,bel.frame _,fun h=>by cases h⟩
theorem over : Rows.fnExactAddLinkRow.holds Tryz.pinned (OpenSpec.ofChange Rows.fnExactAddLinkSpec) :=
 OpenClaim.holds_of_wide 3 Tryz.f3 rfl rfl rfl rfl rfl rfl rfl ⟨rfl,rfl,rfl,rfl,rfl⟩ rfl rfl rfl rfl rfl (by kernel_rfl) Tryz.func3 (by kernel_rfl)
  (of_decide_eq_true (by kernel_rfl)) (by unfold Func.isWrapper; first | (rw [if_pos (by decide +kernel)]; kernel_rfl) | (rw [if_neg (by decide +kernel)]; exact ⟨rfl,rfl⟩))
  (fun os started H enc _=>lifted os started H enc)
theorem proved : Rows.FnExactAddLinkSaid:=over
#print axioms proved
end Go.Proofs.YtodoiekbjjiocaaGreat.lawAddLink
