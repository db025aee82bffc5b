/- AddLink of the program. Conditions: none. -/
import Derived.Test.YtodoiekbjjiocaaGreatAPk
import Derived.Test.YtodoiekbjjiocaaGreatAAddAns
import Derived.Test.YtodoiekbjjiocaaGreatAHand
namespace Go.Proofs.YtodoiekbjjiocaaGreat
open Go.RowKit Nt Fr
set_option linter.unusedVariables false
set_option maxRecDepth 100000
set_option maxHeartbeats 4000000
theorem addLink_i (A : Option Addr) (n c : Nat) (zs : List Lr) (x : Lr) (w : World) (hA : LArg w A n zs) (hn : n ≤ 1048576) (hL : LkA w x.P x.Q x.R x.p0 x.p1 x.q0 x.q1 x.r0 x.r1) :
 Calls Tryz.prog 10 #[.slice A n c,.agg #[.int .i64 x.A,.int .i64 x.B,.bool x.P.s,x.p0,x.p1,.bool x.Q.s,x.q0,x.q1,.bool x.R.s,x.r0,x.r1]] w (OwnSE (alAns (okSet zs && okK x.A x.B x.P x.Q x.R) (dts zs) x.d) w):=by
 obtain ⟨ZA,ZB,ZP,ZQ,ZR,a0,n0,d0,a1,n1,d1,a2,n2,d2,a3,n3,d3,a4,n4,d4,a5,n5,d5,rfl⟩:=LArg.shapes hL
 have HL:=Hd (show LkA w ZP ZQ ZR (.slice a0 n0 d0) (.slice a1 n1 d1) (.slice a2 n2 d2) (.slice a3 n3 d3) (.slice a4 n4 d4) (.slice a5 n5 d5) from hL)
 have HA:=Hd hA
 have HZL:=Hd hA.row.1
 clear hL hA
 show Calls Tryz.prog 10 #[.slice A n c,.agg #[.int .i64 ZA,.int .i64 ZB,.bool ZP.s,(.slice a0 n0 d0),(.slice a1 n1 d1),.bool ZQ.s,(.slice a2 n2 d2),(.slice a3 n3 d3),.bool ZR.s,(.slice a4 n4 d4),(.slice a5 n5 d5)]] w (OwnSE (alAns (okSet zs && okK ZA ZB ZP ZQ ZR) (dts zs) ⟨ZA,ZB,ZP,ZQ,ZR⟩) w)
 obtain ⟨os,hos⟩ : ∃ q,okSet zs = q:=⟨_,rfl⟩
 have HOS:=Hd hos
 obtain ⟨ok,hok⟩ : ∃ q,okK ZA ZB ZP ZQ ZR = q:=⟨_,rfl⟩
 have HOK:=Hd hok
 rw [hos,hok]
 clear hos hok
 have bX:=Hd (St.start2 w [.int .i64 ZA,.int .i64 ZB,.bool ZP.s,(.slice a0 n0 d0),(.slice a1 n1 d1),.bool ZQ.s,(.slice a2 n2 d2),(.slice a3 n3 d3),.bool ZR.s,(.slice a4 n4 d4),(.slice a5 n5 d5)] 40 [.bool false,.slice none 0 0,.slice none 0 0] 35)
 have bM : w.heap.size + 1 ≠ w.heap.size:=by omega
 have bN : w.heap.size ≠ w.heap.size + 1:=by omega
 go_enter Tryz.func10,Tryz.ntmps10
 obtain ⟨a6,a7,a8,a9,bA,bB,bC,bD,bE,bF,aX⟩:=bX.out.c11 1 rfl
 go_wp2_with fail
 clear a6 a7 a8 a9 bA bB bC bD bE bF aX
 refine (isLinkSet_i A n c zs _ (HA.out.below bX.out.below) hn (fun u h=>isAscending_f A n c zs u h hn)).mono ?_
 rintro e w1 ⟨rfl,hb⟩
 have aZ:=Hd (bX.out.call hb)
 clear bX
 clear hb
 rw [HOS.out]
 have hge_e:=aZ.out.ge 0 rfl
 have hlt_e:=aZ.out.lt 0 rfl
 have hlt_l:=aZ.out.lt 1 rfl
 obtain ⟨be,hbe⟩ : ∃ u,w.heap.size + 1 = u:=⟨_,rfl⟩
 obtain ⟨bl,hbl⟩ : ∃ u,w.heap.size = u:=⟨_,rfl⟩
 have HBL:=Hd hbl
 have HBE:=Hd hbe
 rw [hbe] at aZ hge_e hlt_e ⊢
 rw [hbl] at aZ hlt_l ⊢
 have hbel : be ≠ bl:=by omega
 have hbel2 : bl ≠ be:=by omega
 clear hbe hbl bN bM
 cases os with
 | false=>
  obtain ⟨bG,bQ,bH,bR,bI,bS⟩:=aZ.out.g3 0 rfl
  obtain ⟨aC,aD,aE,aF,aG,aH,aI,aJ,aK,aL,aA⟩:=aZ.out.c11 1 rfl
  go_wp2
  have SZ:=Hd (aZ.out.setAll 0 [.bool false,.slice none 0 0,.slice none 0 0] rfl rfl)
  exact bodyPost_ret (v:=.tuple #[.slice none 0 0,.agg #[.bool false,.slice none 0 0,.slice none 0 0],.bool false]) (by simp [results,Tryz.results10,go_sem,bG,bH,bI]) rfl (⟨rfl,SZ.out.below⟩)
 | true=>
  have HV:=Hd (okSet_ok HOS.out)
  obtain ⟨aC,aD,aE,aF,aG,aH,aI,aJ,aK,aL,aA⟩:=aZ.out.c11 1 rfl
  go_wp2_with fail
  clear aC aD aE aF aG aH aI aJ aK aL aA
  refine (isValidLink_i ZA ZB ZP ZQ ZR (.slice a0 n0 d0) (.slice a1 n1 d1) (.slice a2 n2 d2) (.slice a3 n3 d3) (.slice a4 n4 d4) (.slice a5 n5 d5) _ (HL.out.below aZ.out.below)).mono ?_
  rintro e w2 ⟨rfl,hb⟩
  have bO:=Hd (aZ.out.call hb)
  clear aZ
  clear hb
  rw [HOK.out]
  have hlt_e2:=bO.out.lt 0 rfl
  cases ok with
  | false=>
   obtain ⟨bJ,bT,bK,bU,bL,bV⟩:=bO.out.g3 0 rfl
   obtain ⟨aM,aN,aO,aP,aQ,aR,aS,aT,aU,aV,aB⟩:=bO.out.c11 1 rfl
   go_wp2
   have SZ:=Hd (bO.out.setAll 0 [.bool false,.slice none 0 0,.slice none 0 0] rfl rfl)
   exact bodyPost_ret (v:=.tuple #[.slice none 0 0,.agg #[.bool false,.slice none 0 0,.slice none 0 0],.bool false]) (by simp [results,Tryz.results10,go_sem,bJ,bK,bL]) rfl (⟨rfl,SZ.out.below⟩)
  | true=>
   obtain ⟨aM,aN,aO,aP,aQ,aR,aS,aT,aU,aV,aB⟩:=bO.out.c11 1 rfl
   go_upto_region 3 with fail
   clear aM aN aO aP aQ aR aS aT aU aV aB
   have aW : ∀ (w' : World) (x0_ : List Value) (bs' : List (Nat × List Value)) (cs' : List Chunk),St w w' ((be,x0_) :: (bl,[.int .i64 ZA,.int .i64 ZB,.bool ZP.s,(.slice a0 n0 d0),(.slice a1 n1 d1),.bool ZQ.s,(.slice a2 n2 d2),(.slice a3 n3 d3),.bool ZR.s,(.slice a4 n4 d4),(.slice a5 n5 d5)]) :: bs') cs' → w'.cell? ⟨bl,0,none⟩ = some (.int .i64 ZA) ∧ w'.cell? ⟨bl,1,none⟩ = some (.int .i64 ZB) ∧ w'.cell? ⟨bl,2,none⟩ = some (.bool ZP.s) ∧ w'.cell? ⟨bl,3,none⟩ = some ((.slice a0 n0 d0)) ∧ w'.cell? ⟨bl,4,none⟩ = some ((.slice a1 n1 d1)) ∧ w'.cell? ⟨bl,5,none⟩ = some (.bool ZQ.s) ∧ w'.cell? ⟨bl,6,none⟩ = some ((.slice a2 n2 d2)) ∧ w'.cell? ⟨bl,7,none⟩ = some ((.slice a3 n3 d3)) ∧ w'.cell? ⟨bl,8,none⟩ = some (.bool ZR.s) ∧ w'.cell? ⟨bl,9,none⟩ = some ((.slice a4 n4 d4)) ∧ w'.cell? ⟨bl,10,none⟩ = some ((.slice a5 n5 d5)):=fun w' x0_ bs' cs' h=>(h.c11 1 rfl)
   refine wp_region_noPanic ?_
   refine wp_region_held_drew (S:=(fun w' =>w'.cell? ⟨bl,0,none⟩ = some (.int .i64 ZA) ∧ w'.cell? ⟨bl,1,none⟩ = some (.int .i64 ZB) ∧ w'.cell? ⟨bl,2,none⟩ = some (.bool ZP.s) ∧ w'.cell? ⟨bl,3,none⟩ = some ((.slice a0 n0 d0)) ∧ w'.cell? ⟨bl,4,none⟩ = some ((.slice a1 n1 d1)) ∧ w'.cell? ⟨bl,5,none⟩ = some (.bool ZQ.s) ∧ w'.cell? ⟨bl,6,none⟩ = some ((.slice a2 n2 d2)) ∧ w'.cell? ⟨bl,7,none⟩ = some ((.slice a3 n3 d3)) ∧ w'.cell? ⟨bl,8,none⟩ = some (.bool ZR.s) ∧ w'.cell? ⟨bl,9,none⟩ = some ((.slice a4 n4 d4)) ∧ w'.cell? ⟨bl,10,none⟩ = some ((.slice a5 n5 d5)))) (by kernel_rfl) ?_ (fun bW=>?_)
   ·exact aW _ _ _ _ bO.out.drew
   have bP:=Hd bO.out.drew
   clear bO
   generalize hwd : World.drew _ = wd at bP bW ⊢
   clear hwd
   refine tI 0 rfl ?_ ?_ ?_
   rotate_left
   ·intro w9 aY; (try dsimp only at aY); go_simp; try with_reducible rfl
   try simp only [pm,s0,sS]
   refine tI 2 rfl ?_ ?_ ?_
   rotate_left
   ·intro w9 aY; (try dsimp only at aY); go_simp; try with_reducible rfl
   try simp only [pm,s0,sS]
   refine wpAnyH_ready (rs:=[1]) (by kernel_rfl) (by simp) ?_
   refine ac rfl (fun K hK=>?_) AllReadyH.nil
   go_simp
   go_at_call 33
   refine (copiedLinks_f A n c zs _ (HA.out.below bP.out.below) hn HV.out).mono ?_
   rintro e w4 ⟨v4,ys,rfl,hdt,hg4⟩
   have SX:=Hd (bP.out.call hg4.below)
   have G_4:=Hd hg4
   have bY:=Hd hdt
   have hs4:=hg4.below.size
   clear hdt hg4
   refine hK.out _ _ (aW _ _ _ _ SX.out) (fun bZ=>?_)
   clear hK K
   try simp only [pm,s0,sS]
   refine wpAnyH_ready (rs:=[3]) (by kernel_rfl) (by simp) ?_
   refine ac rfl (fun K hK=>?_) AllReadyH.nil
   go_simp
   go_at_call 32
   refine (addTo_f v4 ys ⟨ZA,ZB,ZP,ZQ,ZR,.slice a0 n0 d0,.slice a1 n1 d1,.slice a2 n2 d2,.slice a3 n3 d3,.slice a4 n4 d4,.slice a5 n5 d5⟩ _ _ G_4.out (by rw [len_like bY.out,HZL.out]; exact hn) (ok_like bY.out HV.out) HOK.out (HL.out.below SX.out.below)).mono ?_
   rintro e w5 ⟨hse,hT5⟩
   obtain ⟨v5,s5,A5,n5_,c5_,B5,m5_,d5_,ok5,rfl,hb5,hs5⟩:=hse.opened
   have SY:=Hd (bP.out.call hb5)
   have HSE:=Hd hs5
   clear hse hT5 hb5 hs5 SX
   refine hK.out _ _ (aW _ _ _ _ SY.out) (fun b0=>?_)
   clear hK K
   try simp only [pm,s0,sS]
   refine tI 4 rfl ?_ ?_ ?_
   rotate_left
   ·intro w9 aY; (try dsimp only at aY); go_simp; try with_reducible rfl
   try simp only [pm,s0,sS]
   refine tI 5 rfl ?_ ?_ ?_
   rotate_left
   ·intro w9 aY; (try dsimp only at aY); go_simp; try with_reducible rfl
   try simp only [pm,s0,sS]
   refine tI 6 rfl ?_ ?_ ?_
   rotate_left
   ·intro w9 aY; (try dsimp only at aY); go_simp; try with_reducible rfl
   try simp only [pm,s0,sS]
   refine tI 7 rfl ?_ ?_ ?_
   rotate_left
   ·intro w9 aY; (try dsimp only at aY); go_simp; try with_reducible rfl
   try simp only [pm,s0,sS]
   refine wpAnyH_ready (rs:=[8]) (by kernel_rfl) (by simp) ?_
   refine ac rfl (fun K hK=>?_) AllReadyH.nil
   rw [if_pos (by rfl)]
   refine wp_store_mid _ _ _ rfl _ _ (List.toArray [.bool s5,.slice A5 n5_ c5_,.slice B5 m5_ d5_]) rfl rfl (SY.out.there_ 0 rfl rfl) (size_rat) (all_oneCell_toArray (cs:=[.bool s5,.slice A5 n5_ c5_,.slice B5 m5_ d5_]) (List.all_eq_true.mp rfl)) ?_
   simp only [Act.put]
   have b1:=Hd (SY.out.setKit 0 [.bool s5,.slice A5 n5_ c5_,.slice B5 m5_ d5_] rfl rfl)
   clear SY
   have PF:=Hd (show OwnSE (addD (dts ys) ⟨ZA,ZB,ZP,ZQ,ZR⟩) w (.returned (.tuple #[v5,.agg #[.bool s5,.slice A5 n5_ c5_,.slice B5 m5_ d5_],.bool ok5])) (World.setCells w5 be 0 [.bool s5,.slice A5 n5_ c5_,.slice B5 m5_ d5_]) from by rw [setCells_kit]; exact HSE.out.stored bP.out.below (bP.out.lt 0 rfl) (bP.out.ge 0 rfl) 0 _)
   generalize hwq : World.setCells _ _ _ _ = wq8 at b1 PF ⊢
   clear hwq
   refine hK.out _ _ (aW _ _ _ _ b1.out) (fun b2=>?_)
   clear hK K
   try simp only [pm,s0,sS]
   refine tI 9 rfl ?_ ?_ ?_
   rotate_left
   ·intro w9 aY; (try dsimp only at aY); go_simp; try with_reducible rfl
   try simp only [pm,s0,sS]
   refine wpAnyH_done (by kernel_rfl) ?_ _
   refine NoPanic.normal ?_
   obtain ⟨r0,r1,r2⟩:=b1.out.c3 0 rfl
   go_wp2_with fail
   exact bodyPost_ret (v:=.tuple #[v5,.agg #[.bool s5,.slice A5 n5_ c5_,.slice B5 m5_ d5_],.bool ok5]) (by simp [results,Tryz.results10,go_sem,r0,r1,r2]) rfl (by rw [show alAns (true && true) (dts zs) ⟨ZA,ZB,ZP,ZQ,ZR⟩ = addD (dts ys) ⟨ZA,ZB,ZP,ZQ,ZR⟩ from by rw [bY.out]; rfl]; exact PF.out)
end Go.Proofs.YtodoiekbjjiocaaGreat
