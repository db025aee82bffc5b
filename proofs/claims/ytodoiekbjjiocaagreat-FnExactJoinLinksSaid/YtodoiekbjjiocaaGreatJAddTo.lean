/- A link added to a slice of links of the call's own (program). Conditions: none. -/
import Derived.Test.YtodoiekbjjiocaaGreatJPk
import Derived.Test.YtodoiekbjjiocaaGreatJPutL
import Derived.Test.YtodoiekbjjiocaaGreatJCopies
namespace Go.Proofs.YtodoiekbjjiocaaGreat
open Go.RowKit Nt Fr
set_option linter.unusedVariables false
set_option maxRecDepth 100000
set_option maxHeartbeats 4000000
theorem addTo_f (v : Value) (ys : List Lr) (x : Lr) (w0 w : World) (hG : LGrow w0 w v ys) (hn : ys.length ≤ 1048576) (hok : ∀ z ∈ ys,okK z.A z.B z.P z.Q z.R = true) (hk : okK x.A x.B x.P x.Q x.R = true) (hL : LkA w x.P x.Q x.R x.p0 x.p1 x.q0 x.q1 x.r0 x.r1) :
 Calls Tryz.prog 32 #[v,.agg #[.int .i64 x.A,.int .i64 x.B,.bool x.P.s,x.p0,x.p1,.bool x.Q.s,x.q0,x.q1,.bool x.R.s,x.r0,x.r1]] w (fun e w' =>OwnSE (addD (dts ys) x.d) w0 e w' ∧ Turned w w' [v.ownBlock]):=by
 obtain ⟨ZA,ZB,ZP,ZQ,ZR,a0,n0,d0,a1,n1,d1,a2,n2,d2,a3,n3,d3,a4,n4,d4,a5,n5,d5,rfl⟩:=LArg.shapes hL
 have HK:=Hd (show okK ZA ZB ZP ZQ ZR = true from hk)
 have HL:=Hd (show LkA w ZP ZQ ZR (.slice a0 n0 d0) (.slice a1 n1 d1) (.slice a2 n2 d2) (.slice a3 n3 d3) (.slice a4 n4 d4) (.slice a5 n5 d5) from hL)
 have HV:=Hd hok
 clear hk hL hok
 show Calls Tryz.prog 32 #[v,.agg #[.int .i64 ZA,.int .i64 ZB,.bool ZP.s,(.slice a0 n0 d0),(.slice a1 n1 d1),.bool ZQ.s,(.slice a2 n2 d2),(.slice a3 n3 d3),.bool ZR.s,(.slice a4 n4 d4),(.slice a5 n5 d5)]] w (fun e w' =>OwnSE (addD (dts ys) ⟨ZA,ZB,ZP,ZQ,ZR⟩) w0 e w' ∧ Turned w w' [v.ownBlock])
 obtain ⟨A,c,rfl,hA⟩:=larg_grow hG
 have HA:=Hd hA
 have HG:=Hd hG
 have HBB:=Hd hG.below
 clear hA hG
 have dN:=Hd (St.start2 w [.int .i64 ZA,.int .i64 ZB,.bool ZP.s,(.slice a0 n0 d0),(.slice a1 n1 d1),.bool ZQ.s,(.slice a2 n2 d2),(.slice a3 n3 d3),.bool ZR.s,(.slice a4 n4 d4),(.slice a5 n5 d5)] 40 [.bool false,.slice none 0 0,.slice none 0 0] 35)
 have cV : w.heap.size + 1 ≠ w.heap.size:=by omega
 have cW : w.heap.size ≠ w.heap.size + 1:=by omega
 go_enter Tryz.func32,Tryz.ntmps32
 obtain ⟨bY,bZ,b0,b1,b2,b3,b4,b5,b6,b7,bS⟩:=dN.out.c11 1 rfl
 go_wp2_with fail
 refine (placeOf_f A ys.length c ys ZA ZB ZP ZQ ZR (.slice a0 n0 d0) (.slice a1 n1 d1) (.slice a2 n2 d2) (.slice a3 n3 d3) (.slice a4 n4 d4) (.slice a5 n5 d5) _ (HA.out.below dN.out.below) (by omega)).mono ?_
 rintro e w2 ⟨i,f,rfl,hp,hb⟩
 have HP:=Hd hp
 have hile:=hp.1
 have bG:=Hd (dN.out.call hb)
 clear dN
 clear hb hp
 clear bY bZ b0 b1 b2 b3 b4 b5 b6 b7 bS
 have hge_e:=bG.out.ge 0 rfl
 have hge_l:=bG.out.ge 1 rfl
 have hlt_e:=bG.out.lt 0 rfl
 have hlt_l:=bG.out.lt 1 rfl
 obtain ⟨be,hbe⟩ : ∃ u,w.heap.size + 1 = u:=⟨_,rfl⟩
 obtain ⟨bl,hbl⟩ : ∃ u,w.heap.size = u:=⟨_,rfl⟩
 have HBL:=Hd hbl
 have HBE:=Hd hbe
 rw [hbe] at bG hge_e hlt_e ⊢
 rw [hbl] at bG ⊢
 have hbel : be ≠ bl:=by omega
 have hbel2 : bl ≠ be:=by omega
 clear hbe hbl cW cV
 cases f with
 | false=>
  have HE:=Hd (add_miss (x:=⟨ZA,ZB,ZP,ZQ,ZR⟩) HP.out)
  obtain ⟨b8,cA,cB,cC,cD,cE,cF,cG,cH,cI,bT⟩:=bG.out.c11 1 rfl
  go_wp2_with fail
  clear b8 cA cB cC cD cE cF cG cH cI bT
  refine (linkCopied_f ZA ZB ZP ZQ ZR (.slice a0 n0 d0) (.slice a1 n1 d1) (.slice a2 n2 d2) (.slice a3 n3 d3) (.slice a4 n4 d4) (.slice a5 n5 d5) _ HK.out (HL.out.below bG.out.below)).mono ?_
  rintro e w3 ⟨x0,x1,x2,x3,x4,x5,rfl,ho,hb⟩
  obtain ⟨e0,m0,h0,rfl⟩:=(ho.at_ 0 rfl).shape3
  obtain ⟨e1,m1,h1,rfl⟩:=(ho.at_ 1 rfl).shape3
  obtain ⟨e2,m2,h2,rfl⟩:=(ho.at_ 2 rfl).shape3
  obtain ⟨e3,m3,h3,rfl⟩:=(ho.at_ 3 rfl).shape3
  obtain ⟨e4,m4,h4,rfl⟩:=(ho.at_ 4 rfl).shape3
  obtain ⟨e5,m5,h5,rfl⟩:=(ho.at_ 5 rfl).shape3
  have O_3:=Hd (show Owns w3 _ (Lr.rows (⟨ZA,ZB,ZP,ZQ,ZR,.slice e0 m0 h0,.slice e1 m1 h1,.slice e2 m2 h2,.slice e3 m3 h3,.slice e4 m4 h4,.slice e5 m5 h5⟩ : Lr)) from ho)
  have hs2:=bG.out.size
  have dO:=Hd (bG.out.call hb)
  clear bG
  have hs3:=hb.size
  clear ho hb
  have hs4 : (w3.alloc (.cells #[.int .i64 ZA,.int .i64 ZB,.bool ZP.s,.slice e0 m0 h0,.slice e1 m1 h1,.bool ZQ.s,.slice e2 m2 h2,.slice e3 m3 h3,.bool ZR.s,.slice e4 m4 h4,.slice e5 m5 h5] 40)).heap.size = w3.heap.size + 1:=by simp
  have GA:=Hd ((HG.out.call dO.out.below).alloc (.cells #[.int .i64 ZA,.int .i64 ZB,.bool ZP.s,.slice e0 m0 h0,.slice e1 m1 h1,.bool ZQ.s,.slice e2 m2 h2,.slice e3 m3 h3,.bool ZR.s,.slice e4 m4 h4,.slice e5 m5 h5] 40))
  have OA:=Hd (O_3.out.below ((Below.refl _ _).alloc (Nat.le_refl _) (.cells #[.int .i64 ZA,.int .i64 ZB,.bool ZP.s,.slice e0 m0 h0,.slice e1 m1 h1,.bool ZQ.s,.slice e2 m2 h2,.slice e3 m3 h3,.bool ZR.s,.slice e4 m4 h4,.slice e5 m5 h5] 40)))
  have HEA:=Hd ((dO.out.held 0 rfl).alloc (.cells #[.int .i64 ZA,.int .i64 ZB,.bool ZP.s,.slice e0 m0 h0,.slice e1 m1 h1,.bool ZQ.s,.slice e2 m2 h2,.slice e3 m3 h3,.bool ZR.s,.slice e4 m4 h4,.slice e5 m5 h5] 40))
  have hob : (Value.slice A ys.length c).ownBlock ≠ some w3.heap.size:=(HG.out.old (by omega)).1
  have hoe : (Value.slice A ys.length c).ownBlock ≠ some be:=(HG.out.old (by omega)).1
  have hfr : FarL (rowsL ys) (Lr.rows (⟨ZA,ZB,ZP,ZQ,ZR,.slice e0 m0 h0,.slice e1 m1 h1,.slice e2 m2 h2,.slice e3 m3 h3,.slice e4 m4 h4,.slice e5 m5 h5⟩ : Lr)):=(HG.out.row.newer O_3.out (by omega)).symm
  have hfv : ∀ q ∈ Lr.rows (⟨ZA,ZB,ZP,ZQ,ZR,.slice e0 m0 h0,.slice e1 m1 h1,.slice e2 m2 h2,.slice e3 m3 h3,.slice e4 m4 h4,.slice e5 m5 h5⟩ : Lr),Far (Value.slice A ys.length c).ownBlock q.1.ownBlock:=fun q hq j e1 e2=>by
   have a1:=((O_3.out.1 q hq).lt j e2).1
   have a2:=(HG.out.own.lt j e1).2
   omega
  have HOB:=Hd hob
  have HOE:=Hd hoe
  have HFR:=Hd hfr
  have HFV:=Hd hfv
  clear hob hoe hfr hfv
  go_wp2_with fail
  refine (insert_f _ i w3.heap.size ys (⟨ZA,ZB,ZP,ZQ,ZR,.slice e0 m0 h0,.slice e1 m1 h1,.slice e2 m2 h2,.slice e3 m3 h3,.slice e4 m4 h4,.slice e5 m5 h5⟩ : Lr) w0 _ GA.out hile hn (OA.out.based (by have:=HBB.out.size; omega)) HFR.out HFV.out (new_at_size _ _) HOB.out).mono ?_
  rintro e w4 ⟨v4,rfl,hg4,hw4⟩
  have G_4:=Hd hg4
  have dU:=Hd (HEA.out.grown hw4 (fun h=>HOE.out h.symm))
  have hs5:=hw4.size
  have T_4:=Hd (Turned.grownO (Turned.ofB (dO.out.below.alloc dO.out.below.size _)) hw4)
  clear hg4 hw4 GA HEA
  go_wp2_with fail
  refine (ratFromInt_i 0 _ (by decide)).mono ?_
  rintro e w5 ⟨u0,u1,rfl,ho,hb⟩
  obtain ⟨Ae,ne,ce,rfl⟩:=(ho.at_ 0 rfl).shape3
  obtain ⟨Be,me,de,rfl⟩:=(ho.at_ 1 rfl).shape3
  have G_5:=Hd (G_4.out.call hb)
  have dT:=Hd (dU.out.after hb)
  have O_5:=Hd ho
  have T_5:=Hd (T_4.out.callB hb)
  clear ho hb
  obtain ⟨z0,fz0,z1,fz1,z2,fz2⟩:=dT.out.g3
  have HN:=Hd (G_5.out.apart (by simp) dT.out)
  have HRW:=Hd (show ∀ q ∈ rowsL (ys.take i ++ (⟨ZA,ZB,ZP,ZQ,ZR,.slice e0 m0 h0,.slice e1 m1 h1,.slice e2 m2 h2,.slice e3 m3 h3,.slice e4 m4 h4,.slice e5 m5 h5⟩ : Lr) :: ys.drop i),q.1.ownBlock ≠ some be from fun q hq=>(rowsL_ins_mem hq).elim (fun a=>(HG.out.old (by omega)).2 q a) (fun a=>O_3.out.young (by omega) q a))
  have HFE:=Hd ((G_4.out.row.newer O_5.out (Nat.le_refl _)).symm)
  have HFW:=Hd (show ∀ q ∈ [(Value.slice Ae ne ce,ints (Fr.of 0).xs),(Value.slice Be me de,ints (Fr.of 0).ys)],Far v4.ownBlock q.1.ownBlock from fun q hq j e1 e2=>by
   have a1:=((O_5.out.1 q hq).lt j e2).1
   have a2:=(G_4.out.own.lt j e1).2
   omega)
  have HW0:=Hd (show w0.heap.size ≤ be from by have:=HBB.out.size; omega)
  have HW4:=Hd (show be < w4.heap.size from by omega)
  have hs0:=HBB.out.size
  go_wp2
  have GF:=Hd (G_5.out.stored HW0.out HN.out HRW.out 0 [.bool (Fr.of 0).s,.slice Ae ne ce,.slice Be me de])
  have OF:=Hd ((O_5.out.stored (O_5.out.young HW4.out) 0 [.bool (Fr.of 0).s,.slice Ae ne ce,.slice Be me de]).based (base':=w0.heap.size) (by have:=G_4.out.below.size; omega))
  exact bodyPost_ret (v:=.tuple #[v4,.agg #[.bool (Fr.of 0).s,.slice Ae ne ce,.slice Be me de],.bool true]) (by simp [results,Tryz.results32,go_sem,z0,z1,z2]) rfl ⟨by rw [HE.out]; exact ⟨v4,(ys.take i ++ (⟨ZA,ZB,ZP,ZQ,ZR,.slice e0 m0 h0,.slice e1 m1 h1,.slice e2 m2 h2,.slice e3 m3 h3,.slice e4 m4 h4,.slice e5 m5 h5⟩ : Lr) :: ys.drop i),_,_,rfl,dts_ins ys i _,⟨GF.out,OF.out,HFE.out,HFW.out⟩⟩,T_5.out.box hge_e 0 [.bool (Fr.of 0).s,.slice Ae ne ce,.slice Be me de]⟩
 | true=>
  have hlt : i < ys.length:=by
   rcases Nat.lt_or_eq_of_le hile with h | h
   ·exact h
   ·exact absurd (HP.out.2.2.2 h) (by decide)
  obtain ⟨g,o,y,hAe,hg,hz,hr,hc⟩:=HA.out.at_ hlt
  subst hAe
  have HO0:=Hd (show o = 0 from by
   rcases HG.out.own.2 with ⟨e,_⟩ | ⟨g2,cap,cur,e,_⟩
   ·cases e
   ·cases e; rfl)
  have hyv:=HV.out y (List.mem_of_getElem? hz)
  obtain ⟨YA,YB,YP,YQ,YR,a0y,n0y,d0y,a1y,n1y,d1y,a2y,n2y,d2y,a3y,n3y,d3y,a4y,n4y,d4y,a5y,n5y,d5y,rfl⟩:=LArg.shapes hr
  have dV:=Hd (show okK YA YB YP YQ YR = true from hyv)
  have dW:=Hd (show LkA w YP YQ YR (.slice a0y n0y d0y) (.slice a1y n1y d1y) (.slice a2y n2y d2y) (.slice a3y n3y d3y) (.slice a4y n4y d4y) (.slice a5y n5y d5y) from hr)
  have HZ:=Hd hz
  have HE:=Hd (add_hit (x:=⟨ZA,ZB,ZP,ZQ,ZR⟩) HP.out hz)
  have c0 : w.cell? ⟨g,o + i * 11,none⟩ = some (.int .i64 YA):=hc 0 _ rfl
  have c1 : w.cell? ⟨g,o + i * 11 + 1,none⟩ = some (.int .i64 YB):=hc 1 _ rfl
  have c2 : w.cell? ⟨g,o + i * 11 + 2,none⟩ = some (.bool YP.s):=hc 2 _ rfl
  have c3 : w.cell? ⟨g,o + i * 11 + 3,none⟩ = some ((.slice a0y n0y d0y)):=hc 3 _ rfl
  have c4 : w.cell? ⟨g,o + i * 11 + 4,none⟩ = some ((.slice a1y n1y d1y)):=hc 4 _ rfl
  have c5 : w.cell? ⟨g,o + i * 11 + 5,none⟩ = some (.bool YQ.s):=hc 5 _ rfl
  have c6 : w.cell? ⟨g,o + i * 11 + 6,none⟩ = some ((.slice a2y n2y d2y)):=hc 6 _ rfl
  have c7 : w.cell? ⟨g,o + i * 11 + 7,none⟩ = some ((.slice a3y n3y d3y)):=hc 7 _ rfl
  have c8 : w.cell? ⟨g,o + i * 11 + 8,none⟩ = some (.bool YR.s):=hc 8 _ rfl
  have c9 : w.cell? ⟨g,o + i * 11 + 9,none⟩ = some ((.slice a4y n4y d4y)):=hc 9 _ rfl
  have c10 : w.cell? ⟨g,o + i * 11 + 10,none⟩ = some ((.slice a5y n5y d5y)):=hc 10 _ rfl
  have HC:=Hd hc
  clear hz hr hc hyv
  obtain ⟨ok,hhok⟩ : ∃ q,mwOk YA YB YP YQ YR ZP ZQ ZR = q:=⟨_,rfl⟩
  obtain ⟨NA,hhNA⟩ : ∃ q,pi ok YA = q:=⟨_,rfl⟩
  obtain ⟨NB,hhNB⟩ : ∃ q,pi ok YB = q:=⟨_,rfl⟩
  obtain ⟨NP,hhNP⟩ : ∃ q,pk ok (YP.add ZP) = q:=⟨_,rfl⟩
  obtain ⟨NQ,hhNQ⟩ : ∃ q,pk ok (mgX YP YQ ZP ZQ) = q:=⟨_,rfl⟩
  obtain ⟨NR,hhNR⟩ : ∃ q,pk ok (mgX YP YR ZP ZR) = q:=⟨_,rfl⟩
  obtain ⟨NE,hhNE⟩ : ∃ q,pk ok (mgE YP YQ YR ZP ZQ ZR) = q:=⟨_,rfl⟩
  have HM:=Hd (show ∀ u : World,Below w.heap.size w u → Calls Tryz.prog 64 #[.agg #[.int .i64 YA,.int .i64 YB,.bool YP.s,(.slice a0y n0y d0y),(.slice a1y n1y d1y),.bool YQ.s,(.slice a2y n2y d2y),(.slice a3y n3y d3y),.bool YR.s,(.slice a4y n4y d4y),(.slice a5y n5y d5y)],.agg #[.int .i64 ZA,.int .i64 ZB,.bool ZP.s,(.slice a0 n0 d0),(.slice a1 n1 d1),.bool ZQ.s,(.slice a2 n2 d2),(.slice a3 n3 d3),.bool ZR.s,(.slice a4 n4 d4),(.slice a5 n5 d5)]] u (OwnM NA NB NP NQ NR NE ok u) from fun u hu=>by
   have h:=mergedWith_f YA YB YP YQ YR (.slice a0y n0y d0y) (.slice a1y n1y d1y) (.slice a2y n2y d2y) (.slice a3y n3y d3y) (.slice a4y n4y d4y) (.slice a5y n5y d5y) ZA ZB ZP ZQ ZR (.slice a0 n0 d0) (.slice a1 n1 d1) (.slice a2 n2 d2) (.slice a3 n3 d3) (.slice a4 n4 d4) (.slice a5 n5 d5) u dV.out HK.out (dW.out.below hu) (HL.out.below hu)
   unfold OwnMG at h
   rw [hhok,hhNA,hhNB,hhNP,hhNQ,hhNR,hhNE] at h
   exact h)
  have Hokok:=Hd hhok
  clear hhok
  have HNANA:=Hd hhNA
  clear hhNA
  have HNBNB:=Hd hhNB
  clear hhNB
  have HNPNP:=Hd hhNP
  clear hhNP
  have HNQNQ:=Hd hhNQ
  clear hhNQ
  have HNRNR:=Hd hhNR
  clear hhNR
  have HNENE:=Hd hhNE
  clear hhNE
  obtain ⟨cJ,cK,cL,cM,cN,cO,cP,cQ,cR,cS,bU⟩:=bG.out.c11 1 rfl
  go_upto_region 4 with fail
  clear cJ cK cL cM cN cO cP cQ cR cS bU
  go_cut [9,10,11] (fun p9 p10 q11 wx=>∃ b9 b10 aG aH aI aJ aK aL aM aN aO aP aQ aR aS aT aU aV aW aX aA aB aC aD aE aF,p9 = .pointer (some ⟨b9,0,none⟩) ∧ p10 = .pointer (some ⟨b10,0,none⟩) ∧ q11 = .bool ok ∧ St w wx [(be,[.bool false,.slice none 0 0,.slice none 0 0]),(bl,[.int .i64 ZA,.int .i64 ZB,.bool ZP.s,(.slice a0 n0 d0),(.slice a1 n1 d1),.bool ZQ.s,(.slice a2 n2 d2),(.slice a3 n3 d3),.bool ZR.s,(.slice a4 n4 d4),(.slice a5 n5 d5)]),(b9,[.int .i64 NA,.int .i64 NB,.bool NP.s,(.slice aG aH aI),(.slice aJ aK aL),.bool NQ.s,(.slice aM aN aO),(.slice aP aQ aR),.bool NR.s,(.slice aS aT aU),(.slice aV aW aX)]),(b10,[.bool NE.s,(.slice aA aB aC),(.slice aD aE aF)])] [(rowsK NP NQ NR (.slice aG aH aI) (.slice aJ aK aL) (.slice aM aN aO) (.slice aP aQ aR) (.slice aS aT aU) (.slice aV aW aX) ++ [((.slice aA aB aC),ints NE.xs),((.slice aD aE aF),ints NE.ys)])])
  case first=>
   refine wp_region_noPanic ?_
   refine wp_region_held_drew (S:=(fun w' =>w'.cell? ⟨bl,0,none⟩ = some (.int .i64 ZA) ∧ w'.cell? ⟨bl,1,none⟩ = some (.int .i64 ZB) ∧ w'.cell? ⟨bl,2,none⟩ = some (.bool ZP.s) ∧ w'.cell? ⟨bl,3,none⟩ = some ((.slice a0 n0 d0)) ∧ w'.cell? ⟨bl,4,none⟩ = some ((.slice a1 n1 d1)) ∧ w'.cell? ⟨bl,5,none⟩ = some (.bool ZQ.s) ∧ w'.cell? ⟨bl,6,none⟩ = some ((.slice a2 n2 d2)) ∧ w'.cell? ⟨bl,7,none⟩ = some ((.slice a3 n3 d3)) ∧ w'.cell? ⟨bl,8,none⟩ = some (.bool ZR.s) ∧ w'.cell? ⟨bl,9,none⟩ = some ((.slice a4 n4 d4)) ∧ w'.cell? ⟨bl,10,none⟩ = some ((.slice a5 n5 d5)) ∧ w'.cell? ⟨g,o + i * 11,none⟩ = some (.int .i64 YA) ∧ w'.cell? ⟨g,o + i * 11 + 1,none⟩ = some (.int .i64 YB) ∧ w'.cell? ⟨g,o + i * 11 + 2,none⟩ = some (.bool YP.s) ∧ w'.cell? ⟨g,o + i * 11 + 3,none⟩ = some ((.slice a0y n0y d0y)) ∧ w'.cell? ⟨g,o + i * 11 + 4,none⟩ = some ((.slice a1y n1y d1y)) ∧ w'.cell? ⟨g,o + i * 11 + 5,none⟩ = some (.bool YQ.s) ∧ w'.cell? ⟨g,o + i * 11 + 6,none⟩ = some ((.slice a2y n2y d2y)) ∧ w'.cell? ⟨g,o + i * 11 + 7,none⟩ = some ((.slice a3y n3y d3y)) ∧ w'.cell? ⟨g,o + i * 11 + 8,none⟩ = some (.bool YR.s) ∧ w'.cell? ⟨g,o + i * 11 + 9,none⟩ = some ((.slice a4y n4y d4y)) ∧ w'.cell? ⟨g,o + i * 11 + 10,none⟩ = some ((.slice a5y n5y d5y)))) (by kernel_rfl) ?_ (fun dG=>?_)
   ·exact (bG.out.drew.d11 1 rfl (bc11 bG.out.drew.below hg c0 c1 c2 c3 c4 c5 c6 c7 c8 c9 c10))
   have dH:=Hd bG.out.drew
   clear bG
   generalize hwd : World.drew _ = wd at dH dG ⊢
   clear hwd
   refine tI 0 rfl ?_ ?_ ?_
   rotate_left
   ·intro w9 aY; (try dsimp only at aY); go_simp; try with_reducible rfl
   try simp only [pm,s0,sS]
   refine tI 1 rfl ?_ ?_ ?_
   rotate_left
   ·intro w9 aY; (try dsimp only at aY); go_simp; try with_reducible rfl
   try simp only [pm,s0,sS]
   refine tI 2 rfl ?_ ?_ ?_
   rotate_left
   ·intro w9 aY; (try dsimp only at aY); go_simp; try with_reducible rfl
   try simp only [pm,s0,sS]
   refine tI 3 rfl ?_ ?_ ?_
   rotate_left
   ·intro w9 aY; (try dsimp only at aY); go_simp; try with_reducible rfl
   try simp only [pm,s0,sS]
   refine tI 4 rfl ?_ ?_ ?_
   rotate_left
   ·intro w9 aY; (try dsimp only at aY); go_simp; try with_reducible rfl
   try simp only [pm,s0,sS]
   refine wpAnyH_ready (rs:=[5,10,11]) (by kernel_rfl) (by simp) ?_
   refine ac rfl (fun K hK=>?_) ?_
   ·go_simp
    go_at_call 64
    refine (HM.out _ (dH.out.below)).mono ?_
    rintro e w6 ⟨cX,cY,cZ,dA,dB,dC,dD,dE,rfl,ho,hb⟩
    obtain ⟨aG,aH,aI,rfl⟩:=(ho.at_ 0 rfl).shape3
    obtain ⟨aJ,aK,aL,rfl⟩:=(ho.at_ 1 rfl).shape3
    obtain ⟨aM,aN,aO,rfl⟩:=(ho.at_ 2 rfl).shape3
    obtain ⟨aP,aQ,aR,rfl⟩:=(ho.at_ 3 rfl).shape3
    obtain ⟨aS,aT,aU,rfl⟩:=(ho.at_ 4 rfl).shape3
    obtain ⟨aV,aW,aX,rfl⟩:=(ho.at_ 5 rfl).shape3
    obtain ⟨aA,aB,aC,rfl⟩:=(ho.at_ 6 rfl).shape3
    obtain ⟨aD,aE,aF,rfl⟩:=(ho.at_ 7 rfl).shape3
    have bC:=Hd (dH.out.rows ho hb)
    clear dH ho hb
    refine hK.out _ _ (bC.out.d11 1 rfl (bc11 bC.out.below hg c0 c1 c2 c3 c4 c5 c6 c7 c8 c9 c10)) (fun bF=>?_)
    clear hK K
    try simp only [pm,s0,sS]
    refine tI 6 rfl ?_ ?_ ?_
    rotate_left
    ·intro w9 aY; (try dsimp only at aY); go_simp; try with_reducible rfl
    try simp only [pm,s0,sS]
    refine tI 7 rfl ?_ ?_ ?_
    rotate_left
    ·intro w9 aY; (try dsimp only at aY); go_simp; try with_reducible rfl
    try simp only [pm,s0,sS]
    refine tI 8 rfl ?_ ?_ ?_
    rotate_left
    ·intro w9 aY; (try dsimp only at aY); go_simp; try with_reducible rfl
    try simp only [pm,s0,sS]
    refine tI 9 rfl ?_ ?_ ?_
    rotate_left
    ·intro w9 aY; (try dsimp only at aY); go_simp; try with_reducible rfl
    try simp only [pm,s0,sS]
    refine wpAnyH_ready (rs:=[10,11]) (by kernel_rfl) (by simp) ?_
    refine ac rfl (fun K hK=>?_) ?_
    ·go_simp
     have a8:=Hd (bC.out.allocE [.int .i64 0,.int .i64 0,.bool false,.slice none 0 0,.slice none 0 0,.bool false,.slice none 0 0,.slice none 0 0,.bool false,.slice none 0 0,.slice none 0 0] 40)
     clear bC
     generalize hwa : World.alloc _ _ = wa10 at a8 ⊢
     clear hwa
     refine hK.out _ _ (a8.out.d11 1 rfl (bc11 a8.out.below hg c0 c1 c2 c3 c4 c5 c6 c7 c8 c9 c10)) (fun bD=>?_)
     clear hK K
     try simp only [pm,s0,sS]
     refine wpAnyH_ready (rs:=[11]) (by kernel_rfl) (by simp) ?_
     refine ac rfl (fun K hK=>?_) AllReadyH.nil
     go_simp
     have a7:=Hd (a8.out.allocE [.bool false,.slice none 0 0,.slice none 0 0] 35)
     clear a8
     generalize hwa : World.alloc _ _ = wa11 at a7 ⊢
     clear hwa
     refine hK.out _ _ (a7.out.d11 1 rfl (bc11 a7.out.below hg c0 c1 c2 c3 c4 c5 c6 c7 c8 c9 c10)) (fun bE=>?_)
     clear hK K
     try simp only [pm,s0,sS]
     refine wpAnyH_ready (rs:=[12]) (by kernel_rfl) (by simp) ?_
     refine ac rfl (fun K hK=>?_) AllReadyH.nil
     rw [if_pos (by rfl)]
     refine wp_store_mid _ _ _ rfl _ _ (List.toArray [.int .i64 NA,.int .i64 NB,.bool NP.s,(.slice aG aH aI),(.slice aJ aK aL),.bool NQ.s,(.slice aM aN aO),(.slice aP aQ aR),.bool NR.s,(.slice aS aT aU),(.slice aV aW aX)]) rfl rfl (a7.out.there_ 2 rfl rfl) (size_link) (all_oneCell_toArray (cs:=[.int .i64 NA,.int .i64 NB,.bool NP.s,(.slice aG aH aI),(.slice aJ aK aL),.bool NQ.s,(.slice aM aN aO),(.slice aP aQ aR),.bool NR.s,(.slice aS aT aU),(.slice aV aW aX)]) (List.all_eq_true.mp rfl)) ?_
     simp only [Act.put]
     have a6:=Hd (a7.out.setKit 2 [.int .i64 NA,.int .i64 NB,.bool NP.s,(.slice aG aH aI),(.slice aJ aK aL),.bool NQ.s,(.slice aM aN aO),(.slice aP aQ aR),.bool NR.s,(.slice aS aT aU),(.slice aV aW aX)] rfl rfl)
     clear a7
     generalize hwq : World.setCells _ _ _ _ = wq12 at a6 ⊢
     clear hwq
     refine hK.out _ _ (a6.out.d11 1 rfl (bc11 a6.out.below hg c0 c1 c2 c3 c4 c5 c6 c7 c8 c9 c10)) (fun a9=>?_)
     clear hK K
     try simp only [pm,s0,sS]
     refine wpAnyH_ready (rs:=[13]) (by kernel_rfl) (by simp) ?_
     refine ac rfl (fun K hK=>?_) AllReadyH.nil
     rw [if_pos (by rfl)]
     refine wp_store_mid _ _ _ rfl _ _ (List.toArray [.bool NE.s,(.slice aA aB aC),(.slice aD aE aF)]) rfl rfl (a6.out.there_ 3 rfl rfl) (size_rat) (all_oneCell_toArray (cs:=[.bool NE.s,(.slice aA aB aC),(.slice aD aE aF)]) (List.all_eq_true.mp rfl)) ?_
     simp only [Act.put]
     have bA:=Hd (a6.out.setKit 3 [.bool NE.s,(.slice aA aB aC),(.slice aD aE aF)] rfl rfl)
     clear a6
     generalize hwq : World.setCells _ _ _ _ = wq13 at bA ⊢
     clear hwq
     refine hK.out _ _ (bA.out.d11 1 rfl (bc11 bA.out.below hg c0 c1 c2 c3 c4 c5 c6 c7 c8 c9 c10)) (fun bB=>?_)
     clear hK K
     try simp only [pm,s0,sS]
     refine tI 14 rfl ?_ ?_ ?_
     rotate_left
     ·intro w9 aY; (try dsimp only at aY); go_simp; try with_reducible rfl
     try simp only [pm,s0,sS]
     refine wpAnyH_done (by kernel_rfl) ?_ _
     refine NoPanic.normal ?_
     go_wp2_with fail
     go_meet
     refine ⟨_,_,aG,aH,aI,aJ,aK,aL,aM,aN,aO,aP,aQ,aR,aS,aT,aU,aV,aW,aX,aA,aB,aC,aD,aE,aF,rfl,rfl,rfl,?_⟩
     exact bA.out
    refine ac rfl (fun K hK=>?_) ?_
    ·go_simp
     have a8:=Hd (bC.out.allocE [.bool false,.slice none 0 0,.slice none 0 0] 35)
     clear bC
     generalize hwa : World.alloc _ _ = wa11 at a8 ⊢
     clear hwa
     refine hK.out _ _ (a8.out.d11 1 rfl (bc11 a8.out.below hg c0 c1 c2 c3 c4 c5 c6 c7 c8 c9 c10)) (fun bE=>?_)
     clear hK K
     try simp only [pm,s0,sS]
     refine wpAnyH_ready (rs:=[10]) (by kernel_rfl) (by simp) ?_
     refine ac rfl (fun K hK=>?_) AllReadyH.nil
     go_simp
     have a7:=Hd (a8.out.allocE [.int .i64 0,.int .i64 0,.bool false,.slice none 0 0,.slice none 0 0,.bool false,.slice none 0 0,.slice none 0 0,.bool false,.slice none 0 0,.slice none 0 0] 40)
     clear a8
     generalize hwa : World.alloc _ _ = wa10 at a7 ⊢
     clear hwa
     refine hK.out _ _ (a7.out.d11 1 rfl (bc11 a7.out.below hg c0 c1 c2 c3 c4 c5 c6 c7 c8 c9 c10)) (fun bD=>?_)
     clear hK K
     try simp only [pm,s0,sS]
     refine wpAnyH_ready (rs:=[12]) (by kernel_rfl) (by simp) ?_
     refine ac rfl (fun K hK=>?_) AllReadyH.nil
     rw [if_pos (by rfl)]
     refine wp_store_mid _ _ _ rfl _ _ (List.toArray [.int .i64 NA,.int .i64 NB,.bool NP.s,(.slice aG aH aI),(.slice aJ aK aL),.bool NQ.s,(.slice aM aN aO),(.slice aP aQ aR),.bool NR.s,(.slice aS aT aU),(.slice aV aW aX)]) rfl rfl (a7.out.there_ 3 rfl rfl) (size_link) (all_oneCell_toArray (cs:=[.int .i64 NA,.int .i64 NB,.bool NP.s,(.slice aG aH aI),(.slice aJ aK aL),.bool NQ.s,(.slice aM aN aO),(.slice aP aQ aR),.bool NR.s,(.slice aS aT aU),(.slice aV aW aX)]) (List.all_eq_true.mp rfl)) ?_
     simp only [Act.put]
     have a6:=Hd (a7.out.setKit 3 [.int .i64 NA,.int .i64 NB,.bool NP.s,(.slice aG aH aI),(.slice aJ aK aL),.bool NQ.s,(.slice aM aN aO),(.slice aP aQ aR),.bool NR.s,(.slice aS aT aU),(.slice aV aW aX)] rfl rfl)
     clear a7
     generalize hwq : World.setCells _ _ _ _ = wq12 at a6 ⊢
     clear hwq
     refine hK.out _ _ (a6.out.d11 1 rfl (bc11 a6.out.below hg c0 c1 c2 c3 c4 c5 c6 c7 c8 c9 c10)) (fun a9=>?_)
     clear hK K
     try simp only [pm,s0,sS]
     refine wpAnyH_ready (rs:=[13]) (by kernel_rfl) (by simp) ?_
     refine ac rfl (fun K hK=>?_) AllReadyH.nil
     rw [if_pos (by rfl)]
     refine wp_store_mid _ _ _ rfl _ _ (List.toArray [.bool NE.s,(.slice aA aB aC),(.slice aD aE aF)]) rfl rfl (a6.out.there_ 2 rfl rfl) (size_rat) (all_oneCell_toArray (cs:=[.bool NE.s,(.slice aA aB aC),(.slice aD aE aF)]) (List.all_eq_true.mp rfl)) ?_
     simp only [Act.put]
     have bA:=Hd (a6.out.setKit 2 [.bool NE.s,(.slice aA aB aC),(.slice aD aE aF)] rfl rfl)
     clear a6
     generalize hwq : World.setCells _ _ _ _ = wq13 at bA ⊢
     clear hwq
     refine hK.out _ _ (bA.out.d11 1 rfl (bc11 bA.out.below hg c0 c1 c2 c3 c4 c5 c6 c7 c8 c9 c10)) (fun bB=>?_)
     clear hK K
     try simp only [pm,s0,sS]
     refine tI 14 rfl ?_ ?_ ?_
     rotate_left
     ·intro w9 aY; (try dsimp only at aY); go_simp; try with_reducible rfl
     try simp only [pm,s0,sS]
     refine wpAnyH_done (by kernel_rfl) ?_ _
     refine NoPanic.normal ?_
     go_wp2_with fail
     go_meet
     refine ⟨_,_,aG,aH,aI,aJ,aK,aL,aM,aN,aO,aP,aQ,aR,aS,aT,aU,aV,aW,aX,aA,aB,aC,aD,aE,aF,rfl,rfl,rfl,?_⟩
     exact (bA.out).perm (.cons _ (.cons _ (.swap _ _ _))) (.refl _)
    exact AllReadyH.nil
   refine ac rfl (fun K hK=>?_) ?_
   ·go_simp
    have bC:=Hd (dH.out.allocE [.int .i64 0,.int .i64 0,.bool false,.slice none 0 0,.slice none 0 0,.bool false,.slice none 0 0,.slice none 0 0,.bool false,.slice none 0 0,.slice none 0 0] 40)
    clear dH
    generalize hwa : World.alloc _ _ = wa10 at bC ⊢
    clear hwa
    refine hK.out _ _ (bC.out.d11 1 rfl (bc11 bC.out.below hg c0 c1 c2 c3 c4 c5 c6 c7 c8 c9 c10)) (fun bD=>?_)
    clear hK K
    try simp only [pm,s0,sS]
    refine wpAnyH_ready (rs:=[5,11]) (by kernel_rfl) (by simp) ?_
    refine ac rfl (fun K hK=>?_) ?_
    ·go_simp
     go_at_call 64
     refine (HM.out _ (bC.out.below)).mono ?_
     rintro e w6 ⟨cX,cY,cZ,dA,dB,dC,dD,dE,rfl,ho,hb⟩
     obtain ⟨aG,aH,aI,rfl⟩:=(ho.at_ 0 rfl).shape3
     obtain ⟨aJ,aK,aL,rfl⟩:=(ho.at_ 1 rfl).shape3
     obtain ⟨aM,aN,aO,rfl⟩:=(ho.at_ 2 rfl).shape3
     obtain ⟨aP,aQ,aR,rfl⟩:=(ho.at_ 3 rfl).shape3
     obtain ⟨aS,aT,aU,rfl⟩:=(ho.at_ 4 rfl).shape3
     obtain ⟨aV,aW,aX,rfl⟩:=(ho.at_ 5 rfl).shape3
     obtain ⟨aA,aB,aC,rfl⟩:=(ho.at_ 6 rfl).shape3
     obtain ⟨aD,aE,aF,rfl⟩:=(ho.at_ 7 rfl).shape3
     have a8:=Hd (bC.out.rows ho hb)
     clear bC ho hb
     refine hK.out _ _ (a8.out.d11 1 rfl (bc11 a8.out.below hg c0 c1 c2 c3 c4 c5 c6 c7 c8 c9 c10)) (fun bF=>?_)
     clear hK K
     try simp only [pm,s0,sS]
     refine tI 6 rfl ?_ ?_ ?_
     rotate_left
     ·intro w9 aY; (try dsimp only at aY); go_simp; try with_reducible rfl
     try simp only [pm,s0,sS]
     refine tI 7 rfl ?_ ?_ ?_
     rotate_left
     ·intro w9 aY; (try dsimp only at aY); go_simp; try with_reducible rfl
     try simp only [pm,s0,sS]
     refine tI 8 rfl ?_ ?_ ?_
     rotate_left
     ·intro w9 aY; (try dsimp only at aY); go_simp; try with_reducible rfl
     try simp only [pm,s0,sS]
     refine tI 9 rfl ?_ ?_ ?_
     rotate_left
     ·intro w9 aY; (try dsimp only at aY); go_simp; try with_reducible rfl
     try simp only [pm,s0,sS]
     refine wpAnyH_ready (rs:=[11]) (by kernel_rfl) (by simp) ?_
     refine ac rfl (fun K hK=>?_) AllReadyH.nil
     go_simp
     have a7:=Hd (a8.out.allocE [.bool false,.slice none 0 0,.slice none 0 0] 35)
     clear a8
     generalize hwa : World.alloc _ _ = wa11 at a7 ⊢
     clear hwa
     refine hK.out _ _ (a7.out.d11 1 rfl (bc11 a7.out.below hg c0 c1 c2 c3 c4 c5 c6 c7 c8 c9 c10)) (fun bE=>?_)
     clear hK K
     try simp only [pm,s0,sS]
     refine wpAnyH_ready (rs:=[12]) (by kernel_rfl) (by simp) ?_
     refine ac rfl (fun K hK=>?_) AllReadyH.nil
     rw [if_pos (by rfl)]
     refine wp_store_mid _ _ _ rfl _ _ (List.toArray [.int .i64 NA,.int .i64 NB,.bool NP.s,(.slice aG aH aI),(.slice aJ aK aL),.bool NQ.s,(.slice aM aN aO),(.slice aP aQ aR),.bool NR.s,(.slice aS aT aU),(.slice aV aW aX)]) rfl rfl (a7.out.there_ 2 rfl rfl) (size_link) (all_oneCell_toArray (cs:=[.int .i64 NA,.int .i64 NB,.bool NP.s,(.slice aG aH aI),(.slice aJ aK aL),.bool NQ.s,(.slice aM aN aO),(.slice aP aQ aR),.bool NR.s,(.slice aS aT aU),(.slice aV aW aX)]) (List.all_eq_true.mp rfl)) ?_
     simp only [Act.put]
     have a6:=Hd (a7.out.setKit 2 [.int .i64 NA,.int .i64 NB,.bool NP.s,(.slice aG aH aI),(.slice aJ aK aL),.bool NQ.s,(.slice aM aN aO),(.slice aP aQ aR),.bool NR.s,(.slice aS aT aU),(.slice aV aW aX)] rfl rfl)
     clear a7
     generalize hwq : World.setCells _ _ _ _ = wq12 at a6 ⊢
     clear hwq
     refine hK.out _ _ (a6.out.d11 1 rfl (bc11 a6.out.below hg c0 c1 c2 c3 c4 c5 c6 c7 c8 c9 c10)) (fun a9=>?_)
     clear hK K
     try simp only [pm,s0,sS]
     refine wpAnyH_ready (rs:=[13]) (by kernel_rfl) (by simp) ?_
     refine ac rfl (fun K hK=>?_) AllReadyH.nil
     rw [if_pos (by rfl)]
     refine wp_store_mid _ _ _ rfl _ _ (List.toArray [.bool NE.s,(.slice aA aB aC),(.slice aD aE aF)]) rfl rfl (a6.out.there_ 3 rfl rfl) (size_rat) (all_oneCell_toArray (cs:=[.bool NE.s,(.slice aA aB aC),(.slice aD aE aF)]) (List.all_eq_true.mp rfl)) ?_
     simp only [Act.put]
     have bA:=Hd (a6.out.setKit 3 [.bool NE.s,(.slice aA aB aC),(.slice aD aE aF)] rfl rfl)
     clear a6
     generalize hwq : World.setCells _ _ _ _ = wq13 at bA ⊢
     clear hwq
     refine hK.out _ _ (bA.out.d11 1 rfl (bc11 bA.out.below hg c0 c1 c2 c3 c4 c5 c6 c7 c8 c9 c10)) (fun bB=>?_)
     clear hK K
     try simp only [pm,s0,sS]
     refine tI 14 rfl ?_ ?_ ?_
     rotate_left
     ·intro w9 aY; (try dsimp only at aY); go_simp; try with_reducible rfl
     try simp only [pm,s0,sS]
     refine wpAnyH_done (by kernel_rfl) ?_ _
     refine NoPanic.normal ?_
     go_wp2_with fail
     go_meet
     refine ⟨_,_,aG,aH,aI,aJ,aK,aL,aM,aN,aO,aP,aQ,aR,aS,aT,aU,aV,aW,aX,aA,aB,aC,aD,aE,aF,rfl,rfl,rfl,?_⟩
     exact bA.out
    refine ac rfl (fun K hK=>?_) ?_
    ·go_simp
     have a8:=Hd (bC.out.allocE [.bool false,.slice none 0 0,.slice none 0 0] 35)
     clear bC
     generalize hwa : World.alloc _ _ = wa11 at a8 ⊢
     clear hwa
     refine hK.out _ _ (a8.out.d11 1 rfl (bc11 a8.out.below hg c0 c1 c2 c3 c4 c5 c6 c7 c8 c9 c10)) (fun bE=>?_)
     clear hK K
     try simp only [pm,s0,sS]
     refine wpAnyH_ready (rs:=[5]) (by kernel_rfl) (by simp) ?_
     refine ac rfl (fun K hK=>?_) AllReadyH.nil
     go_simp
     go_at_call 64
     refine (HM.out _ (a8.out.below)).mono ?_
     rintro e w6 ⟨cX,cY,cZ,dA,dB,dC,dD,dE,rfl,ho,hb⟩
     obtain ⟨aG,aH,aI,rfl⟩:=(ho.at_ 0 rfl).shape3
     obtain ⟨aJ,aK,aL,rfl⟩:=(ho.at_ 1 rfl).shape3
     obtain ⟨aM,aN,aO,rfl⟩:=(ho.at_ 2 rfl).shape3
     obtain ⟨aP,aQ,aR,rfl⟩:=(ho.at_ 3 rfl).shape3
     obtain ⟨aS,aT,aU,rfl⟩:=(ho.at_ 4 rfl).shape3
     obtain ⟨aV,aW,aX,rfl⟩:=(ho.at_ 5 rfl).shape3
     obtain ⟨aA,aB,aC,rfl⟩:=(ho.at_ 6 rfl).shape3
     obtain ⟨aD,aE,aF,rfl⟩:=(ho.at_ 7 rfl).shape3
     have a7:=Hd (a8.out.rows ho hb)
     clear a8 ho hb
     refine hK.out _ _ (a7.out.d11 1 rfl (bc11 a7.out.below hg c0 c1 c2 c3 c4 c5 c6 c7 c8 c9 c10)) (fun bF=>?_)
     clear hK K
     try simp only [pm,s0,sS]
     refine tI 6 rfl ?_ ?_ ?_
     rotate_left
     ·intro w9 aY; (try dsimp only at aY); go_simp; try with_reducible rfl
     try simp only [pm,s0,sS]
     refine tI 7 rfl ?_ ?_ ?_
     rotate_left
     ·intro w9 aY; (try dsimp only at aY); go_simp; try with_reducible rfl
     try simp only [pm,s0,sS]
     refine tI 8 rfl ?_ ?_ ?_
     rotate_left
     ·intro w9 aY; (try dsimp only at aY); go_simp; try with_reducible rfl
     try simp only [pm,s0,sS]
     refine tI 9 rfl ?_ ?_ ?_
     rotate_left
     ·intro w9 aY; (try dsimp only at aY); go_simp; try with_reducible rfl
     try simp only [pm,s0,sS]
     refine wpAnyH_ready (rs:=[12]) (by kernel_rfl) (by simp) ?_
     refine ac rfl (fun K hK=>?_) AllReadyH.nil
     rw [if_pos (by rfl)]
     refine wp_store_mid _ _ _ rfl _ _ (List.toArray [.int .i64 NA,.int .i64 NB,.bool NP.s,(.slice aG aH aI),(.slice aJ aK aL),.bool NQ.s,(.slice aM aN aO),(.slice aP aQ aR),.bool NR.s,(.slice aS aT aU),(.slice aV aW aX)]) rfl rfl (a7.out.there_ 2 rfl rfl) (size_link) (all_oneCell_toArray (cs:=[.int .i64 NA,.int .i64 NB,.bool NP.s,(.slice aG aH aI),(.slice aJ aK aL),.bool NQ.s,(.slice aM aN aO),(.slice aP aQ aR),.bool NR.s,(.slice aS aT aU),(.slice aV aW aX)]) (List.all_eq_true.mp rfl)) ?_
     simp only [Act.put]
     have a6:=Hd (a7.out.setKit 2 [.int .i64 NA,.int .i64 NB,.bool NP.s,(.slice aG aH aI),(.slice aJ aK aL),.bool NQ.s,(.slice aM aN aO),(.slice aP aQ aR),.bool NR.s,(.slice aS aT aU),(.slice aV aW aX)] rfl rfl)
     clear a7
     generalize hwq : World.setCells _ _ _ _ = wq12 at a6 ⊢
     clear hwq
     refine hK.out _ _ (a6.out.d11 1 rfl (bc11 a6.out.below hg c0 c1 c2 c3 c4 c5 c6 c7 c8 c9 c10)) (fun a9=>?_)
     clear hK K
     try simp only [pm,s0,sS]
     refine wpAnyH_ready (rs:=[13]) (by kernel_rfl) (by simp) ?_
     refine ac rfl (fun K hK=>?_) AllReadyH.nil
     rw [if_pos (by rfl)]
     refine wp_store_mid _ _ _ rfl _ _ (List.toArray [.bool NE.s,(.slice aA aB aC),(.slice aD aE aF)]) rfl rfl (a6.out.there_ 3 rfl rfl) (size_rat) (all_oneCell_toArray (cs:=[.bool NE.s,(.slice aA aB aC),(.slice aD aE aF)]) (List.all_eq_true.mp rfl)) ?_
     simp only [Act.put]
     have bA:=Hd (a6.out.setKit 3 [.bool NE.s,(.slice aA aB aC),(.slice aD aE aF)] rfl rfl)
     clear a6
     generalize hwq : World.setCells _ _ _ _ = wq13 at bA ⊢
     clear hwq
     refine hK.out _ _ (bA.out.d11 1 rfl (bc11 bA.out.below hg c0 c1 c2 c3 c4 c5 c6 c7 c8 c9 c10)) (fun bB=>?_)
     clear hK K
     try simp only [pm,s0,sS]
     refine tI 14 rfl ?_ ?_ ?_
     rotate_left
     ·intro w9 aY; (try dsimp only at aY); go_simp; try with_reducible rfl
     try simp only [pm,s0,sS]
     refine wpAnyH_done (by kernel_rfl) ?_ _
     refine NoPanic.normal ?_
     go_wp2_with fail
     go_meet
     refine ⟨_,_,aG,aH,aI,aJ,aK,aL,aM,aN,aO,aP,aQ,aR,aS,aT,aU,aV,aW,aX,aA,aB,aC,aD,aE,aF,rfl,rfl,rfl,?_⟩
     exact bA.out
    exact AllReadyH.nil
   refine ac rfl (fun K hK=>?_) ?_
   ·go_simp
    have bC:=Hd (dH.out.allocE [.bool false,.slice none 0 0,.slice none 0 0] 35)
    clear dH
    generalize hwa : World.alloc _ _ = wa11 at bC ⊢
    clear hwa
    refine hK.out _ _ (bC.out.d11 1 rfl (bc11 bC.out.below hg c0 c1 c2 c3 c4 c5 c6 c7 c8 c9 c10)) (fun bE=>?_)
    clear hK K
    try simp only [pm,s0,sS]
    refine wpAnyH_ready (rs:=[5,10]) (by kernel_rfl) (by simp) ?_
    refine ac rfl (fun K hK=>?_) ?_
    ·go_simp
     go_at_call 64
     refine (HM.out _ (bC.out.below)).mono ?_
     rintro e w6 ⟨cX,cY,cZ,dA,dB,dC,dD,dE,rfl,ho,hb⟩
     obtain ⟨aG,aH,aI,rfl⟩:=(ho.at_ 0 rfl).shape3
     obtain ⟨aJ,aK,aL,rfl⟩:=(ho.at_ 1 rfl).shape3
     obtain ⟨aM,aN,aO,rfl⟩:=(ho.at_ 2 rfl).shape3
     obtain ⟨aP,aQ,aR,rfl⟩:=(ho.at_ 3 rfl).shape3
     obtain ⟨aS,aT,aU,rfl⟩:=(ho.at_ 4 rfl).shape3
     obtain ⟨aV,aW,aX,rfl⟩:=(ho.at_ 5 rfl).shape3
     obtain ⟨aA,aB,aC,rfl⟩:=(ho.at_ 6 rfl).shape3
     obtain ⟨aD,aE,aF,rfl⟩:=(ho.at_ 7 rfl).shape3
     have a8:=Hd (bC.out.rows ho hb)
     clear bC ho hb
     refine hK.out _ _ (a8.out.d11 1 rfl (bc11 a8.out.below hg c0 c1 c2 c3 c4 c5 c6 c7 c8 c9 c10)) (fun bF=>?_)
     clear hK K
     try simp only [pm,s0,sS]
     refine tI 6 rfl ?_ ?_ ?_
     rotate_left
     ·intro w9 aY; (try dsimp only at aY); go_simp; try with_reducible rfl
     try simp only [pm,s0,sS]
     refine tI 7 rfl ?_ ?_ ?_
     rotate_left
     ·intro w9 aY; (try dsimp only at aY); go_simp; try with_reducible rfl
     try simp only [pm,s0,sS]
     refine tI 8 rfl ?_ ?_ ?_
     rotate_left
     ·intro w9 aY; (try dsimp only at aY); go_simp; try with_reducible rfl
     try simp only [pm,s0,sS]
     refine tI 9 rfl ?_ ?_ ?_
     rotate_left
     ·intro w9 aY; (try dsimp only at aY); go_simp; try with_reducible rfl
     try simp only [pm,s0,sS]
     refine wpAnyH_ready (rs:=[10]) (by kernel_rfl) (by simp) ?_
     refine ac rfl (fun K hK=>?_) AllReadyH.nil
     go_simp
     have a7:=Hd (a8.out.allocE [.int .i64 0,.int .i64 0,.bool false,.slice none 0 0,.slice none 0 0,.bool false,.slice none 0 0,.slice none 0 0,.bool false,.slice none 0 0,.slice none 0 0] 40)
     clear a8
     generalize hwa : World.alloc _ _ = wa10 at a7 ⊢
     clear hwa
     refine hK.out _ _ (a7.out.d11 1 rfl (bc11 a7.out.below hg c0 c1 c2 c3 c4 c5 c6 c7 c8 c9 c10)) (fun bD=>?_)
     clear hK K
     try simp only [pm,s0,sS]
     refine wpAnyH_ready (rs:=[12]) (by kernel_rfl) (by simp) ?_
     refine ac rfl (fun K hK=>?_) AllReadyH.nil
     rw [if_pos (by rfl)]
     refine wp_store_mid _ _ _ rfl _ _ (List.toArray [.int .i64 NA,.int .i64 NB,.bool NP.s,(.slice aG aH aI),(.slice aJ aK aL),.bool NQ.s,(.slice aM aN aO),(.slice aP aQ aR),.bool NR.s,(.slice aS aT aU),(.slice aV aW aX)]) rfl rfl (a7.out.there_ 3 rfl rfl) (size_link) (all_oneCell_toArray (cs:=[.int .i64 NA,.int .i64 NB,.bool NP.s,(.slice aG aH aI),(.slice aJ aK aL),.bool NQ.s,(.slice aM aN aO),(.slice aP aQ aR),.bool NR.s,(.slice aS aT aU),(.slice aV aW aX)]) (List.all_eq_true.mp rfl)) ?_
     simp only [Act.put]
     have a6:=Hd (a7.out.setKit 3 [.int .i64 NA,.int .i64 NB,.bool NP.s,(.slice aG aH aI),(.slice aJ aK aL),.bool NQ.s,(.slice aM aN aO),(.slice aP aQ aR),.bool NR.s,(.slice aS aT aU),(.slice aV aW aX)] rfl rfl)
     clear a7
     generalize hwq : World.setCells _ _ _ _ = wq12 at a6 ⊢
     clear hwq
     refine hK.out _ _ (a6.out.d11 1 rfl (bc11 a6.out.below hg c0 c1 c2 c3 c4 c5 c6 c7 c8 c9 c10)) (fun a9=>?_)
     clear hK K
     try simp only [pm,s0,sS]
     refine wpAnyH_ready (rs:=[13]) (by kernel_rfl) (by simp) ?_
     refine ac rfl (fun K hK=>?_) AllReadyH.nil
     rw [if_pos (by rfl)]
     refine wp_store_mid _ _ _ rfl _ _ (List.toArray [.bool NE.s,(.slice aA aB aC),(.slice aD aE aF)]) rfl rfl (a6.out.there_ 2 rfl rfl) (size_rat) (all_oneCell_toArray (cs:=[.bool NE.s,(.slice aA aB aC),(.slice aD aE aF)]) (List.all_eq_true.mp rfl)) ?_
     simp only [Act.put]
     have bA:=Hd (a6.out.setKit 2 [.bool NE.s,(.slice aA aB aC),(.slice aD aE aF)] rfl rfl)
     clear a6
     generalize hwq : World.setCells _ _ _ _ = wq13 at bA ⊢
     clear hwq
     refine hK.out _ _ (bA.out.d11 1 rfl (bc11 bA.out.below hg c0 c1 c2 c3 c4 c5 c6 c7 c8 c9 c10)) (fun bB=>?_)
     clear hK K
     try simp only [pm,s0,sS]
     refine tI 14 rfl ?_ ?_ ?_
     rotate_left
     ·intro w9 aY; (try dsimp only at aY); go_simp; try with_reducible rfl
     try simp only [pm,s0,sS]
     refine wpAnyH_done (by kernel_rfl) ?_ _
     refine NoPanic.normal ?_
     go_wp2_with fail
     go_meet
     refine ⟨_,_,aG,aH,aI,aJ,aK,aL,aM,aN,aO,aP,aQ,aR,aS,aT,aU,aV,aW,aX,aA,aB,aC,aD,aE,aF,rfl,rfl,rfl,?_⟩
     exact (bA.out).perm (.cons _ (.cons _ (.swap _ _ _))) (.refl _)
    refine ac rfl (fun K hK=>?_) ?_
    ·go_simp
     have a8:=Hd (bC.out.allocE [.int .i64 0,.int .i64 0,.bool false,.slice none 0 0,.slice none 0 0,.bool false,.slice none 0 0,.slice none 0 0,.bool false,.slice none 0 0,.slice none 0 0] 40)
     clear bC
     generalize hwa : World.alloc _ _ = wa10 at a8 ⊢
     clear hwa
     refine hK.out _ _ (a8.out.d11 1 rfl (bc11 a8.out.below hg c0 c1 c2 c3 c4 c5 c6 c7 c8 c9 c10)) (fun bD=>?_)
     clear hK K
     try simp only [pm,s0,sS]
     refine wpAnyH_ready (rs:=[5]) (by kernel_rfl) (by simp) ?_
     refine ac rfl (fun K hK=>?_) AllReadyH.nil
     go_simp
     go_at_call 64
     refine (HM.out _ (a8.out.below)).mono ?_
     rintro e w6 ⟨cX,cY,cZ,dA,dB,dC,dD,dE,rfl,ho,hb⟩
     obtain ⟨aG,aH,aI,rfl⟩:=(ho.at_ 0 rfl).shape3
     obtain ⟨aJ,aK,aL,rfl⟩:=(ho.at_ 1 rfl).shape3
     obtain ⟨aM,aN,aO,rfl⟩:=(ho.at_ 2 rfl).shape3
     obtain ⟨aP,aQ,aR,rfl⟩:=(ho.at_ 3 rfl).shape3
     obtain ⟨aS,aT,aU,rfl⟩:=(ho.at_ 4 rfl).shape3
     obtain ⟨aV,aW,aX,rfl⟩:=(ho.at_ 5 rfl).shape3
     obtain ⟨aA,aB,aC,rfl⟩:=(ho.at_ 6 rfl).shape3
     obtain ⟨aD,aE,aF,rfl⟩:=(ho.at_ 7 rfl).shape3
     have a7:=Hd (a8.out.rows ho hb)
     clear a8 ho hb
     refine hK.out _ _ (a7.out.d11 1 rfl (bc11 a7.out.below hg c0 c1 c2 c3 c4 c5 c6 c7 c8 c9 c10)) (fun bF=>?_)
     clear hK K
     try simp only [pm,s0,sS]
     refine tI 6 rfl ?_ ?_ ?_
     rotate_left
     ·intro w9 aY; (try dsimp only at aY); go_simp; try with_reducible rfl
     try simp only [pm,s0,sS]
     refine tI 7 rfl ?_ ?_ ?_
     rotate_left
     ·intro w9 aY; (try dsimp only at aY); go_simp; try with_reducible rfl
     try simp only [pm,s0,sS]
     refine tI 8 rfl ?_ ?_ ?_
     rotate_left
     ·intro w9 aY; (try dsimp only at aY); go_simp; try with_reducible rfl
     try simp only [pm,s0,sS]
     refine tI 9 rfl ?_ ?_ ?_
     rotate_left
     ·intro w9 aY; (try dsimp only at aY); go_simp; try with_reducible rfl
     try simp only [pm,s0,sS]
     refine wpAnyH_ready (rs:=[12]) (by kernel_rfl) (by simp) ?_
     refine ac rfl (fun K hK=>?_) AllReadyH.nil
     rw [if_pos (by rfl)]
     refine wp_store_mid _ _ _ rfl _ _ (List.toArray [.int .i64 NA,.int .i64 NB,.bool NP.s,(.slice aG aH aI),(.slice aJ aK aL),.bool NQ.s,(.slice aM aN aO),(.slice aP aQ aR),.bool NR.s,(.slice aS aT aU),(.slice aV aW aX)]) rfl rfl (a7.out.there_ 3 rfl rfl) (size_link) (all_oneCell_toArray (cs:=[.int .i64 NA,.int .i64 NB,.bool NP.s,(.slice aG aH aI),(.slice aJ aK aL),.bool NQ.s,(.slice aM aN aO),(.slice aP aQ aR),.bool NR.s,(.slice aS aT aU),(.slice aV aW aX)]) (List.all_eq_true.mp rfl)) ?_
     simp only [Act.put]
     have a6:=Hd (a7.out.setKit 3 [.int .i64 NA,.int .i64 NB,.bool NP.s,(.slice aG aH aI),(.slice aJ aK aL),.bool NQ.s,(.slice aM aN aO),(.slice aP aQ aR),.bool NR.s,(.slice aS aT aU),(.slice aV aW aX)] rfl rfl)
     clear a7
     generalize hwq : World.setCells _ _ _ _ = wq12 at a6 ⊢
     clear hwq
     refine hK.out _ _ (a6.out.d11 1 rfl (bc11 a6.out.below hg c0 c1 c2 c3 c4 c5 c6 c7 c8 c9 c10)) (fun a9=>?_)
     clear hK K
     try simp only [pm,s0,sS]
     refine wpAnyH_ready (rs:=[13]) (by kernel_rfl) (by simp) ?_
     refine ac rfl (fun K hK=>?_) AllReadyH.nil
     rw [if_pos (by rfl)]
     refine wp_store_mid _ _ _ rfl _ _ (List.toArray [.bool NE.s,(.slice aA aB aC),(.slice aD aE aF)]) rfl rfl (a6.out.there_ 2 rfl rfl) (size_rat) (all_oneCell_toArray (cs:=[.bool NE.s,(.slice aA aB aC),(.slice aD aE aF)]) (List.all_eq_true.mp rfl)) ?_
     simp only [Act.put]
     have bA:=Hd (a6.out.setKit 2 [.bool NE.s,(.slice aA aB aC),(.slice aD aE aF)] rfl rfl)
     clear a6
     generalize hwq : World.setCells _ _ _ _ = wq13 at bA ⊢
     clear hwq
     refine hK.out _ _ (bA.out.d11 1 rfl (bc11 bA.out.below hg c0 c1 c2 c3 c4 c5 c6 c7 c8 c9 c10)) (fun bB=>?_)
     clear hK K
     try simp only [pm,s0,sS]
     refine tI 14 rfl ?_ ?_ ?_
     rotate_left
     ·intro w9 aY; (try dsimp only at aY); go_simp; try with_reducible rfl
     try simp only [pm,s0,sS]
     refine wpAnyH_done (by kernel_rfl) ?_ _
     refine NoPanic.normal ?_
     go_wp2_with fail
     go_meet
     refine ⟨_,_,aG,aH,aI,aJ,aK,aL,aM,aN,aO,aP,aQ,aR,aS,aT,aU,aV,aW,aX,aA,aB,aC,aD,aE,aF,rfl,rfl,rfl,?_⟩
     exact (bA.out).perm (.cons _ (.cons _ (.swap _ _ _))) (.refl _)
    exact AllReadyH.nil
   exact AllReadyH.nil
  obtain ⟨b9,b10,aG,aH,aI,aJ,aK,aL,aM,aN,aO,aP,aQ,aR,aS,aT,aU,aV,aW,aX,aA,aB,aC,aD,aE,aF,rfl,rfl,rfl,hst⟩:=hcut
  have aZ:=Hd hst
  clear hst bG
  have dP:=aZ.out.ne 2 0 rfl rfl (by decide)
  have dQ:=aZ.out.ne 0 2 rfl rfl (by decide)
  have dM:=aZ.out.ne 3 0 rfl rfl (by decide)
  have cT:=aZ.out.ne 0 3 rfl rfl (by decide)
  have hge_9:=aZ.out.ge 2 rfl
  have hge_10:=aZ.out.ge 3 rfl
  clear HM c0 c1 c2 c3 c4 c5 c6 c7 c8 c9 c10
  cases ok with
  | false=>
   obtain ⟨bV,dI,bW,dJ,bX,dK⟩:=aZ.out.g3 0 rfl
   go_wp2
   have SZ:=Hd (aZ.out.setAll 0 [.bool false,.slice none 0 0,.slice none 0 0] rfl rfl)
   exact bodyPost_ret (v:=.tuple #[.slice none 0 0,.agg #[.bool false,.slice none 0 0,.slice none 0 0],.bool false]) (by simp [results,Tryz.results32,go_sem,bV,bW,bX]) rfl ⟨by rw [HE.out,if_neg (by rw [Hokok.out]; decide)]; exact ⟨rfl,HBB.out.trans (SZ.out.below.mono HBB.out.size)⟩,Turned.ofB SZ.out.below⟩
  | true=>
   have GC:=Hd (HG.out.call aZ.out.below)
   have hfz : ∀ j : Nat,wc.frozen? ⟨g,o + i * 11 + j,none⟩ = false:=fun j=>by
    have h0:=HO0.out
    subst h0
    have h:=GC.out.own.frozenAt (i * 11 + j)
    simpa using h
   have z0 : wc.cell? ⟨g,o + i * 11,none⟩ = some (.int .i64 YA):=(aZ.out.below.cell (p:=⟨g,o + i * 11,none⟩) hg).trans (HC.out 0 _ rfl)
   have fz0 : wc.frozen? ⟨g,o + i * 11,none⟩ = false:=hfz 0
   have z1 : wc.cell? ⟨g,o + i * 11 + 1,none⟩ = some (.int .i64 YB):=(aZ.out.below.cell (p:=⟨g,o + i * 11 + 1,none⟩) hg).trans (HC.out 1 _ rfl)
   have fz1 : wc.frozen? ⟨g,o + i * 11 + 1,none⟩ = false:=hfz 1
   have z2 : wc.cell? ⟨g,o + i * 11 + 2,none⟩ = some (.bool YP.s):=(aZ.out.below.cell (p:=⟨g,o + i * 11 + 2,none⟩) hg).trans (HC.out 2 _ rfl)
   have fz2 : wc.frozen? ⟨g,o + i * 11 + 2,none⟩ = false:=hfz 2
   have z3 : wc.cell? ⟨g,o + i * 11 + 3,none⟩ = some ((.slice a0y n0y d0y)):=(aZ.out.below.cell (p:=⟨g,o + i * 11 + 3,none⟩) hg).trans (HC.out 3 _ rfl)
   have fz3 : wc.frozen? ⟨g,o + i * 11 + 3,none⟩ = false:=hfz 3
   have z4 : wc.cell? ⟨g,o + i * 11 + 4,none⟩ = some ((.slice a1y n1y d1y)):=(aZ.out.below.cell (p:=⟨g,o + i * 11 + 4,none⟩) hg).trans (HC.out 4 _ rfl)
   have fz4 : wc.frozen? ⟨g,o + i * 11 + 4,none⟩ = false:=hfz 4
   have z5 : wc.cell? ⟨g,o + i * 11 + 5,none⟩ = some (.bool YQ.s):=(aZ.out.below.cell (p:=⟨g,o + i * 11 + 5,none⟩) hg).trans (HC.out 5 _ rfl)
   have fz5 : wc.frozen? ⟨g,o + i * 11 + 5,none⟩ = false:=hfz 5
   have z6 : wc.cell? ⟨g,o + i * 11 + 6,none⟩ = some ((.slice a2y n2y d2y)):=(aZ.out.below.cell (p:=⟨g,o + i * 11 + 6,none⟩) hg).trans (HC.out 6 _ rfl)
   have fz6 : wc.frozen? ⟨g,o + i * 11 + 6,none⟩ = false:=hfz 6
   have z7 : wc.cell? ⟨g,o + i * 11 + 7,none⟩ = some ((.slice a3y n3y d3y)):=(aZ.out.below.cell (p:=⟨g,o + i * 11 + 7,none⟩) hg).trans (HC.out 7 _ rfl)
   have fz7 : wc.frozen? ⟨g,o + i * 11 + 7,none⟩ = false:=hfz 7
   have z8 : wc.cell? ⟨g,o + i * 11 + 8,none⟩ = some (.bool YR.s):=(aZ.out.below.cell (p:=⟨g,o + i * 11 + 8,none⟩) hg).trans (HC.out 8 _ rfl)
   have fz8 : wc.frozen? ⟨g,o + i * 11 + 8,none⟩ = false:=hfz 8
   have z9 : wc.cell? ⟨g,o + i * 11 + 9,none⟩ = some ((.slice a4y n4y d4y)):=(aZ.out.below.cell (p:=⟨g,o + i * 11 + 9,none⟩) hg).trans (HC.out 9 _ rfl)
   have fz9 : wc.frozen? ⟨g,o + i * 11 + 9,none⟩ = false:=hfz 9
   have z10 : wc.cell? ⟨g,o + i * 11 + 10,none⟩ = some ((.slice a5y n5y d5y)):=(aZ.out.below.cell (p:=⟨g,o + i * 11 + 10,none⟩) hg).trans (HC.out 10 _ rfl)
   have fz10 : wc.frozen? ⟨g,o + i * 11 + 10,none⟩ = false:=hfz 10
   obtain ⟨bI,bJ,bK,bL,bM,bN,bO,bP,bQ,bR,bH⟩:=aZ.out.c11 2 rfl
   go_upto_region 8 with fail
   clear bI bJ bK bL bM bN bO bP bQ bR bH
   obtain ⟨w7,hw7⟩ : ∃ u,setCells wc g (o + i * 11) [.int .i64 NA,.int .i64 NB,.bool NP.s,(.slice aG aH aI),(.slice aJ aK aL),.bool NQ.s,(.slice aM aN aO),(.slice aP aQ aR),.bool NR.s,(.slice aS aT aU),(.slice aV aW aX)] = u:=⟨_,rfl⟩
   rw [show (((((((((((wc.setCell ⟨g,o + i * 11,none⟩ (.int .i64 NA)).setCell ⟨g,o + i * 11 + 1,none⟩ (.int .i64 NB)).setCell ⟨g,o + i * 11 + 2,none⟩ (.bool NP.s)).setCell ⟨g,o + i * 11 + 3,none⟩ ((.slice aG aH aI))).setCell ⟨g,o + i * 11 + 4,none⟩ ((.slice aJ aK aL))).setCell ⟨g,o + i * 11 + 5,none⟩ (.bool NQ.s)).setCell ⟨g,o + i * 11 + 6,none⟩ ((.slice aM aN aO))).setCell ⟨g,o + i * 11 + 7,none⟩ ((.slice aP aQ aR))).setCell ⟨g,o + i * 11 + 8,none⟩ (.bool NR.s)).setCell ⟨g,o + i * 11 + 9,none⟩ ((.slice aS aT aU))).setCell ⟨g,o + i * 11 + 10,none⟩ ((.slice aV aW aX))) = w7 from hw7]
   have hOM:=aZ.out.own 0 rfl
   have OM:=Hd (show Owns wc w.heap.size (Lr.rows (⟨NA,NB,NP,NQ,NR,.slice aG aH aI,.slice aJ aK aL,.slice aM aN aO,.slice aP aQ aR,.slice aS aT aU,.slice aV aW aX⟩ : Lr)) from hOM.left)
   have OE:=Hd (show Owns wc w.heap.size [((Value.slice aA aB aC),ints NE.xs),((Value.slice aD aE aF),ints NE.ys)] from hOM.right)
   have hgo : ∀ {l : Chunk},Owns wc w.heap.size l → ∀ q ∈ l,q.1.ownBlock ≠ some g:=fun h q hq e=>by have:=((h.1 q hq).lt g e).1; omega
   have hput : LGrow w0 w7 (.slice (some ⟨g,o,none⟩) ys.length c) (ys.set i (⟨NA,NB,NP,NQ,NR,.slice aG aH aI,.slice aJ aK aL,.slice aM aN aO,.slice aP aQ aR,.slice aS aT aU,.slice aV aW aX⟩ : Lr)) ∧ wc.grownBy w7 (some g):=by
    have h0:=HO0.out
    subst h0
    rw [← hw7,Nat.zero_add]
    exact GC.out.put (z:=(⟨NA,NB,NP,NQ,NR,.slice aG aH aI,.slice aJ aK aL,.slice aM aN aO,.slice aP aQ aR,.slice aS aT aU,.slice aV aW aX⟩ : Lr)) hlt (OM.out.based HBB.out.size) (HG.out.row.newer OM.out (Nat.le_refl _)).symm (fun q hq=>Far.of_ne (.inr (fun e=>hgo OM.out q hq e.symm)))
   have GP:=Hd hput.1
   have hg7:=hput.2
   have T_7:=Hd (Turned.grownO (Turned.ofB (o:=some g) aZ.out.below) hg7)
   have dR:=Hd ((aZ.out.held 3 rfl).grown hg7 (by simp; omega))
   have dX:=Hd ((aZ.out.held 0 rfl).grown hg7 (by simp; omega))
   have OE7:=Hd (OE.out.grown hg7 (hgo OE.out))
   have HW0:=Hd (show w0.heap.size ≤ be from by have:=HBB.out.size; omega)
   have HN:=Hd (show (Value.slice (some ⟨g,o,none⟩) ys.length c).ownBlock ≠ some be from (HG.out.old hge_e).1)
   have hfb:=aZ.out.br (be,[.bool false,.slice none 0 0,.slice none 0 0]) (by simp) _ (List.mem_singleton.mpr rfl)
   have hbx : ∀ q ∈ (rowsK NP NQ NR (.slice aG aH aI) (.slice aJ aK aL) (.slice aM aN aO) (.slice aP aQ aR) (.slice aS aT aU) (.slice aV aW aX) ++ [((.slice aA aB aC),ints NE.xs),((.slice aD aE aF),ints NE.ys)]),q.1.ownBlock ≠ some be:=fun q hq e=>hfb q hq be rfl e
   have HRW:=Hd (show ∀ q ∈ rowsL (ys.set i (⟨NA,NB,NP,NQ,NR,.slice aG aH aI,.slice aJ aK aL,.slice aM aN aO,.slice aP aQ aR,.slice aS aT aU,.slice aV aW aX⟩ : Lr)),q.1.ownBlock ≠ some be from fun q hq=>(rowsL_put_mem hq).elim (fun a=>(HG.out.old hge_e).2 q a) (fun a=>hbx q (List.mem_append_left _ a)))
   have HRE:=Hd (show ∀ q ∈ [((Value.slice aA aB aC),ints NE.xs),((Value.slice aD aE aF),ints NE.ys)],q.1.ownBlock ≠ some be from fun q hq=>hbx q (List.mem_append_right _ hq))
   have HFE:=Hd (show FarL (rowsL (ys.set i (⟨NA,NB,NP,NQ,NR,.slice aG aH aI,.slice aJ aK aL,.slice aM aN aO,.slice aP aQ aR,.slice aS aT aU,.slice aV aW aX⟩ : Lr))) [((Value.slice aA aB aC),ints NE.xs),((Value.slice aD aE aF),ints NE.ys)] from fun p hp q hq=>(rowsL_put_mem hp).elim (fun a=>(HG.out.row.newer OE.out (Nat.le_refl _)).symm p a q hq) (fun a=>hOM.far p a q hq))
   have HFW:=Hd (show ∀ q ∈ [((Value.slice aA aB aC),ints NE.xs),((Value.slice aD aE aF),ints NE.ys)],Far (Value.slice (some ⟨g,o,none⟩) ys.length c).ownBlock q.1.ownBlock from fun q hq j e1 e2=>by
    have a1:=((OE.out.1 q hq).lt j e2).1
    have a2:=(HG.out.own.lt j e1).2
    omega)
   have dY:=Hd (show dts (ys.set i (⟨NA,NB,NP,NQ,NR,.slice aG aH aI,.slice aJ aK aL,.slice aM aN aO,.slice aP aQ aR,.slice aS aT aU,.slice aV aW aX⟩ : Lr)) = (dts ys).set i ⟨NA,NB,NP,NQ,NR⟩ from dts_put ys i _)
   clear hput hOM hgo hfb hbx hw7 hfz z0 z1 z2 z3 z4 z5 z6 z7 z8 z9 z10 fz0 fz1 fz2 fz3 fz4 fz5 fz6 fz7 fz8 fz9 fz10 GC
   have HE2:=Hd (show addD (dts ys) ⟨ZA,ZB,ZP,ZQ,ZR⟩ = some ((dts ys).set i ⟨NA,NB,NP,NQ,NR⟩,NE) from by
    rw [HE.out,if_pos Hokok.out,← HNANA.out,← HNBNB.out,← HNPNP.out,← HNQNQ.out,← HNRNR.out,← HNENE.out]
    rfl)
   have dF:=Hd (show St w0 w7 [(be,[.bool false,.slice none 0 0,.slice none 0 0]),(b10,[.bool NE.s,(.slice aA aB aC),(.slice aD aE aF)])] [] from ⟨GP.out.below,fun p hp=>by
    rcases List.mem_cons.mp hp with rfl | hp
    ·exact ⟨dX.out,HW0.out⟩
    ·rcases List.mem_singleton.mp hp with rfl
     exact ⟨dR.out,by have:=HBB.out.size; show w0.heap.size ≤ b10; omega⟩,by simp,by simpa using cT,.nil,by simp⟩)
   clear aZ
   have cU : ∀ (w' : World) (x0_ : List Value) (bs' : List (Nat × List Value)) (cs' : List Chunk),St w0 w' ((be,x0_) :: (b10,[.bool NE.s,(.slice aA aB aC),(.slice aD aE aF)]) :: bs') cs' → w'.cell? ⟨b10,0,none⟩ = some (.bool NE.s) ∧ w'.cell? ⟨b10,1,none⟩ = some ((.slice aA aB aC)) ∧ w'.cell? ⟨b10,2,none⟩ = some ((.slice aD aE aF)):=fun w' x0_ bs' cs' h=>(h.c3 1 rfl)
   refine wp_region_noPanic ?_
   refine wp_region_held_drew (S:=(fun w' =>w'.cell? ⟨b10,0,none⟩ = some (.bool NE.s) ∧ w'.cell? ⟨b10,1,none⟩ = some ((.slice aA aB aC)) ∧ w'.cell? ⟨b10,2,none⟩ = some ((.slice aD aE aF)))) (by kernel_rfl) ?_ (fun dG=>?_)
   ·exact cU _ _ _ _ dF.out.drew
   refine tI 0 rfl ?_ ?_ ?_
   rotate_left
   ·intro w9 aY; (try dsimp only at aY); go_simp; try with_reducible rfl
   try simp only [pm,s0,sS]
   refine tI 1 rfl ?_ ?_ ?_
   rotate_left
   ·intro w9 aY; (try dsimp only at aY); go_simp; try with_reducible rfl
   try simp only [pm,s0,sS]
   refine tI 2 rfl ?_ ?_ ?_
   rotate_left
   ·intro w9 aY; (try dsimp only at aY); go_simp; try with_reducible rfl
   try simp only [pm,s0,sS]
   refine wpAnyH_ready (rs:=[3]) (by kernel_rfl) (by simp) ?_
   refine ac rfl (fun K hK=>?_) AllReadyH.nil
   rw [if_pos (by rfl)]
   refine wp_store_mid _ _ _ rfl _ _ (List.toArray [.bool NE.s,(.slice aA aB aC),(.slice aD aE aF)]) rfl rfl (dF.out.drew.there_ 0 rfl rfl) (size_rat) (all_oneCell_toArray (cs:=[.bool NE.s,(.slice aA aB aC),(.slice aD aE aF)]) (List.all_eq_true.mp rfl)) ?_
   simp only [Act.put]
   have dL:=Hd (dF.out.drew.setKit 0 [.bool NE.s,(.slice aA aB aC),(.slice aD aE aF)] rfl rfl)
   clear dF
   have GF:=Hd (show LGrow w0 (World.setCells w7.drew be 0 [.bool NE.s,(.slice aA aB aC),(.slice aD aE aF)]) (.slice (some ⟨g,o,none⟩) ys.length c) (ys.set i (⟨NA,NB,NP,NQ,NR,.slice aG aH aI,.slice aJ aK aL,.slice aM aN aO,.slice aP aQ aR,.slice aS aT aU,.slice aV aW aX⟩ : Lr)) from by rw [setCells_kit]; exact GP.out.drew.stored HW0.out HN.out HRW.out 0 _)
   have OF:=Hd (show Owns (World.setCells w7.drew be 0 [.bool NE.s,(.slice aA aB aC),(.slice aD aE aF)]) w0.heap.size [((Value.slice aA aB aC),ints NE.xs),((Value.slice aD aE aF),ints NE.ys)] from by rw [setCells_kit]; exact ((OE7.out.below ((Below.refl _ _).drew)).stored HRE.out 0 _).based HBB.out.size)
   have TF:=Hd (show Turned w (World.setCells w7.drew be 0 [.bool NE.s,(.slice aA aB aC),(.slice aD aE aF)]) [some g] from by rw [setCells_kit]; exact (T_7.out.callB ((Below.refl _ _).drew)).box hge_e 0 _)
   generalize hwq : World.setCells _ _ _ _ = wq8 at dL GF OF TF ⊢
   clear hwq
   refine hK.out _ _ (cU _ _ _ _ dL.out) (fun dS=>?_)
   clear hK K
   try simp only [pm,s0,sS]
   refine tI 4 rfl ?_ ?_ ?_
   rotate_left
   ·intro w9 aY; (try dsimp only at aY); go_simp; try with_reducible rfl
   try simp only [pm,s0,sS]
   refine wpAnyH_done (by kernel_rfl) ?_ _
   refine NoPanic.normal ?_
   obtain ⟨r0,r1,r2⟩:=dL.out.c3 0 rfl
   go_wp2_with fail
   exact bodyPost_ret (v:=.tuple #[(.slice (some ⟨g,o,none⟩) ys.length c),.agg #[.bool NE.s,(.slice aA aB aC),(.slice aD aE aF)],.bool true]) (by simp [results,Tryz.results32,go_sem,r0,r1,r2]) rfl ⟨by rw [HE2.out]; exact ⟨_,(ys.set i (⟨NA,NB,NP,NQ,NR,.slice aG aH aI,.slice aJ aK aL,.slice aM aN aO,.slice aP aQ aR,.slice aS aT aU,.slice aV aW aX⟩ : Lr)),_,_,rfl,dY.out,⟨GF.out,OF.out,HFE.out,HFW.out⟩⟩,TF.out⟩
end Go.Proofs.YtodoiekbjjiocaaGreat
