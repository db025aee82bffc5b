/- All links of a slice, copied, of both sides. Conditions: none. -/
import Derived.Test.YtodoiekbjjiocaaGreatJPk
import Derived.Test.YtodoiekbjjiocaaGreatJGrow
namespace Go.Proofs.YtodoiekbjjiocaaGreat
open Go.RowKit Nt Fr
set_option linter.unusedVariables false
set_option maxRecDepth 100000
set_option maxHeartbeats 4000000
theorem l06All_f (A : Option Addr) (n c : Nat) (zs : List Lr) (w : World) (hA : LArg w A n zs) (hn : n ≤ 1048576) (hok : ∀ z ∈ zs,okK z.A z.B z.P z.Q z.R = true) :
 Calls Tryz.prog 24 #[.slice A n c] w (OwnLs (dts zs) w):=by
 obtain ⟨i0,hi,hz0,hz1,hz2⟩:=info_parts info_link
 have HA:=Hd hA
 have HL:=Hd hA.row.1
 have HV:=Hd hok
 clear hA hok
 go_enter Tryz.func24,Tryz.ntmps24
 go_wp2
 go_loopw [3,9] (fun ov i wr=>∃ (k : Nat) (ys : List Lr),k ≤ n ∧ i = .int .i64 k ∧ ys.length = k ∧ dts ys = (dts zs).take k ∧ LGrow w wr ov ys) (fun _ i _=>n - (intOf i).toNat)
 case atStart=>exact ⟨0,[],Nat.zero_le _,rfl,rfl,rfl,LGrow.made (Below.refl _ _)⟩
 case round=>
  obtain ⟨k,ys,hk,rfl,hyl,hyd,hG⟩:=hrel
  have G_1:=Hd hG
  have HD:=Hd hyd
  have aA:=Hd hyl
  have hyl2 : ys.length ≤ k:=by omega
  clear hG hyd hyl
  by_cases hkn : k < n
  ·obtain ⟨g,o,z,rfl,hg,hz,hr,hc⟩:=(HA.out.below G_1.out.below).at_ hkn
   have hzk:=HV.out z (List.mem_of_getElem? hz)
   obtain ⟨ZA,ZB,ZP,ZQ,ZR,a0,n0,d0,a1,n1,d1,a2,n2,d2,a3,n3,d3,a4,n4,d4,a5,n5,d5,rfl⟩:=LArg.shapes hr
   have HZK:=Hd (show okK ZA ZB ZP ZQ ZR = true from hzk)
   have c0 : wr.cell? ⟨g,o + k * 11,none⟩ = some (.int .i64 ZA):=hc 0 _ rfl
   have c1 : wr.cell? ⟨g,o + k * 11 + 1,none⟩ = some (.int .i64 ZB):=hc 1 _ rfl
   have c2 : wr.cell? ⟨g,o + k * 11 + 2,none⟩ = some (.bool ZP.s):=hc 2 _ rfl
   have c3 : wr.cell? ⟨g,o + k * 11 + 3,none⟩ = some ((.slice a0 n0 d0)):=hc 3 _ rfl
   have c4 : wr.cell? ⟨g,o + k * 11 + 4,none⟩ = some ((.slice a1 n1 d1)):=hc 4 _ rfl
   have c5 : wr.cell? ⟨g,o + k * 11 + 5,none⟩ = some (.bool ZQ.s):=hc 5 _ rfl
   have c6 : wr.cell? ⟨g,o + k * 11 + 6,none⟩ = some ((.slice a2 n2 d2)):=hc 6 _ rfl
   have c7 : wr.cell? ⟨g,o + k * 11 + 7,none⟩ = some ((.slice a3 n3 d3)):=hc 7 _ rfl
   have c8 : wr.cell? ⟨g,o + k * 11 + 8,none⟩ = some (.bool ZR.s):=hc 8 _ rfl
   have c9 : wr.cell? ⟨g,o + k * 11 + 9,none⟩ = some ((.slice a4 n4 d4)):=hc 9 _ rfl
   have c10 : wr.cell? ⟨g,o + k * 11 + 10,none⟩ = some ((.slice a5 n5 d5)):=hc 10 _ rfl
   have HR3:=Hd (show LkA (wr.alloc (.cells #[.int .i64 ZA,.int .i64 ZB,.bool ZP.s,(.slice a0 n0 d0),(.slice a1 n1 d1),.bool ZQ.s,(.slice a2 n2 d2),(.slice a3 n3 d3),.bool ZR.s,(.slice a4 n4 d4),(.slice a5 n5 d5)] 40)) ZP ZQ ZR (.slice a0 n0 d0) (.slice a1 n1 d1) (.slice a2 n2 d2) (.slice a3 n3 d3) (.slice a4 n4 d4) (.slice a5 n5 d5) from LkA.below hr ((Below.refl _ _).alloc (Nat.le_refl _) (.cells #[.int .i64 ZA,.int .i64 ZB,.bool ZP.s,(.slice a0 n0 d0),(.slice a1 n1 d1),.bool ZQ.s,(.slice a2 n2 d2),(.slice a3 n3 d3),.bool ZR.s,(.slice a4 n4 d4),(.slice a5 n5 d5)] 40)))
   have G_2:=Hd (G_1.out.alloc (.cells #[.int .i64 ZA,.int .i64 ZB,.bool ZP.s,(.slice a0 n0 d0),(.slice a1 n1 d1),.bool ZQ.s,(.slice a2 n2 d2),(.slice a3 n3 d3),.bool ZR.s,(.slice a4 n4 d4),(.slice a5 n5 d5)] 40))
   have aB:=Hd (show (dts zs).take k ++ [⟨ZA,ZB,ZP,ZQ,ZR⟩] = (dts zs).take (k + 1) by rw [List.take_add_one,dts_at hz]; rfl)
   clear hz hr hc hzk G_1
   go_wp2_with fail
   refine (l06Copy_f ZA ZB ZP ZQ ZR (.slice a0 n0 d0) (.slice a1 n1 d1) (.slice a2 n2 d2) (.slice a3 n3 d3) (.slice a4 n4 d4) (.slice a5 n5 d5) _ HZK.out HR3.out).mono ?_
   rintro e w3 ⟨x0,x1,x2,x3,x4,x5,rfl,ho,hb⟩
   obtain ⟨e0,m0,h0,rfl⟩:=(ho.at_ 0 rfl).shape3
   obtain ⟨e1,m1,h1,rfl⟩:=(ho.at_ 1 rfl).shape3
   obtain ⟨e2,m2,h2,rfl⟩:=(ho.at_ 2 rfl).shape3
   obtain ⟨e3,m3,h3,rfl⟩:=(ho.at_ 3 rfl).shape3
   obtain ⟨e4,m4,h4,rfl⟩:=(ho.at_ 4 rfl).shape3
   obtain ⟨e5,m5,h5,rfl⟩:=(ho.at_ 5 rfl).shape3
   have B_3:=Hd hb
   have O_3:=Hd (show Owns w3 _ (Lr.rows (⟨ZA,ZB,ZP,ZQ,ZR,.slice e0 m0 h0,.slice e1 m1 h1,.slice e2 m2 h2,.slice e3 m3 h3,.slice e4 m4 h4,.slice e5 m5 h5⟩ : Lr)) from ho)
   have G_3:=Hd (G_2.out.call hb)
   clear ho hb
   have hown3:=(G_3.out.alloc (.cells #[.int .i64 ZA,.int .i64 ZB,.bool ZP.s,.slice e0 m0 h0,.slice e1 m1 h1,.bool ZQ.s,.slice e2 m2 h2,.slice e3 m3 h3,.bool ZR.s,.slice e4 m4 h4,.slice e5 m5 h5] 40)).own
   have HOW:=Hd hown3
   have HCN:=Hd (cells_new w3 (Lr.cells (⟨ZA,ZB,ZP,ZQ,ZR,.slice e0 m0 h0,.slice e1 m1 h1,.slice e2 m2 h2,.slice e3 m3 h3,.slice e4 m4 h4,.slice e5 m5 h5⟩ : Lr)) 40)
   have HOC:=Hd (Lr.one_cells ZA ZB ZP ZQ ZR e0 e1 e2 e3 e4 e5 m0 m1 m2 m3 m4 m5 h0 h1 h2 h3 h4 h5)
   have hsz3:=G_3.out.below.size
   clear hown3
   go_wp2_with (at_builtin; refine wpList_append_own_at _ rfl (.tmp 13) (.tmp 16) 32 rfl w.heap.size 40 i0 _ 11 184 Tryz.underlying32 hi hz0 hz1 hz2 rfl (by decide) _ ys.length (cellsL ys) rfl HOW.out ⟨w3.heap.size,0,none⟩ 1 1 (Lr.cells (⟨ZA,ZB,ZP,ZQ,ZR,.slice e0 m0 h0,.slice e1 m1 h1,.slice e2 m2 h2,.slice e3 m3 h3,.slice e4 m4 h4,.slice e5 m5 h5⟩ : Lr)) rfl rfl HCN.out HOC.out (by unfold maxLen; omega) (by omega) (by simp; omega) ?_)
   intro v4 w4 hown4 hgrow4 _ hloc4
   have G_5:=Hd (LGrow.app (z:=(⟨ZA,ZB,ZP,ZQ,ZR,.slice e0 m0 h0,.slice e1 m1 h1,.slice e2 m2 h2,.slice e3 m3 h3,.slice e4 m4 h4,.slice e5 m5 h5⟩ : Lr)) G_2.out (B_3.out.alloc B_3.out.size (.cells #[.int .i64 ZA,.int .i64 ZB,.bool ZP.s,.slice e0 m0 h0,.slice e1 m1 h1,.bool ZQ.s,.slice e2 m2 h2,.slice e3 m3 h3,.bool ZR.s,.slice e4 m4 h4,.slice e5 m5 h5] 40)) (O_3.out.below ((Below.refl _ _).alloc (Nat.le_refl _) (.cells #[.int .i64 ZA,.int .i64 ZB,.bool ZP.s,.slice e0 m0 h0,.slice e1 m1 h1,.bool ZQ.s,.slice e2 m2 h2,.slice e3 m3 h3,.bool ZR.s,.slice e4 m4 h4,.slice e5 m5 h5] 40))) hown4 hgrow4 (hloc4.imp id (fun h=>by rw [h]; simp)))
   clear hown4 hgrow4 hloc4 HOW HCN HOC G_3 B_3 O_3 hsz3
   have aC:=Hd (show dts (ys ++ [(⟨ZA,ZB,ZP,ZQ,ZR,.slice e0 m0 h0,.slice e1 m1 h1,.slice e2 m2 h2,.slice e3 m3 h3,.slice e4 m4 h4,.slice e5 m5 h5⟩ : Lr)]) = (dts zs).take (k + 1) by rw [dts_app,HD.out,← aB.out]; rfl)
   have aD:=Hd (show (ys ++ [(⟨ZA,ZB,ZP,ZQ,ZR,.slice e0 m0 h0,.slice e1 m1 h1,.slice e2 m2 h2,.slice e3 m3 h3,.slice e4 m4 h4,.slice e5 m5 h5⟩ : Lr)]).length = k + 1 by rw [List.length_append,aA.out]; rfl)
   clear c0 c1 c2 c3 c4 c5 c6 c7 c8 c9 c10 G_2
   go_wp2
   exact ⟨⟨k + 1,_,by omega,by go_num,aD.out,aC.out,G_5.out⟩,by simp [intOf]; omega⟩
  ·obtain rfl : k = n:=by omega
   have HE:=Hd (show dts ys = dts zs by rw [HD.out,List.take_of_length_le (by rw [dts_len,HL.out]; exact Nat.le_refl _)])
   go_wp2
   go_ret
   exact ⟨_,ys,rfl,HE.out,G_1.out⟩
end Go.Proofs.YtodoiekbjjiocaaGreat
