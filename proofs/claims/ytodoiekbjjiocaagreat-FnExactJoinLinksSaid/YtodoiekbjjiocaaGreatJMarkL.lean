/- Slices of links: markLinkS and heldLinkS. Conditions: none. -/
import Derived.Test.YtodoiekbjjiocaaGreatJPk
import Derived.Test.YtodoiekbjjiocaaGreatJMarkMath
import Derived.Test.YtodoiekbjjiocaaGreatJIsSet
namespace Go.Proofs.YtodoiekbjjiocaaGreat
open Go.RowKit Nt Fr
set_option linter.unusedVariables false
set_option maxRecDepth 100000
set_option maxHeartbeats 4000000
theorem mod3 {x : Int} {k : Nat} (h : x = (k : Int)) : (x % 3 == 0) = (k % 3 == 0):=by
 subst h
 by_cases h : k % 3 = 0
 ·rw [h,show (k : Int) % 3 = 0 by omega]; rfl
 ·have h1 : ((k : Int) % 3 == 0) = false:=by rw [beq_eq_false_iff_ne]; omega
  have h2 : (k % 3 == 0) = false:=by rw [beq_eq_false_iff_ne]; exact h
  rw [h1,h2]
theorem markLs_at {k : Nat} {zs : List Lr} {j : Nat} {z : Lr} (h : zs[j]? = some z) : (markLs k zs)[j]? = some (markLr (markAt k zs j) z):=by
 obtain ⟨hj,e⟩:=List.getElem?_eq_some_iff.mp h
 have hl : (markLs k (zs.take j)).length = j:=by rw [markLs_length,List.length_take]; omega
 have ht : (zs.take j).length = j:=by rw [List.length_take]; omega
 have hs : zs = zs.take j ++ z :: zs.drop (j + 1):=by rw [← e,← List.drop_eq_getElem_cons hj,List.take_append_drop]
 have hm : markLs k zs = markLs k (zs.take j) ++ markLs (markAt k zs j) (z :: zs.drop (j + 1)):=by
  have:=markLs_app k (zs.take j) (z :: zs.drop (j + 1))
  rw [← hs,ht] at this
  exact this
 rw [hm,List.getElem?_append_right (by omega),hl,Nat.sub_self]
 rfl
theorem set_self {α : Type} {l : List α} {i : Nat} {x y : α} (h : l[i]? = some x) : (l.set i y)[i]? = some y:=by
 have:=(List.getElem?_eq_some_iff.mp h).1
 simp [this]
theorem markLinkS_f (b n c k : Nat) (K : Int) (hK : K = (k : Int)) (zs : List Lr) (w0 w : World) (bs : List (Nat × List Value)) (cs : List Chunk) (hl : zs.length = n) (hS : St w0 w ((b,cellsL zs) :: bs) (rowsL zs :: cs)) (hn : k + 5 * n + lensL zs ≤ 1073741824) :
 Calls Tryz.prog 14 #[.slice (some ⟨b,0,none⟩) n c,.int .i64 K] w fun e w' =>e = .returned (.int .i64 ((k + 5 * n + lensL zs : Nat) : Int)) ∧ St w0 w' ((b,cellsL (markLs k zs)) :: bs) (rowsL (markLs k zs) :: cs):=by
 subst hK
 have HL:=Hd hl
 have HS:=Hd hS
 have HN:=Hd hn
 have hn1 : n ≤ 1073741824:=by omega
 clear hl hS hn
 go_enter Tryz.func14,Tryz.ntmps14
 go_wp2
 go_loopw [1,5] (fun kk i wr=>∃ j q : Nat,j ≤ n ∧ i = .int .i64 j ∧ kk = .int .i64 (q : Int) ∧ q = markAt k zs j ∧ St w0 wr ((b,cellsL (markTo k zs j)) :: bs) (rowsL (markTo k zs j) :: cs)) (fun _ i _=>n - (intOf i).toNat)
 case atStart=>exact ⟨0,k,Nat.zero_le _,rfl,rfl,by simp [markAt,lensL],by rw [markTo_zero]; exact HS.out⟩
 case round=>
  obtain ⟨j,q,hj,rfl,rfl,hq,hst⟩:=hrel
  have aA:=Hd hst
  have HQ:=Hd hq
  clear hst hq
  by_cases hlt : j < n
  ·obtain ⟨z,hz⟩ : ∃ z,zs[j]? = some z:=⟨_,List.getElem?_eq_getElem (by have:=HL.out; omega)⟩
   have hT:=markTo_at (k:=k) hz
   obtain ⟨ZA,ZB,ZP,ZQ,ZR,a0,n0,d0,a1,n1,d1,a2,n2,d2,a3,n3,d3,a4,n4,d4,a5,n5,d5,rfl⟩:=LArg.shapes (LkI_A (aA.out.own 0 rfl) z (List.mem_of_getElem? hT))
   have HZ:=Hd hz
   have HT:=Hd hT
   have aU:=Hd (markAt_succ (k:=k) hz)
   have hqb : q + 5 + (ZP.len + ZQ.len + ZR.len) ≤ 1073741824:=by
    have h1:=markAt_le k zs (j + 1) (by have:=HL.out; omega)
    have h2:=aU.out
    have h3:=HQ.out
    have h4:=HN.out
    have h5:=HL.out
    simp only [Lr.len] at h2
    omega
   have hl0 : n0 = ZP.xs.length:=by have h : (ints ZP.xs).length = n0:=((aA.out.own 0 rfl).at_ (j * 6 + 0) (rowsL_at HT.out 0 rfl)).len; rw [ints_len] at h; omega
   have hl1 : n1 = ZP.ys.length:=by have h : (ints ZP.ys).length = n1:=((aA.out.own 0 rfl).at_ (j * 6 + 1) (rowsL_at HT.out 1 rfl)).len; rw [ints_len] at h; omega
   have hl2 : n2 = ZQ.xs.length:=by have h : (ints ZQ.xs).length = n2:=((aA.out.own 0 rfl).at_ (j * 6 + 2) (rowsL_at HT.out 2 rfl)).len; rw [ints_len] at h; omega
   have hl3 : n3 = ZQ.ys.length:=by have h : (ints ZQ.ys).length = n3:=((aA.out.own 0 rfl).at_ (j * 6 + 3) (rowsL_at HT.out 3 rfl)).len; rw [ints_len] at h; omega
   have hl4 : n4 = ZR.xs.length:=by have h : (ints ZR.xs).length = n4:=((aA.out.own 0 rfl).at_ (j * 6 + 4) (rowsL_at HT.out 4 rfl)).len; rw [ints_len] at h; omega
   have hl5 : n5 = ZR.ys.length:=by have h : (ints ZR.ys).length = n5:=((aA.out.own 0 rfl).at_ (j * 6 + 5) (rowsL_at HT.out 5 rfl)).len; rw [ints_len] at h; omega
   have hPl : ZP.len = n0 + n1:=by simp only [Fr.len]; omega
   have hQl : ZQ.len = n2 + n3:=by simp only [Fr.len]; omega
   have hRl : ZR.len = n4 + n5:=by simp only [Fr.len]; omega
   rw [hPl,hQl,hRl] at hqb
   obtain ⟨T,hTT⟩ : ∃ T,markTo k zs j = T:=⟨_,rfl⟩
   rw [hTT] at aA HT
   have HTT:=Hd hTT
   clear hTT hz hT
   have HL0:=Hd hl0
   have HL1:=Hd hl1
   have HL2:=Hd hl2
   have HL3:=Hd hl3
   have HL4:=Hd hl4
   have HL5:=Hd hl5
   have HPl:=Hd hPl
   have aV:=Hd hQl
   have HRl:=Hd hRl
   clear hl0 hl1 hl2 hl3 hl4 hl5 hPl hQl hRl
   have hj0 : (0 : Int) ≤ (j : Int):=by omega
   have hj1 : (j : Int) < (n : Int):=by omega
   have c0 : wr.cell? ⟨b,j * 11,none⟩ = some (.int .i64 ZA):=aA.out.cellL HT.out 0 rfl
   have c1 : wr.cell? ⟨b,j * 11 + 1,none⟩ = some (.int .i64 ZB):=aA.out.cellL HT.out 1 rfl
   have c2 : wr.cell? ⟨b,j * 11 + 2,none⟩ = some (.bool ZP.s):=aA.out.cellL HT.out 2 rfl
   have c3 : wr.cell? ⟨b,j * 11 + 3,none⟩ = some ((.slice a0 n0 d0)):=aA.out.cellL HT.out 3 rfl
   have f0 : wr.frozen? ⟨b,j * 11,none⟩ = false:=aA.out.frozL HT.out 0 rfl
   have f1 : wr.frozen? ⟨b,j * 11 + 1,none⟩ = false:=aA.out.frozL HT.out 1 rfl
   have f2 : wr.frozen? ⟨b,j * 11 + 2,none⟩ = false:=aA.out.frozL HT.out 2 rfl
   go_wp2_with fail
   clear c0 c1 c2 c3 f0 f1 f2
   have aW:=Hd (show St w0 (wr.setCell ⟨b,j * 11,none⟩ (.int .i64 (q : Int))) ((b,cellsL (T.set j (⟨(q : Int),ZB,ZP,ZQ,ZR,.slice a0 n0 d0,.slice a1 n1 d1,.slice a2 n2 d2,.slice a3 n3 d3,.slice a4 n4 d4,.slice a5 n5 d5⟩ : Lr))) :: bs) (rowsL (T.set j (⟨(q : Int),ZB,ZP,ZQ,ZR,.slice a0 n0 d0,.slice a1 n1 d1,.slice a2 n2 d2,.slice a3 n3 d3,.slice a4 n4 d4,.slice a5 n5 d5⟩ : Lr)) :: cs) from by have h:=aA.out.setL HT.out 0 (.int .i64 (q : Int)) (⟨(q : Int),ZB,ZP,ZQ,ZR,.slice a0 n0 d0,.slice a1 n1 d1,.slice a2 n2 d2,.slice a3 n3 d3,.slice a4 n4 d4,.slice a5 n5 d5⟩ : Lr) rfl rfl (by decide); first | exact h | (rw [List.set_set] at h; exact h))
   have aP:=Hd (show (T.set j (⟨(q : Int),ZB,ZP,ZQ,ZR,.slice a0 n0 d0,.slice a1 n1 d1,.slice a2 n2 d2,.slice a3 n3 d3,.slice a4 n4 d4,.slice a5 n5 d5⟩ : Lr))[j]? = some (⟨(q : Int),ZB,ZP,ZQ,ZR,.slice a0 n0 d0,.slice a1 n1 d1,.slice a2 n2 d2,.slice a3 n3 d3,.slice a4 n4 d4,.slice a5 n5 d5⟩ : Lr) from set_self HT.out)
   clear aA
   have aX:=Hd (show St w0 ((wr.setCell ⟨b,j * 11,none⟩ (.int .i64 (q : Int))).setCell ⟨b,j * 11 + 1,none⟩ (.int .i64 ((q : Int) + 1))) ((b,cellsL (T.set j (⟨(q : Int),((q : Int) + 1),ZP,ZQ,ZR,.slice a0 n0 d0,.slice a1 n1 d1,.slice a2 n2 d2,.slice a3 n3 d3,.slice a4 n4 d4,.slice a5 n5 d5⟩ : Lr))) :: bs) (rowsL (T.set j (⟨(q : Int),((q : Int) + 1),ZP,ZQ,ZR,.slice a0 n0 d0,.slice a1 n1 d1,.slice a2 n2 d2,.slice a3 n3 d3,.slice a4 n4 d4,.slice a5 n5 d5⟩ : Lr)) :: cs) from by have h:=aW.out.setL aP.out 1 (.int .i64 ((q : Int) + 1)) (⟨(q : Int),((q : Int) + 1),ZP,ZQ,ZR,.slice a0 n0 d0,.slice a1 n1 d1,.slice a2 n2 d2,.slice a3 n3 d3,.slice a4 n4 d4,.slice a5 n5 d5⟩ : Lr) rfl rfl (by decide); first | exact h | (rw [List.set_set] at h; exact h))
   have aQ:=Hd (show (T.set j (⟨(q : Int),((q : Int) + 1),ZP,ZQ,ZR,.slice a0 n0 d0,.slice a1 n1 d1,.slice a2 n2 d2,.slice a3 n3 d3,.slice a4 n4 d4,.slice a5 n5 d5⟩ : Lr))[j]? = some (⟨(q : Int),((q : Int) + 1),ZP,ZQ,ZR,.slice a0 n0 d0,.slice a1 n1 d1,.slice a2 n2 d2,.slice a3 n3 d3,.slice a4 n4 d4,.slice a5 n5 d5⟩ : Lr) from set_self HT.out)
   clear aW
   have aR:=Hd (show St w0 (((wr.setCell ⟨b,j * 11,none⟩ (.int .i64 (q : Int))).setCell ⟨b,j * 11 + 1,none⟩ (.int .i64 ((q : Int) + 1))).setCell ⟨b,j * 11 + 2,none⟩ (.bool (((q : Int) + 1 + 1) % 3 == 0))) ((b,cellsL (T.set j (⟨(q : Int),((q : Int) + 1),⟨(((q : Int) + 1 + 1) % 3 == 0),ZP.xs,ZP.ys⟩,ZQ,ZR,.slice a0 n0 d0,.slice a1 n1 d1,.slice a2 n2 d2,.slice a3 n3 d3,.slice a4 n4 d4,.slice a5 n5 d5⟩ : Lr))) :: bs) (rowsL (T.set j (⟨(q : Int),((q : Int) + 1),⟨(((q : Int) + 1 + 1) % 3 == 0),ZP.xs,ZP.ys⟩,ZQ,ZR,.slice a0 n0 d0,.slice a1 n1 d1,.slice a2 n2 d2,.slice a3 n3 d3,.slice a4 n4 d4,.slice a5 n5 d5⟩ : Lr)) :: cs) from by have h:=aX.out.setL aQ.out 2 (.bool (((q : Int) + 1 + 1) % 3 == 0)) (⟨(q : Int),((q : Int) + 1),⟨(((q : Int) + 1 + 1) % 3 == 0),ZP.xs,ZP.ys⟩,ZQ,ZR,.slice a0 n0 d0,.slice a1 n1 d1,.slice a2 n2 d2,.slice a3 n3 d3,.slice a4 n4 d4,.slice a5 n5 d5⟩ : Lr) rfl rfl (by decide); first | exact h | (rw [List.set_set] at h; exact h))
   have aH:=Hd (show (T.set j (⟨(q : Int),((q : Int) + 1),⟨(((q : Int) + 1 + 1) % 3 == 0),ZP.xs,ZP.ys⟩,ZQ,ZR,.slice a0 n0 d0,.slice a1 n1 d1,.slice a2 n2 d2,.slice a3 n3 d3,.slice a4 n4 d4,.slice a5 n5 d5⟩ : Lr))[j]? = some (⟨(q : Int),((q : Int) + 1),⟨(((q : Int) + 1 + 1) % 3 == 0),ZP.xs,ZP.ys⟩,ZQ,ZR,.slice a0 n0 d0,.slice a1 n1 d1,.slice a2 n2 d2,.slice a3 n3 d3,.slice a4 n4 d4,.slice a5 n5 d5⟩ : Lr) from set_self HT.out)
   clear aX
   refine (markIntS_at a0 n0 d0 (q + 3) w0.heap.size _ (by first | rfl | omega | (push_cast; omega)) _ _ ((aR.out.own 0 rfl).at_ (j * 6 + 0) (rowsL_at aH.out 0 rfl)) (by omega)).mono ?_
   rintro e w1 ⟨rfl,ho,hg⟩
   rw [← ints_marksZ] at ho
   have aN:=Hd (show St w0 w1 ((b,cellsL (T.set j (⟨(q : Int),((q : Int) + 1),⟨(((q : Int) + 1 + 1) % 3 == 0),marksZ (q + 3) n0,ZP.ys⟩,ZQ,ZR,.slice a0 n0 d0,.slice a1 n1 d1,.slice a2 n2 d2,.slice a3 n3 d3,.slice a4 n4 d4,.slice a5 n5 d5⟩ : Lr))) :: bs) (rowsL (T.set j (⟨(q : Int),((q : Int) + 1),⟨(((q : Int) + 1 + 1) % 3 == 0),marksZ (q + 3) n0,ZP.ys⟩,ZQ,ZR,.slice a0 n0 d0,.slice a1 n1 d1,.slice a2 n2 d2,.slice a3 n3 d3,.slice a4 n4 d4,.slice a5 n5 d5⟩ : Lr)) :: cs) from by have h:=aR.out.markR aH.out 0 _ (⟨(q : Int),((q : Int) + 1),⟨(((q : Int) + 1 + 1) % 3 == 0),marksZ (q + 3) n0,ZP.ys⟩,ZQ,ZR,.slice a0 n0 d0,.slice a1 n1 d1,.slice a2 n2 d2,.slice a3 n3 d3,.slice a4 n4 d4,.slice a5 n5 d5⟩ : Lr) rfl rfl rfl (by decide) ho hg; rw [List.set_set] at h; exact h)
   have aF:=Hd (show (T.set j (⟨(q : Int),((q : Int) + 1),⟨(((q : Int) + 1 + 1) % 3 == 0),marksZ (q + 3) n0,ZP.ys⟩,ZQ,ZR,.slice a0 n0 d0,.slice a1 n1 d1,.slice a2 n2 d2,.slice a3 n3 d3,.slice a4 n4 d4,.slice a5 n5 d5⟩ : Lr))[j]? = some (⟨(q : Int),((q : Int) + 1),⟨(((q : Int) + 1 + 1) % 3 == 0),marksZ (q + 3) n0,ZP.ys⟩,ZQ,ZR,.slice a0 n0 d0,.slice a1 n1 d1,.slice a2 n2 d2,.slice a3 n3 d3,.slice a4 n4 d4,.slice a5 n5 d5⟩ : Lr) from set_self HT.out)
   clear ho hg aR
   obtain ⟨q1,hq1⟩ : ∃ m : Nat,q + 3 + n0 = m:=⟨_,rfl⟩
   rw [hq1]
   have c4 : w1.cell? ⟨b,j * 11 + 4,none⟩ = some ((.slice a1 n1 d1)):=aN.out.cellL aF.out 4 rfl
   go_wp2_with fail
   refine (markIntS_at a1 n1 d1 (q1) w0.heap.size _ (by first | rfl | omega | (push_cast; omega)) _ _ ((aN.out.own 0 rfl).at_ (j * 6 + 1) (rowsL_at aF.out 1 rfl)) (by omega)).mono ?_
   rintro e w2 ⟨rfl,ho,hg⟩
   rw [← ints_marksZ] at ho
   have aI:=Hd (show St w0 w2 ((b,cellsL (T.set j (⟨(q : Int),((q : Int) + 1),⟨(((q : Int) + 1 + 1) % 3 == 0),marksZ (q + 3) n0,marksZ (q1) n1⟩,ZQ,ZR,.slice a0 n0 d0,.slice a1 n1 d1,.slice a2 n2 d2,.slice a3 n3 d3,.slice a4 n4 d4,.slice a5 n5 d5⟩ : Lr))) :: bs) (rowsL (T.set j (⟨(q : Int),((q : Int) + 1),⟨(((q : Int) + 1 + 1) % 3 == 0),marksZ (q + 3) n0,marksZ (q1) n1⟩,ZQ,ZR,.slice a0 n0 d0,.slice a1 n1 d1,.slice a2 n2 d2,.slice a3 n3 d3,.slice a4 n4 d4,.slice a5 n5 d5⟩ : Lr)) :: cs) from by have h:=aN.out.markR aF.out 1 _ (⟨(q : Int),((q : Int) + 1),⟨(((q : Int) + 1 + 1) % 3 == 0),marksZ (q + 3) n0,marksZ (q1) n1⟩,ZQ,ZR,.slice a0 n0 d0,.slice a1 n1 d1,.slice a2 n2 d2,.slice a3 n3 d3,.slice a4 n4 d4,.slice a5 n5 d5⟩ : Lr) rfl rfl rfl (by decide) ho hg; rw [List.set_set] at h; exact h)
   have aC:=Hd (show (T.set j (⟨(q : Int),((q : Int) + 1),⟨(((q : Int) + 1 + 1) % 3 == 0),marksZ (q + 3) n0,marksZ (q1) n1⟩,ZQ,ZR,.slice a0 n0 d0,.slice a1 n1 d1,.slice a2 n2 d2,.slice a3 n3 d3,.slice a4 n4 d4,.slice a5 n5 d5⟩ : Lr))[j]? = some (⟨(q : Int),((q : Int) + 1),⟨(((q : Int) + 1 + 1) % 3 == 0),marksZ (q + 3) n0,marksZ (q1) n1⟩,ZQ,ZR,.slice a0 n0 d0,.slice a1 n1 d1,.slice a2 n2 d2,.slice a3 n3 d3,.slice a4 n4 d4,.slice a5 n5 d5⟩ : Lr) from set_self HT.out)
   clear ho hg aN c4
   obtain ⟨q2,hq2⟩ : ∃ m : Nat,q1 + n1 = m:=⟨_,rfl⟩
   rw [hq2]
   have c5 : w2.cell? ⟨b,j * 11 + 5,none⟩ = some (.bool ZQ.s):=aI.out.cellL aC.out 5 rfl
   have c6 : w2.cell? ⟨b,j * 11 + 6,none⟩ = some ((.slice a2 n2 d2)):=aI.out.cellL aC.out 6 rfl
   have f5 : w2.frozen? ⟨b,j * 11 + 5,none⟩ = false:=aI.out.frozL aC.out 5 rfl
   go_wp2_with fail
   clear c5 c6 f5
   have aS:=Hd (show St w0 (w2.setCell ⟨b,j * 11 + 5,none⟩ (.bool ((q2 : Int) % 3 == 0))) ((b,cellsL (T.set j (⟨(q : Int),((q : Int) + 1),⟨(((q : Int) + 1 + 1) % 3 == 0),marksZ (q + 3) n0,marksZ (q1) n1⟩,⟨((q2 : Int) % 3 == 0),ZQ.xs,ZQ.ys⟩,ZR,.slice a0 n0 d0,.slice a1 n1 d1,.slice a2 n2 d2,.slice a3 n3 d3,.slice a4 n4 d4,.slice a5 n5 d5⟩ : Lr))) :: bs) (rowsL (T.set j (⟨(q : Int),((q : Int) + 1),⟨(((q : Int) + 1 + 1) % 3 == 0),marksZ (q + 3) n0,marksZ (q1) n1⟩,⟨((q2 : Int) % 3 == 0),ZQ.xs,ZQ.ys⟩,ZR,.slice a0 n0 d0,.slice a1 n1 d1,.slice a2 n2 d2,.slice a3 n3 d3,.slice a4 n4 d4,.slice a5 n5 d5⟩ : Lr)) :: cs) from by have h:=aI.out.setL aC.out 5 (.bool ((q2 : Int) % 3 == 0)) (⟨(q : Int),((q : Int) + 1),⟨(((q : Int) + 1 + 1) % 3 == 0),marksZ (q + 3) n0,marksZ (q1) n1⟩,⟨((q2 : Int) % 3 == 0),ZQ.xs,ZQ.ys⟩,ZR,.slice a0 n0 d0,.slice a1 n1 d1,.slice a2 n2 d2,.slice a3 n3 d3,.slice a4 n4 d4,.slice a5 n5 d5⟩ : Lr) rfl rfl (by decide); first | exact h | (rw [List.set_set] at h; exact h))
   have aJ:=Hd (show (T.set j (⟨(q : Int),((q : Int) + 1),⟨(((q : Int) + 1 + 1) % 3 == 0),marksZ (q + 3) n0,marksZ (q1) n1⟩,⟨((q2 : Int) % 3 == 0),ZQ.xs,ZQ.ys⟩,ZR,.slice a0 n0 d0,.slice a1 n1 d1,.slice a2 n2 d2,.slice a3 n3 d3,.slice a4 n4 d4,.slice a5 n5 d5⟩ : Lr))[j]? = some (⟨(q : Int),((q : Int) + 1),⟨(((q : Int) + 1 + 1) % 3 == 0),marksZ (q + 3) n0,marksZ (q1) n1⟩,⟨((q2 : Int) % 3 == 0),ZQ.xs,ZQ.ys⟩,ZR,.slice a0 n0 d0,.slice a1 n1 d1,.slice a2 n2 d2,.slice a3 n3 d3,.slice a4 n4 d4,.slice a5 n5 d5⟩ : Lr) from set_self HT.out)
   clear aI
   refine (markIntS_at a2 n2 d2 (q2 + 1) w0.heap.size _ (by first | rfl | omega | (push_cast; omega)) _ _ ((aS.out.own 0 rfl).at_ (j * 6 + 2) (rowsL_at aJ.out 2 rfl)) (by omega)).mono ?_
   rintro e w3 ⟨rfl,ho,hg⟩
   rw [← ints_marksZ] at ho
   have aO:=Hd (show St w0 w3 ((b,cellsL (T.set j (⟨(q : Int),((q : Int) + 1),⟨(((q : Int) + 1 + 1) % 3 == 0),marksZ (q + 3) n0,marksZ (q1) n1⟩,⟨((q2 : Int) % 3 == 0),marksZ (q2 + 1) n2,ZQ.ys⟩,ZR,.slice a0 n0 d0,.slice a1 n1 d1,.slice a2 n2 d2,.slice a3 n3 d3,.slice a4 n4 d4,.slice a5 n5 d5⟩ : Lr))) :: bs) (rowsL (T.set j (⟨(q : Int),((q : Int) + 1),⟨(((q : Int) + 1 + 1) % 3 == 0),marksZ (q + 3) n0,marksZ (q1) n1⟩,⟨((q2 : Int) % 3 == 0),marksZ (q2 + 1) n2,ZQ.ys⟩,ZR,.slice a0 n0 d0,.slice a1 n1 d1,.slice a2 n2 d2,.slice a3 n3 d3,.slice a4 n4 d4,.slice a5 n5 d5⟩ : Lr)) :: cs) from by have h:=aS.out.markR aJ.out 2 _ (⟨(q : Int),((q : Int) + 1),⟨(((q : Int) + 1 + 1) % 3 == 0),marksZ (q + 3) n0,marksZ (q1) n1⟩,⟨((q2 : Int) % 3 == 0),marksZ (q2 + 1) n2,ZQ.ys⟩,ZR,.slice a0 n0 d0,.slice a1 n1 d1,.slice a2 n2 d2,.slice a3 n3 d3,.slice a4 n4 d4,.slice a5 n5 d5⟩ : Lr) rfl rfl rfl (by decide) ho hg; rw [List.set_set] at h; exact h)
   have aG:=Hd (show (T.set j (⟨(q : Int),((q : Int) + 1),⟨(((q : Int) + 1 + 1) % 3 == 0),marksZ (q + 3) n0,marksZ (q1) n1⟩,⟨((q2 : Int) % 3 == 0),marksZ (q2 + 1) n2,ZQ.ys⟩,ZR,.slice a0 n0 d0,.slice a1 n1 d1,.slice a2 n2 d2,.slice a3 n3 d3,.slice a4 n4 d4,.slice a5 n5 d5⟩ : Lr))[j]? = some (⟨(q : Int),((q : Int) + 1),⟨(((q : Int) + 1 + 1) % 3 == 0),marksZ (q + 3) n0,marksZ (q1) n1⟩,⟨((q2 : Int) % 3 == 0),marksZ (q2 + 1) n2,ZQ.ys⟩,ZR,.slice a0 n0 d0,.slice a1 n1 d1,.slice a2 n2 d2,.slice a3 n3 d3,.slice a4 n4 d4,.slice a5 n5 d5⟩ : Lr) from set_self HT.out)
   clear ho hg aS
   obtain ⟨q3,hq3⟩ : ∃ m : Nat,q2 + 1 + n2 = m:=⟨_,rfl⟩
   rw [hq3]
   have c7 : w3.cell? ⟨b,j * 11 + 7,none⟩ = some ((.slice a3 n3 d3)):=aO.out.cellL aG.out 7 rfl
   go_wp2_with fail
   refine (markIntS_at a3 n3 d3 (q3) w0.heap.size _ (by first | rfl | omega | (push_cast; omega)) _ _ ((aO.out.own 0 rfl).at_ (j * 6 + 3) (rowsL_at aG.out 3 rfl)) (by omega)).mono ?_
   rintro e w4 ⟨rfl,ho,hg⟩
   rw [← ints_marksZ] at ho
   have aK:=Hd (show St w0 w4 ((b,cellsL (T.set j (⟨(q : Int),((q : Int) + 1),⟨(((q : Int) + 1 + 1) % 3 == 0),marksZ (q + 3) n0,marksZ (q1) n1⟩,⟨((q2 : Int) % 3 == 0),marksZ (q2 + 1) n2,marksZ (q3) n3⟩,ZR,.slice a0 n0 d0,.slice a1 n1 d1,.slice a2 n2 d2,.slice a3 n3 d3,.slice a4 n4 d4,.slice a5 n5 d5⟩ : Lr))) :: bs) (rowsL (T.set j (⟨(q : Int),((q : Int) + 1),⟨(((q : Int) + 1 + 1) % 3 == 0),marksZ (q + 3) n0,marksZ (q1) n1⟩,⟨((q2 : Int) % 3 == 0),marksZ (q2 + 1) n2,marksZ (q3) n3⟩,ZR,.slice a0 n0 d0,.slice a1 n1 d1,.slice a2 n2 d2,.slice a3 n3 d3,.slice a4 n4 d4,.slice a5 n5 d5⟩ : Lr)) :: cs) from by have h:=aO.out.markR aG.out 3 _ (⟨(q : Int),((q : Int) + 1),⟨(((q : Int) + 1 + 1) % 3 == 0),marksZ (q + 3) n0,marksZ (q1) n1⟩,⟨((q2 : Int) % 3 == 0),marksZ (q2 + 1) n2,marksZ (q3) n3⟩,ZR,.slice a0 n0 d0,.slice a1 n1 d1,.slice a2 n2 d2,.slice a3 n3 d3,.slice a4 n4 d4,.slice a5 n5 d5⟩ : Lr) rfl rfl rfl (by decide) ho hg; rw [List.set_set] at h; exact h)
   have aD:=Hd (show (T.set j (⟨(q : Int),((q : Int) + 1),⟨(((q : Int) + 1 + 1) % 3 == 0),marksZ (q + 3) n0,marksZ (q1) n1⟩,⟨((q2 : Int) % 3 == 0),marksZ (q2 + 1) n2,marksZ (q3) n3⟩,ZR,.slice a0 n0 d0,.slice a1 n1 d1,.slice a2 n2 d2,.slice a3 n3 d3,.slice a4 n4 d4,.slice a5 n5 d5⟩ : Lr))[j]? = some (⟨(q : Int),((q : Int) + 1),⟨(((q : Int) + 1 + 1) % 3 == 0),marksZ (q + 3) n0,marksZ (q1) n1⟩,⟨((q2 : Int) % 3 == 0),marksZ (q2 + 1) n2,marksZ (q3) n3⟩,ZR,.slice a0 n0 d0,.slice a1 n1 d1,.slice a2 n2 d2,.slice a3 n3 d3,.slice a4 n4 d4,.slice a5 n5 d5⟩ : Lr) from set_self HT.out)
   clear ho hg aO c7
   obtain ⟨q4,hq4⟩ : ∃ m : Nat,q3 + n3 = m:=⟨_,rfl⟩
   rw [hq4]
   have c8 : w4.cell? ⟨b,j * 11 + 8,none⟩ = some (.bool ZR.s):=aK.out.cellL aD.out 8 rfl
   have c9 : w4.cell? ⟨b,j * 11 + 9,none⟩ = some ((.slice a4 n4 d4)):=aK.out.cellL aD.out 9 rfl
   have f8 : w4.frozen? ⟨b,j * 11 + 8,none⟩ = false:=aK.out.frozL aD.out 8 rfl
   go_wp2_with fail
   clear c8 c9 f8
   have aT:=Hd (show St w0 (w4.setCell ⟨b,j * 11 + 8,none⟩ (.bool ((q4 : Int) % 3 == 0))) ((b,cellsL (T.set j (⟨(q : Int),((q : Int) + 1),⟨(((q : Int) + 1 + 1) % 3 == 0),marksZ (q + 3) n0,marksZ (q1) n1⟩,⟨((q2 : Int) % 3 == 0),marksZ (q2 + 1) n2,marksZ (q3) n3⟩,⟨((q4 : Int) % 3 == 0),ZR.xs,ZR.ys⟩,.slice a0 n0 d0,.slice a1 n1 d1,.slice a2 n2 d2,.slice a3 n3 d3,.slice a4 n4 d4,.slice a5 n5 d5⟩ : Lr))) :: bs) (rowsL (T.set j (⟨(q : Int),((q : Int) + 1),⟨(((q : Int) + 1 + 1) % 3 == 0),marksZ (q + 3) n0,marksZ (q1) n1⟩,⟨((q2 : Int) % 3 == 0),marksZ (q2 + 1) n2,marksZ (q3) n3⟩,⟨((q4 : Int) % 3 == 0),ZR.xs,ZR.ys⟩,.slice a0 n0 d0,.slice a1 n1 d1,.slice a2 n2 d2,.slice a3 n3 d3,.slice a4 n4 d4,.slice a5 n5 d5⟩ : Lr)) :: cs) from by have h:=aK.out.setL aD.out 8 (.bool ((q4 : Int) % 3 == 0)) (⟨(q : Int),((q : Int) + 1),⟨(((q : Int) + 1 + 1) % 3 == 0),marksZ (q + 3) n0,marksZ (q1) n1⟩,⟨((q2 : Int) % 3 == 0),marksZ (q2 + 1) n2,marksZ (q3) n3⟩,⟨((q4 : Int) % 3 == 0),ZR.xs,ZR.ys⟩,.slice a0 n0 d0,.slice a1 n1 d1,.slice a2 n2 d2,.slice a3 n3 d3,.slice a4 n4 d4,.slice a5 n5 d5⟩ : Lr) rfl rfl (by decide); first | exact h | (rw [List.set_set] at h; exact h))
   have aL:=Hd (show (T.set j (⟨(q : Int),((q : Int) + 1),⟨(((q : Int) + 1 + 1) % 3 == 0),marksZ (q + 3) n0,marksZ (q1) n1⟩,⟨((q2 : Int) % 3 == 0),marksZ (q2 + 1) n2,marksZ (q3) n3⟩,⟨((q4 : Int) % 3 == 0),ZR.xs,ZR.ys⟩,.slice a0 n0 d0,.slice a1 n1 d1,.slice a2 n2 d2,.slice a3 n3 d3,.slice a4 n4 d4,.slice a5 n5 d5⟩ : Lr))[j]? = some (⟨(q : Int),((q : Int) + 1),⟨(((q : Int) + 1 + 1) % 3 == 0),marksZ (q + 3) n0,marksZ (q1) n1⟩,⟨((q2 : Int) % 3 == 0),marksZ (q2 + 1) n2,marksZ (q3) n3⟩,⟨((q4 : Int) % 3 == 0),ZR.xs,ZR.ys⟩,.slice a0 n0 d0,.slice a1 n1 d1,.slice a2 n2 d2,.slice a3 n3 d3,.slice a4 n4 d4,.slice a5 n5 d5⟩ : Lr) from set_self HT.out)
   clear aK
   refine (markIntS_at a4 n4 d4 (q4 + 1) w0.heap.size _ (by first | rfl | omega | (push_cast; omega)) _ _ ((aT.out.own 0 rfl).at_ (j * 6 + 4) (rowsL_at aL.out 4 rfl)) (by omega)).mono ?_
   rintro e w5 ⟨rfl,ho,hg⟩
   rw [← ints_marksZ] at ho
   have aE:=Hd (show St w0 w5 ((b,cellsL (T.set j (⟨(q : Int),((q : Int) + 1),⟨(((q : Int) + 1 + 1) % 3 == 0),marksZ (q + 3) n0,marksZ (q1) n1⟩,⟨((q2 : Int) % 3 == 0),marksZ (q2 + 1) n2,marksZ (q3) n3⟩,⟨((q4 : Int) % 3 == 0),marksZ (q4 + 1) n4,ZR.ys⟩,.slice a0 n0 d0,.slice a1 n1 d1,.slice a2 n2 d2,.slice a3 n3 d3,.slice a4 n4 d4,.slice a5 n5 d5⟩ : Lr))) :: bs) (rowsL (T.set j (⟨(q : Int),((q : Int) + 1),⟨(((q : Int) + 1 + 1) % 3 == 0),marksZ (q + 3) n0,marksZ (q1) n1⟩,⟨((q2 : Int) % 3 == 0),marksZ (q2 + 1) n2,marksZ (q3) n3⟩,⟨((q4 : Int) % 3 == 0),marksZ (q4 + 1) n4,ZR.ys⟩,.slice a0 n0 d0,.slice a1 n1 d1,.slice a2 n2 d2,.slice a3 n3 d3,.slice a4 n4 d4,.slice a5 n5 d5⟩ : Lr)) :: cs) from by have h:=aT.out.markR aL.out 4 _ (⟨(q : Int),((q : Int) + 1),⟨(((q : Int) + 1 + 1) % 3 == 0),marksZ (q + 3) n0,marksZ (q1) n1⟩,⟨((q2 : Int) % 3 == 0),marksZ (q2 + 1) n2,marksZ (q3) n3⟩,⟨((q4 : Int) % 3 == 0),marksZ (q4 + 1) n4,ZR.ys⟩,.slice a0 n0 d0,.slice a1 n1 d1,.slice a2 n2 d2,.slice a3 n3 d3,.slice a4 n4 d4,.slice a5 n5 d5⟩ : Lr) rfl rfl rfl (by decide) ho hg; rw [List.set_set] at h; exact h)
   have aB:=Hd (show (T.set j (⟨(q : Int),((q : Int) + 1),⟨(((q : Int) + 1 + 1) % 3 == 0),marksZ (q + 3) n0,marksZ (q1) n1⟩,⟨((q2 : Int) % 3 == 0),marksZ (q2 + 1) n2,marksZ (q3) n3⟩,⟨((q4 : Int) % 3 == 0),marksZ (q4 + 1) n4,ZR.ys⟩,.slice a0 n0 d0,.slice a1 n1 d1,.slice a2 n2 d2,.slice a3 n3 d3,.slice a4 n4 d4,.slice a5 n5 d5⟩ : Lr))[j]? = some (⟨(q : Int),((q : Int) + 1),⟨(((q : Int) + 1 + 1) % 3 == 0),marksZ (q + 3) n0,marksZ (q1) n1⟩,⟨((q2 : Int) % 3 == 0),marksZ (q2 + 1) n2,marksZ (q3) n3⟩,⟨((q4 : Int) % 3 == 0),marksZ (q4 + 1) n4,ZR.ys⟩,.slice a0 n0 d0,.slice a1 n1 d1,.slice a2 n2 d2,.slice a3 n3 d3,.slice a4 n4 d4,.slice a5 n5 d5⟩ : Lr) from set_self HT.out)
   clear ho hg aT
   obtain ⟨q5,hq5⟩ : ∃ m : Nat,q4 + 1 + n4 = m:=⟨_,rfl⟩
   rw [hq5]
   have c10 : w5.cell? ⟨b,j * 11 + 10,none⟩ = some ((.slice a5 n5 d5)):=aE.out.cellL aB.out 10 rfl
   go_wp2_with fail
   refine (markIntS_at a5 n5 d5 (q5) w0.heap.size _ (by first | rfl | omega | (push_cast; omega)) _ _ ((aE.out.own 0 rfl).at_ (j * 6 + 5) (rowsL_at aB.out 5 rfl)) (by omega)).mono ?_
   rintro e w6 ⟨rfl,ho,hg⟩
   rw [← ints_marksZ] at ho
   have aM:=Hd (show St w0 w6 ((b,cellsL (T.set j (⟨(q : Int),((q : Int) + 1),⟨(((q : Int) + 1 + 1) % 3 == 0),marksZ (q + 3) n0,marksZ (q1) n1⟩,⟨((q2 : Int) % 3 == 0),marksZ (q2 + 1) n2,marksZ (q3) n3⟩,⟨((q4 : Int) % 3 == 0),marksZ (q4 + 1) n4,marksZ (q5) n5⟩,.slice a0 n0 d0,.slice a1 n1 d1,.slice a2 n2 d2,.slice a3 n3 d3,.slice a4 n4 d4,.slice a5 n5 d5⟩ : Lr))) :: bs) (rowsL (T.set j (⟨(q : Int),((q : Int) + 1),⟨(((q : Int) + 1 + 1) % 3 == 0),marksZ (q + 3) n0,marksZ (q1) n1⟩,⟨((q2 : Int) % 3 == 0),marksZ (q2 + 1) n2,marksZ (q3) n3⟩,⟨((q4 : Int) % 3 == 0),marksZ (q4 + 1) n4,marksZ (q5) n5⟩,.slice a0 n0 d0,.slice a1 n1 d1,.slice a2 n2 d2,.slice a3 n3 d3,.slice a4 n4 d4,.slice a5 n5 d5⟩ : Lr)) :: cs) from by have h:=aE.out.markR aB.out 5 _ (⟨(q : Int),((q : Int) + 1),⟨(((q : Int) + 1 + 1) % 3 == 0),marksZ (q + 3) n0,marksZ (q1) n1⟩,⟨((q2 : Int) % 3 == 0),marksZ (q2 + 1) n2,marksZ (q3) n3⟩,⟨((q4 : Int) % 3 == 0),marksZ (q4 + 1) n4,marksZ (q5) n5⟩,.slice a0 n0 d0,.slice a1 n1 d1,.slice a2 n2 d2,.slice a3 n3 d3,.slice a4 n4 d4,.slice a5 n5 d5⟩ : Lr) rfl rfl rfl (by decide) ho hg; rw [List.set_set] at h; exact h)
   have aY:=Hd (show (T.set j (⟨(q : Int),((q : Int) + 1),⟨(((q : Int) + 1 + 1) % 3 == 0),marksZ (q + 3) n0,marksZ (q1) n1⟩,⟨((q2 : Int) % 3 == 0),marksZ (q2 + 1) n2,marksZ (q3) n3⟩,⟨((q4 : Int) % 3 == 0),marksZ (q4 + 1) n4,marksZ (q5) n5⟩,.slice a0 n0 d0,.slice a1 n1 d1,.slice a2 n2 d2,.slice a3 n3 d3,.slice a4 n4 d4,.slice a5 n5 d5⟩ : Lr))[j]? = some (⟨(q : Int),((q : Int) + 1),⟨(((q : Int) + 1 + 1) % 3 == 0),marksZ (q + 3) n0,marksZ (q1) n1⟩,⟨((q2 : Int) % 3 == 0),marksZ (q2 + 1) n2,marksZ (q3) n3⟩,⟨((q4 : Int) % 3 == 0),marksZ (q4 + 1) n4,marksZ (q5) n5⟩,.slice a0 n0 d0,.slice a1 n1 d1,.slice a2 n2 d2,.slice a3 n3 d3,.slice a4 n4 d4,.slice a5 n5 d5⟩ : Lr) from set_self HT.out)
   clear ho hg aE c10
   obtain ⟨q6,hq6⟩ : ∃ m : Nat,q5 + n5 = m:=⟨_,rfl⟩
   rw [hq6]
   have HZE:=Hd (show (⟨(q : Int),((q : Int) + 1),⟨(((q : Int) + 1 + 1) % 3 == 0),marksZ (q + 3) n0,marksZ (q1) n1⟩,⟨((q2 : Int) % 3 == 0),marksZ (q2 + 1) n2,marksZ (q3) n3⟩,⟨((q4 : Int) % 3 == 0),marksZ (q4 + 1) n4,marksZ (q5) n5⟩,.slice a0 n0 d0,.slice a1 n1 d1,.slice a2 n2 d2,.slice a3 n3 d3,.slice a4 n4 d4,.slice a5 n5 d5⟩ : Lr) = markLr q (⟨ZA,ZB,ZP,ZQ,ZR,.slice a0 n0 d0,.slice a1 n1 d1,.slice a2 n2 d2,.slice a3 n3 d3,.slice a4 n4 d4,.slice a5 n5 d5⟩ : Lr) from by
    have e0:=HL0.out
    have e1:=HL1.out
    have e2:=HL2.out
    have e3:=HL3.out
    have e4:=HL4.out
    have e5:=HL5.out
    have eP:=HPl.out
    have eQ:=aV.out
    simp only [markLr,markFr,eP,eQ,← e0,← e1,← e2,← e3,← e4,← e5]
    rw [mod3 (show (q : Int) + 1 + 1 = ((q + 2 : Nat) : Int) by omega),mod3 (rfl : (q2 : Int) = (q2 : Int)),mod3 (rfl : (q4 : Int) = (q4 : Int))]
    rw [show (q : Int) + 1 = ((q + 1 : Nat) : Int) by omega,show q + 2 + 1 = q + 3 by omega,show q + 3 + n0 = q1 by omega,show q + 3 + (n0 + n1) = q2 by omega,show q + 4 + (n0 + n1) + (n2 + n3) = q4 by omega,show q2 + 1 + n2 = q3 by omega,show q4 + 1 + n4 = q5 by omega])
   have aZ:=Hd (show q6 = markAt k zs (j + 1) by have h1:=aU.out; have h2:=HQ.out; have eP:=HPl.out; have eQ:=aV.out; have eR:=HRl.out; simp only [Lr.len,eP,eQ,eR] at h1; omega)
   have a6:=Hd (show St w0 w6 ((b,cellsL (markTo k zs (j + 1))) :: bs) (rowsL (markTo k zs (j + 1)) :: cs) from by have h:=aM.out; rw [HZE.out,← HTT.out] at h; rw [← markTo_succ HZ.out,← HQ.out]; exact h)
   clear aM
   have hq6b : q6 ≤ 1073741824:=by omega
   clear hq1 hq2 hq3 hq4 hq5 hq6
   go_wp2
   exact ⟨⟨j + 1,q6,by omega,by go_num,rfl,aZ.out,a6.out⟩,by simp [intOf]; omega⟩
  ·obtain rfl : j = n:=by omega
   have HE:=Hd (show ((q : Nat) : Int) = ((k + 5 * j + lensL zs : Nat) : Int) by rw [HQ.out,← HL.out,markAt_all])
   go_wp2
   go_ret
   refine ⟨ret_int HE.out,?_⟩
   have h:=aA.out
   rw [← HL.out,markTo_all] at h
   exact h
theorem heldLinkS_f (b n c k : Nat) (K : Int) (hK : K = (k : Int)) (zs : List Lr) (w0 w : World) (bs : List (Nat × List Value)) (cs : List Chunk) (hl : zs.length = n) (hS : St w0 w ((b,cellsL (markLs k zs)) :: bs) (rowsL (markLs k zs) :: cs)) (hn : k + 5 * n + lensL zs ≤ 1073741824) :
 Calls Tryz.prog 17 #[.slice (some ⟨b,0,none⟩) n c,.int .i64 K] w fun e w' =>e = .returned (.int .i64 ((k + 5 * n + lensL zs : Nat) : Int)) ∧ Below w.heap.size w w':=by
 subst hK
 have HL:=Hd hl
 have HS:=Hd hS
 have HN:=Hd hn
 have hn1 : n ≤ 1073741824:=by omega
 clear hl hS hn
 go_enter Tryz.func17,Tryz.ntmps17
 go_wp2
 go_loopw [1,5] (fun kk i wr=>∃ j q : Nat,j ≤ n ∧ i = .int .i64 j ∧ kk = .int .i64 (q : Int) ∧ q = markAt k zs j ∧ Below w.heap.size w wr) (fun _ i _=>n - (intOf i).toNat)
 case atStart=>exact ⟨0,k,Nat.zero_le _,rfl,rfl,by simp [markAt,lensL],Below.refl _ _⟩
 case round=>
  obtain ⟨j,q,hj,rfl,rfl,hq,hst⟩:=hrel
  have HB:=Hd hst
  have HQ:=Hd hq
  clear hst hq
  by_cases hlt : j < n
  ·obtain ⟨z,hz⟩ : ∃ z,zs[j]? = some z:=⟨_,List.getElem?_eq_getElem (by have:=HL.out; omega)⟩
   have aA:=Hd (HS.out.call HB.out)
   have hT:=markLs_at (k:=k) hz
   rw [← HQ.out] at hT
   obtain ⟨ZA,ZB,ZP,ZQ,ZR,p0,p1,p2,p3,p4,p5⟩:=z
   have hO:=aA.out.own 0 rfl
   have hr0:=hO.at_ (j * 6 + 0) (rowsL_at hT 0 rfl)
   have hr1:=hO.at_ (j * 6 + 1) (rowsL_at hT 1 rfl)
   have hr2:=hO.at_ (j * 6 + 2) (rowsL_at hT 2 rfl)
   have hr3:=hO.at_ (j * 6 + 3) (rowsL_at hT 3 rfl)
   have hr4:=hO.at_ (j * 6 + 4) (rowsL_at hT 4 rfl)
   have hr5:=hO.at_ (j * 6 + 5) (rowsL_at hT 5 rfl)
   obtain ⟨a0,n0,d0,rfl⟩:=hr0.shape3
   obtain ⟨a1,n1,d1,rfl⟩:=hr1.shape3
   obtain ⟨a2,n2,d2,rfl⟩:=hr2.shape3
   obtain ⟨a3,n3,d3,rfl⟩:=hr3.shape3
   obtain ⟨a4,n4,d4,rfl⟩:=hr4.shape3
   obtain ⟨a5,n5,d5,rfl⟩:=hr5.shape3
   have hm0 : OwnV wr w0.heap.size 3 (.slice a0 n0 d0) (marksI (q + 2 + 1) ZP.xs.length):=by rw [← ints_marksZ]; exact hr0
   have hm1 : OwnV wr w0.heap.size 3 (.slice a1 n1 d1) (marksI (q + 2 + 1 + ZP.xs.length) ZP.ys.length):=by rw [← ints_marksZ]; exact hr1
   have hm2 : OwnV wr w0.heap.size 3 (.slice a2 n2 d2) (marksI (q + 3 + ZP.len + 1) ZQ.xs.length):=by rw [← ints_marksZ]; exact hr2
   have hm3 : OwnV wr w0.heap.size 3 (.slice a3 n3 d3) (marksI (q + 3 + ZP.len + 1 + ZQ.xs.length) ZQ.ys.length):=by rw [← ints_marksZ]; exact hr3
   have hm4 : OwnV wr w0.heap.size 3 (.slice a4 n4 d4) (marksI (q + 4 + ZP.len + ZQ.len + 1) ZR.xs.length):=by rw [← ints_marksZ]; exact hr4
   have hm5 : OwnV wr w0.heap.size 3 (.slice a5 n5 d5) (marksI (q + 4 + ZP.len + ZQ.len + 1 + ZR.xs.length) ZR.ys.length):=by rw [← ints_marksZ]; exact hr5
   have hl0 : n0 = ZP.xs.length:=by have h:=hm0.len; rw [marksI_len] at h; omega
   have hl1 : n1 = ZP.ys.length:=by have h:=hm1.len; rw [marksI_len] at h; omega
   have hl2 : n2 = ZQ.xs.length:=by have h:=hm2.len; rw [marksI_len] at h; omega
   have hl3 : n3 = ZQ.ys.length:=by have h:=hm3.len; rw [marksI_len] at h; omega
   have hl4 : n4 = ZR.xs.length:=by have h:=hm4.len; rw [marksI_len] at h; omega
   have hl5 : n5 = ZR.ys.length:=by have h:=hm5.len; rw [marksI_len] at h; omega
   have hPl : ZP.len = n0 + n1:=by simp only [Fr.len]; omega
   have hQl : ZQ.len = n2 + n3:=by simp only [Fr.len]; omega
   have hRl : ZR.len = n4 + n5:=by simp only [Fr.len]; omega
   have aL:=Hd (markAt_succ (k:=k) hz)
   have hqb : q + 5 + (n0 + n1 + (n2 + n3) + (n4 + n5)) ≤ 1073741824:=by
    have h1:=markAt_le k zs (j + 1) (by have:=HL.out; omega)
    have h2:=aL.out
    have h3:=HQ.out
    have h4:=HN.out
    have h5:=HL.out
    simp only [Lr.len,hPl,hQl,hRl] at h2
    omega
   have aN:=Hd (show VRow wr a0 n0 (marksI (q + 3) n0) from by have h:=hm0.row; rw [show q + 2 + 1 = q + 3 by omega,← hl0] at h; exact h)
   have aM:=Hd (show VRow wr a1 n1 (marksI (q + 3 + n0) n1) from by have h:=hm1.row; rw [show q + 2 + 1 + ZP.xs.length = q + 3 + n0 by omega,← hl1] at h; exact h)
   have aH:=Hd (show VRow wr a2 n2 (marksI (q + 3 + n0 + n1 + 1) n2) from by have h:=hm2.row; rw [show q + 3 + ZP.len + 1 = q + 3 + n0 + n1 + 1 by omega,← hl2] at h; exact h)
   have aE:=Hd (show VRow wr a3 n3 (marksI (q + 3 + n0 + n1 + 1 + n2) n3) from by have h:=hm3.row; rw [show q + 3 + ZP.len + 1 + ZQ.xs.length = q + 3 + n0 + n1 + 1 + n2 by omega,← hl3] at h; exact h)
   have aD:=Hd (show VRow wr a4 n4 (marksI (q + 3 + n0 + n1 + 1 + n2 + n3 + 1) n4) from by have h:=hm4.row; rw [show q + 4 + ZP.len + ZQ.len + 1 = q + 3 + n0 + n1 + 1 + n2 + n3 + 1 by omega,← hl4] at h; exact h)
   have aC:=Hd (show VRow wr a5 n5 (marksI (q + 3 + n0 + n1 + 1 + n2 + n3 + 1 + n4) n5) from by have h:=hm5.row; rw [show q + 4 + ZP.len + ZQ.len + 1 + ZR.xs.length = q + 3 + n0 + n1 + 1 + n2 + n3 + 1 + n4 by omega,← hl5] at h; exact h)
   have HT:=Hd hT
   have aB:=Hd (show q + 3 + n0 + n1 + 1 + n2 + n3 + 1 + n4 + n5 = markAt k zs (j + 1) by have h2:=aL.out; have h3:=HQ.out; simp only [Lr.len,hPl,hQl,hRl] at h2; omega)
   have hs2 : (q + 3 + ZP.len) % 3 = (q + 3 + n0 + n1) % 3:=by rw [hPl,Nat.add_assoc (q + 3)]
   have hs4 : (q + 4 + ZP.len + ZQ.len) % 3 = (q + 3 + n0 + n1 + 1 + n2 + n3) % 3:=by rw [hPl,hQl]; congr 1; omega
   have HS2:=Hd hs2
   have HS4:=Hd hs4
   clear hz hO hr0 hr1 hr2 hr3 hr4 hr5 hm0 hm1 hm2 hm3 hm4 hm5 hl0 hl1 hl2 hl3 hl4 hl5 hPl hQl hRl hT hs2 hs4
   have hj0 : (0 : Int) ≤ (j : Int):=by omega
   have hj1 : (j : Int) < (n : Int):=by omega
   have aA:=Hd aA.out
   have c0 : wr.cell? ⟨b,j * 11,none⟩ = some (.int .i64 (q : Int)):=by exact aA.out.cellL HT.out 0 rfl
   have c1 : wr.cell? ⟨b,j * 11 + 1,none⟩ = some (.int .i64 ((q : Int) + 1)):=by rw [show (q : Int) + 1 = ((q + 1 : Nat) : Int) by omega]; exact aA.out.cellL HT.out 1 rfl
   have c2 : wr.cell? ⟨b,j * 11 + 2,none⟩ = some (.bool (((q : Int) + 1 + 1) % 3 == 0)):=by rw [mod3 (show (q : Int) + 1 + 1 = ((q + 2 : Nat) : Int) by omega)]; exact aA.out.cellL HT.out 2 rfl
   have c3 : wr.cell? ⟨b,j * 11 + 3,none⟩ = some (.slice a0 n0 d0):=by exact aA.out.cellL HT.out 3 rfl
   go_wp2_with fail
   refine (heldIntS_at a0 n0 d0 (q + 3) _ (by first | rfl | omega | (push_cast; omega)) _ (aN.out.below (Below.refl _ _) (Nat.le_refl _)) (by omega)).mono ?_
   rintro e w1 ⟨rfl,hb⟩
   clear c0 c1 c2 c3
   have BB0:=Hd hb
   have aI:=Hd (aA.out.call hb)
   clear hb aA
   have BB:=Hd BB0.out
   clear BB0
   obtain ⟨q1,hq1⟩ : ∃ m : Nat,q + 3 + n0 = m:=⟨_,rfl⟩
   rw [hq1]
   rw [show q + 3 + n0 = q1 from hq1] at aM aH aE aD aC aB HS2 HS4
   have HN1:=Hd (rfl : q1 = q1)
   have c4 : w1.cell? ⟨b,j * 11 + 4,none⟩ = some (.slice a1 n1 d1):=by exact aI.out.cellL HT.out 4 rfl
   go_wp2_with fail
   refine (heldIntS_at a1 n1 d1 (q1) _ (by first | rfl | omega | (push_cast; omega)) _ (aM.out.below BB.out (Nat.le_refl _)) (by omega)).mono ?_
   rintro e w2 ⟨rfl,hb⟩
   clear c4
   have BB1:=Hd (BB.out.trans (hb.mono BB.out.size))
   have aF:=Hd (aI.out.call hb)
   clear hb aI BB
   have BB:=Hd BB1.out
   clear BB1
   obtain ⟨q2,hq2⟩ : ∃ m : Nat,q1 + n1 = m:=⟨_,rfl⟩
   rw [hq2]
   rw [show q1 + n1 = q2 from hq2] at aH aE aD aC aB HS2 HS4
   have HN2:=Hd (rfl : q2 = q2)
   have c5 : w2.cell? ⟨b,j * 11 + 5,none⟩ = some (.bool ((q2 : Int) % 3 == 0)):=by rw [mod3 (rfl : (q2 : Int) = (q2 : Int)),← HN2.out,← HS2.out]; exact aF.out.cellL HT.out 5 rfl
   have c6 : w2.cell? ⟨b,j * 11 + 6,none⟩ = some (.slice a2 n2 d2):=by exact aF.out.cellL HT.out 6 rfl
   go_wp2_with fail
   refine (heldIntS_at a2 n2 d2 (q2 + 1) _ (by first | rfl | omega | (push_cast; omega)) _ (aH.out.below BB.out (Nat.le_refl _)) (by omega)).mono ?_
   rintro e w3 ⟨rfl,hb⟩
   clear c5 c6
   have BB2:=Hd (BB.out.trans (hb.mono BB.out.size))
   have aJ:=Hd (aF.out.call hb)
   clear hb aF BB
   have BB:=Hd BB2.out
   clear BB2
   obtain ⟨q3,hq3⟩ : ∃ m : Nat,q2 + 1 + n2 = m:=⟨_,rfl⟩
   rw [hq3]
   rw [show q2 + 1 + n2 = q3 from hq3] at aE aD aC aB HS4
   have HN3:=Hd (rfl : q3 = q3)
   have c7 : w3.cell? ⟨b,j * 11 + 7,none⟩ = some (.slice a3 n3 d3):=by exact aJ.out.cellL HT.out 7 rfl
   go_wp2_with fail
   refine (heldIntS_at a3 n3 d3 (q3) _ (by first | rfl | omega | (push_cast; omega)) _ (aE.out.below BB.out (Nat.le_refl _)) (by omega)).mono ?_
   rintro e w4 ⟨rfl,hb⟩
   clear c7
   have BB3:=Hd (BB.out.trans (hb.mono BB.out.size))
   have aG:=Hd (aJ.out.call hb)
   clear hb aJ BB
   have BB:=Hd BB3.out
   clear BB3
   obtain ⟨q4,hq4⟩ : ∃ m : Nat,q3 + n3 = m:=⟨_,rfl⟩
   rw [hq4]
   rw [show q3 + n3 = q4 from hq4] at aD aC aB HS4
   have HN4:=Hd (rfl : q4 = q4)
   have c8 : w4.cell? ⟨b,j * 11 + 8,none⟩ = some (.bool ((q4 : Int) % 3 == 0)):=by rw [mod3 (rfl : (q4 : Int) = (q4 : Int)),← HN4.out,← HS4.out]; exact aG.out.cellL HT.out 8 rfl
   have c9 : w4.cell? ⟨b,j * 11 + 9,none⟩ = some (.slice a4 n4 d4):=by exact aG.out.cellL HT.out 9 rfl
   go_wp2_with fail
   refine (heldIntS_at a4 n4 d4 (q4 + 1) _ (by first | rfl | omega | (push_cast; omega)) _ (aD.out.below BB.out (Nat.le_refl _)) (by omega)).mono ?_
   rintro e w5 ⟨rfl,hb⟩
   clear c8 c9
   have BB4:=Hd (BB.out.trans (hb.mono BB.out.size))
   have aK:=Hd (aG.out.call hb)
   clear hb aG BB
   have BB:=Hd BB4.out
   clear BB4
   obtain ⟨q5,hq5⟩ : ∃ m : Nat,q4 + 1 + n4 = m:=⟨_,rfl⟩
   rw [hq5]
   rw [show q4 + 1 + n4 = q5 from hq5] at aC aB
   have HN5:=Hd (rfl : q5 = q5)
   have c10 : w5.cell? ⟨b,j * 11 + 10,none⟩ = some (.slice a5 n5 d5):=by exact aK.out.cellL HT.out 10 rfl
   go_wp2_with fail
   refine (heldIntS_at a5 n5 d5 (q5) _ (by first | rfl | omega | (push_cast; omega)) _ (aC.out.below BB.out (Nat.le_refl _)) (by omega)).mono ?_
   rintro e w6 ⟨rfl,hb⟩
   clear c10
   have BB5:=Hd (BB.out.trans (hb.mono BB.out.size))
   have aO:=Hd (aK.out.call hb)
   clear hb aK BB
   have BB:=Hd BB5.out
   clear BB5
   obtain ⟨q6,hq6⟩ : ∃ m : Nat,q5 + n5 = m:=⟨_,rfl⟩
   rw [hq6]
   rw [hq6] at aB
   have HN6:=Hd (rfl : q6 = q6)
   have HB2:=Hd (HB.out.trans (BB.out.mono HB.out.size))
   have hq6b : q6 ≤ 1073741824:=by omega
   clear hq1 hq2 hq3 hq4 hq5 hq6
   go_wp2
   exact ⟨⟨j + 1,q6,by omega,by go_num,rfl,aB.out,HB2.out⟩,by simp [intOf]; omega⟩
  ·obtain rfl : j = n:=by omega
   have HE:=Hd (show ((q : Nat) : Int) = ((k + 5 * j + lensL zs : Nat) : Int) by rw [HQ.out,← HL.out,markAt_all])
   go_wp2
   go_ret
   exact ⟨ret_int HE.out,HB.out⟩
end Go.Proofs.YtodoiekbjjiocaaGreat
