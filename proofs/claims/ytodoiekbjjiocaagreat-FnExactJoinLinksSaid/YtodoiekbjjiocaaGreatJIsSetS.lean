/- Links: IsLinkSet, the model. Conditions: none. -/
import Derived.Test.YtodoiekbjjiocaaGreatJPk
import Derived.Test.YtodoiekbjjiocaaGreatJIsSet
namespace Go.Proofs.YtodoiekbjjiocaaGreat
open Go.RowKit Nt Fr
set_option linter.unusedVariables false
set_option maxRecDepth 100000
set_option maxHeartbeats 4000000
theorem isLinkSet_s (A : Option Addr) (n c : Nat) (zs : List Lr) (w : World) (hA : LArg w A n zs) (hn : n ≤ 1048576) :
 Calls Tryz.prog 22 #[.slice A n c] w fun e w' =>e = .returned (.bool (okSet zs)) ∧ Below w.heap.size w w':=by
 have HA:=Hd hA
 have HL:=Hd hA.row.1
 obtain ⟨ok,hok⟩ : ∃ z,okSet zs = z:=⟨_,rfl⟩
 rw [hok]
 have HOK:=Hd hok
 clear hA hok
 go_enter Tryz.func22,Tryz.ntmps22
 go_wp2
 go_loopw [7] (fun i wr=>∃ k : Nat,k ≤ n ∧ i = .int .i64 k ∧ validP zs k ∧ ascP zs k ∧ Below w.heap.size w wr) (fun i _=>n - (intOf i).toNat)
 case atStart=>exact ⟨0,Nat.zero_le _,rfl,fun i z hi=>by omega,asc_le (Nat.zero_le _),Below.refl _ _⟩
 case round=>
  obtain ⟨k0,hk,rfl,hv,ha,hb⟩:=hrel
  have HV:=Hd hv
  have HAS:=Hd ha
  have aH:=Hd (show St wr wr [] [] from St.start wr)
  have HB:=Hd hb
  clear hv ha hb
  by_cases hlt : k0 < n
  ·obtain ⟨g,o,z,rfl,hg,hz,hr,hc⟩:=(HA.out.below HB.out).at_ hlt
   obtain ⟨ZA,ZB,ZP,ZQ,ZR,a0,n0,c0,a1,n1,c1,a2,n2,c2,a3,n3,c3,a4,n4,c4,a5,n5,c5,rfl⟩:=LArg.shapes hr
   have HZ:=Hd hz
   have HR:=Hd (show LkA wr ZP ZQ ZR (.slice a0 n0 c0) (.slice a1 n1 c1) (.slice a2 n2 c2) (.slice a3 n3 c3) (.slice a4 n4 c4) (.slice a5 n5 c5) from hr)
   have aG:=Hd (aH.out.alloc [.int .i64 ZA,.int .i64 ZB,.bool ZP.s,(.slice a0 n0 c0),(.slice a1 n1 c1),.bool ZQ.s,(.slice a2 n2 c2),(.slice a3 n3 c3),.bool ZR.s,(.slice a4 n4 c4),(.slice a5 n5 c5)] 40)
   have hi0 : (0 : Int) ≤ (k0 : Int):=by omega
   have hi1 : (k0 : Int) < (n : Int):=by omega
   cases k0 with
   | zero=>
    have d0 : wr.cell? ⟨g,o,none⟩ = some (.int .i64 ZA):=by simpa using hc 0 _ rfl
    have d1 : wr.cell? ⟨g,o + 1,none⟩ = some (.int .i64 ZB):=by simpa using hc 1 _ rfl
    have d2 : wr.cell? ⟨g,o + 2,none⟩ = some (.bool ZP.s):=by simpa using hc 2 _ rfl
    have d3 : wr.cell? ⟨g,o + 3,none⟩ = some ((.slice a0 n0 c0)):=by simpa using hc 3 _ rfl
    have d4 : wr.cell? ⟨g,o + 4,none⟩ = some ((.slice a1 n1 c1)):=by simpa using hc 4 _ rfl
    have d5 : wr.cell? ⟨g,o + 5,none⟩ = some (.bool ZQ.s):=by simpa using hc 5 _ rfl
    have d6 : wr.cell? ⟨g,o + 6,none⟩ = some ((.slice a2 n2 c2)):=by simpa using hc 6 _ rfl
    have d7 : wr.cell? ⟨g,o + 7,none⟩ = some ((.slice a3 n3 c3)):=by simpa using hc 7 _ rfl
    have d8 : wr.cell? ⟨g,o + 8,none⟩ = some (.bool ZR.s):=by simpa using hc 8 _ rfl
    have d9 : wr.cell? ⟨g,o + 9,none⟩ = some ((.slice a4 n4 c4)):=by simpa using hc 9 _ rfl
    have d10 : wr.cell? ⟨g,o + 10,none⟩ = some ((.slice a5 n5 c5)):=by simpa using hc 10 _ rfl
    clear hz hr hc
    by_cases hzk : okK ZA ZB ZP ZQ ZR = true
    ·have HZK:=Hd hzk
     have HV2:=Hd (valid_step HV.out HZ.out hzk)
     clear hzk
     go_wp2
     refine wp_region_noPanic ?_
     refine wp_region_held_drew (S:=(fun w' =>w'.cell? ⟨wr.heap.size,0,none⟩ = some (.int .i64 ZA) ∧ w'.cell? ⟨wr.heap.size,1,none⟩ = some (.int .i64 ZB) ∧ w'.cell? ⟨wr.heap.size,2,none⟩ = some (.bool ZP.s) ∧ w'.cell? ⟨wr.heap.size,3,none⟩ = some ((.slice a0 n0 c0)) ∧ w'.cell? ⟨wr.heap.size,4,none⟩ = some ((.slice a1 n1 c1)) ∧ w'.cell? ⟨wr.heap.size,5,none⟩ = some (.bool ZQ.s) ∧ w'.cell? ⟨wr.heap.size,6,none⟩ = some ((.slice a2 n2 c2)) ∧ w'.cell? ⟨wr.heap.size,7,none⟩ = some ((.slice a3 n3 c3)) ∧ w'.cell? ⟨wr.heap.size,8,none⟩ = some (.bool ZR.s) ∧ w'.cell? ⟨wr.heap.size,9,none⟩ = some ((.slice a4 n4 c4)) ∧ w'.cell? ⟨wr.heap.size,10,none⟩ = some ((.slice a5 n5 c5)))) (by kernel_rfl) ?_ (fun aF=>?_)
     ·try dsimp only
      go_keep
     refine wpAnyH_take (i:=0) (oi:=⟨_,_,_,_,_,_⟩) (v:=?_) rfl (by kernel_rfl) (by kernel_rfl) (by kernel_rfl) (fun _ _ _ h=>h) (Or.inl ⟨by rfl,?_⟩) (by assumption) ?_
     rotate_left
     ·intro w9 aB
      try dsimp only at aB
      go_simp
      try with_reducible rfl
     try simp only [Act.put,List.setIfInBounds_toArray,List.set_cons_zero,List.set_cons_succ]
     refine wpAnyH_ready (rs:=[1]) (by kernel_rfl) (by simp) ?_
     refine ac rfl (fun K hK=>?_) ?_
     ·go_simp
      go_at_call 23
      refine (isValidLink_s ZA ZB ZP ZQ ZR (.slice a0 n0 c0) (.slice a1 n1 c1) (.slice a2 n2 c2) (.slice a3 n3 c3) (.slice a4 n4 c4) (.slice a5 n5 c5) _ (HR.out.below (((Below.refl _ _).alloc (Nat.le_refl _) _).drew))).mono ?_
      rintro e w1 ⟨rfl,hb⟩
      rw [HZK.out]
      have aA:=Hd (aG.out.drew.call hb)
      obtain ⟨x0,x1,x2,x3,x4,x5,x6,x7,x8,x9,x10⟩:=aA.out.c11 0 rfl
      clear hb
      refine hK.out _ _ ?_ (fun aE=>?_)
      ·try dsimp only
       go_keep
      clear hK K
      try simp only [Act.put,List.setIfInBounds_toArray,List.set_cons_zero,List.set_cons_succ]
      refine wpAnyH_take (i:=2) (oi:=⟨_,_,_,_,_,_⟩) (v:=?_) rfl (by kernel_rfl) (by kernel_rfl) (by kernel_rfl) (fun _ _ _ h=>h) (Or.inl ⟨by rfl,?_⟩) (by assumption) ?_
      rotate_left
      ·intro w9 aB
       try dsimp only at aB
       go_simp
       try with_reducible rfl
      try simp only [Act.put,List.setIfInBounds_toArray,List.set_cons_zero,List.set_cons_succ]
      refine wpAnyH_take (i:=3) (oi:=⟨_,_,_,_,_,_⟩) (v:=?_) rfl (by kernel_rfl) (by kernel_rfl) (by kernel_rfl) (fun _ _ _ h=>h) (Or.inl ⟨by rfl,?_⟩) (by assumption) ?_
      rotate_left
      ·intro w9 aB
       try dsimp only at aB
       go_simp
       try with_reducible rfl
      try simp only [Act.put,List.setIfInBounds_toArray,List.set_cons_zero,List.set_cons_succ]
      refine wpAnyH_take (i:=4) (oi:=⟨_,_,_,_,_,_⟩) (v:=?_) rfl (by kernel_rfl) (by kernel_rfl) (by kernel_rfl) (fun _ _ _ h=>h) (Or.inl ⟨by rfl,?_⟩) (by assumption) ?_
      rotate_left
      ·intro w9 aB
       try dsimp only at aB
       go_simp
       try with_reducible rfl
      try simp only [Act.put,List.setIfInBounds_toArray,List.set_cons_zero,List.set_cons_succ]
      refine wpAnyH_take (i:=5) (oi:=⟨_,_,_,_,_,_⟩) (v:=?_) rfl (by kernel_rfl) (by kernel_rfl) (by kernel_rfl) (fun _ _ _ h=>h) (Or.inl ⟨by rfl,?_⟩) (by assumption) ?_
      rotate_left
      ·intro w9 aB
       try dsimp only at aB
       go_simp
       try with_reducible rfl
      try simp only [Act.put,List.setIfInBounds_toArray,List.set_cons_zero,List.set_cons_succ]
      refine wpAnyH_take (i:=6) (oi:=⟨_,_,_,_,_,_⟩) (v:=?_) rfl (by kernel_rfl) (by kernel_rfl) (by kernel_rfl) (fun _ _ _ h=>h) (Or.inl ⟨by rfl,?_⟩) (by assumption) ?_
      rotate_left
      ·intro w9 aB
       try dsimp only at aB
       go_simp
       try with_reducible rfl
      try simp only [Act.put,List.setIfInBounds_toArray,List.set_cons_zero,List.set_cons_succ]
      refine wpAnyH_take (i:=7) (oi:=⟨_,_,_,_,_,_⟩) (v:=undef) rfl (by kernel_rfl) (by kernel_rfl) (by kernel_rfl) (fun _ _ _ h=>h) (Or.inr ⟨by rfl,rfl⟩) (by assumption) ?_
      try simp only [Act.put,List.setIfInBounds_toArray,List.set_cons_zero,List.set_cons_succ]
      refine wpAnyH_take (i:=8) (oi:=⟨_,_,_,_,_,_⟩) (v:=undef) rfl (by kernel_rfl) (by kernel_rfl) (by kernel_rfl) (fun _ _ _ h=>h) (Or.inr ⟨by rfl,rfl⟩) (by assumption) ?_
      try simp only [Act.put,List.setIfInBounds_toArray,List.set_cons_zero,List.set_cons_succ]
      refine wpAnyH_take (i:=12) (oi:=⟨_,_,_,_,_,_⟩) (v:=undef) rfl (by kernel_rfl) (by kernel_rfl) (by kernel_rfl) (fun _ _ _ h=>h) (Or.inr ⟨by rfl,rfl⟩) (by assumption) ?_
      try simp only [Act.put,List.setIfInBounds_toArray,List.set_cons_zero,List.set_cons_succ]
      refine wpAnyH_take (i:=9) (oi:=⟨_,_,_,_,_,_⟩) (v:=undef) rfl (by kernel_rfl) (by kernel_rfl) (by kernel_rfl) (fun _ _ _ h=>h) (Or.inr ⟨by rfl,rfl⟩) (by assumption) ?_
      try simp only [Act.put,List.setIfInBounds_toArray,List.set_cons_zero,List.set_cons_succ]
      refine wpAnyH_take (i:=10) (oi:=⟨_,_,_,_,_,_⟩) (v:=undef) rfl (by kernel_rfl) (by kernel_rfl) (by kernel_rfl) (fun _ _ _ h=>h) (Or.inr ⟨by rfl,rfl⟩) (by assumption) ?_
      try simp only [Act.put,List.setIfInBounds_toArray,List.set_cons_zero,List.set_cons_succ]
      refine wpAnyH_take (i:=11) (oi:=⟨_,_,_,_,_,_⟩) (v:=undef) rfl (by kernel_rfl) (by kernel_rfl) (by kernel_rfl) (fun _ _ _ h=>h) (Or.inr ⟨by rfl,rfl⟩) (by assumption) ?_
      try simp only [Act.put,List.setIfInBounds_toArray,List.set_cons_zero,List.set_cons_succ]
      refine wpAnyH_ready (rs:=[13]) (by kernel_rfl) (by simp) ?_
      refine ac rfl (fun K hK=>?_) ?_
      ·go_simp
       refine hK.out _ _ ?_ (fun aD=>?_)
       ·try dsimp only
        go_keep
       clear hK K
       try simp only [Act.put,List.setIfInBounds_toArray,List.set_cons_zero,List.set_cons_succ]
       refine wpAnyH_take (i:=14) (oi:=⟨_,_,_,_,_,_⟩) (v:=undef) rfl (by kernel_rfl) (by kernel_rfl) (by kernel_rfl) (fun _ _ _ h=>h) (Or.inr ⟨by rfl,rfl⟩) (by assumption) ?_
       try simp only [Act.put,List.setIfInBounds_toArray,List.set_cons_zero,List.set_cons_succ]
       refine wpAnyH_take (i:=15) (oi:=⟨_,_,_,_,_,_⟩) (v:=?_) rfl (by kernel_rfl) (by kernel_rfl) (by kernel_rfl) (fun _ _ _ h=>h) (Or.inl ⟨by rfl,?_⟩) (by assumption) ?_
       rotate_left
       ·intro w9 aB
        try dsimp only at aB
        go_simp
        try with_reducible rfl
       try simp only [Act.put,List.setIfInBounds_toArray,List.set_cons_zero,List.set_cons_succ]
       refine wpAnyH_take (i:=16) (oi:=⟨_,_,_,_,_,_⟩) (v:=?_) rfl (by kernel_rfl) (by kernel_rfl) (by kernel_rfl) (fun _ _ _ h=>h) (Or.inl ⟨by rfl,?_⟩) (by assumption) ?_
       rotate_left
       ·intro w9 aB
        try dsimp only at aB
        go_simp
        try with_reducible rfl
       try simp only [Act.put,List.setIfInBounds_toArray,List.set_cons_zero,List.set_cons_succ]
       refine wpAnyH_done (by kernel_rfl) ?_ _
       refine NoPanic.normal ?_
       go_wp2
       exact ⟨⟨1,by omega,by first | rfl | go_num,HV2.out,asc_le (Nat.le_refl _),HB.out.trans (aA.out.below.mono HB.out.size)⟩,by simp [intOf]; omega⟩
      exact AllReadyH.nil
     exact AllReadyH.nil
    ·rw [Bool.not_eq_true] at hzk
     have HZK:=Hd hzk
     have HE:=Hd (show false = ok by rw [← HOK.out]; exact (okSet_bad HZ.out hzk).symm)
     clear hzk
     go_wp2
     refine wp_region_noPanic ?_
     refine wp_region_held_drew (S:=(fun w' =>w'.cell? ⟨wr.heap.size,0,none⟩ = some (.int .i64 ZA) ∧ w'.cell? ⟨wr.heap.size,1,none⟩ = some (.int .i64 ZB) ∧ w'.cell? ⟨wr.heap.size,2,none⟩ = some (.bool ZP.s) ∧ w'.cell? ⟨wr.heap.size,3,none⟩ = some ((.slice a0 n0 c0)) ∧ w'.cell? ⟨wr.heap.size,4,none⟩ = some ((.slice a1 n1 c1)) ∧ w'.cell? ⟨wr.heap.size,5,none⟩ = some (.bool ZQ.s) ∧ w'.cell? ⟨wr.heap.size,6,none⟩ = some ((.slice a2 n2 c2)) ∧ w'.cell? ⟨wr.heap.size,7,none⟩ = some ((.slice a3 n3 c3)) ∧ w'.cell? ⟨wr.heap.size,8,none⟩ = some (.bool ZR.s) ∧ w'.cell? ⟨wr.heap.size,9,none⟩ = some ((.slice a4 n4 c4)) ∧ w'.cell? ⟨wr.heap.size,10,none⟩ = some ((.slice a5 n5 c5)))) (by kernel_rfl) ?_ (fun aF=>?_)
     ·try dsimp only
      go_keep
     refine wpAnyH_take (i:=0) (oi:=⟨_,_,_,_,_,_⟩) (v:=?_) rfl (by kernel_rfl) (by kernel_rfl) (by kernel_rfl) (fun _ _ _ h=>h) (Or.inl ⟨by rfl,?_⟩) (by assumption) ?_
     rotate_left
     ·intro w9 aB
      try dsimp only at aB
      go_simp
      try with_reducible rfl
     try simp only [Act.put,List.setIfInBounds_toArray,List.set_cons_zero,List.set_cons_succ]
     refine wpAnyH_ready (rs:=[1]) (by kernel_rfl) (by simp) ?_
     refine ac rfl (fun K hK=>?_) ?_
     ·go_simp
      go_at_call 23
      refine (isValidLink_s ZA ZB ZP ZQ ZR (.slice a0 n0 c0) (.slice a1 n1 c1) (.slice a2 n2 c2) (.slice a3 n3 c3) (.slice a4 n4 c4) (.slice a5 n5 c5) _ (HR.out.below (((Below.refl _ _).alloc (Nat.le_refl _) _).drew))).mono ?_
      rintro e w1 ⟨rfl,hb⟩
      rw [HZK.out]
      have aA:=Hd (aG.out.drew.call hb)
      obtain ⟨x0,x1,x2,x3,x4,x5,x6,x7,x8,x9,x10⟩:=aA.out.c11 0 rfl
      clear hb
      refine hK.out _ _ ?_ (fun aE=>?_)
      ·try dsimp only
       go_keep
      clear hK K
      try simp only [Act.put,List.setIfInBounds_toArray,List.set_cons_zero,List.set_cons_succ]
      refine wpAnyH_take (i:=2) (oi:=⟨_,_,_,_,_,_⟩) (v:=?_) rfl (by kernel_rfl) (by kernel_rfl) (by kernel_rfl) (fun _ _ _ h=>h) (Or.inl ⟨by rfl,?_⟩) (by assumption) ?_
      rotate_left
      ·intro w9 aB
       try dsimp only at aB
       go_simp
       try with_reducible rfl
      try simp only [Act.put,List.setIfInBounds_toArray,List.set_cons_zero,List.set_cons_succ]
      refine wpAnyH_take (i:=3) (oi:=⟨_,_,_,_,_,_⟩) (v:=?_) rfl (by kernel_rfl) (by kernel_rfl) (by kernel_rfl) (fun _ _ _ h=>h) (Or.inl ⟨by rfl,?_⟩) (by assumption) ?_
      rotate_left
      ·intro w9 aB
       try dsimp only at aB
       go_simp
       try with_reducible rfl
      try simp only [Act.put,List.setIfInBounds_toArray,List.set_cons_zero,List.set_cons_succ]
      refine wpAnyH_take (i:=4) (oi:=⟨_,_,_,_,_,_⟩) (v:=undef) rfl (by kernel_rfl) (by kernel_rfl) (by kernel_rfl) (fun _ _ _ h=>h) (Or.inr ⟨by rfl,rfl⟩) (by assumption) ?_
      try simp only [Act.put,List.setIfInBounds_toArray,List.set_cons_zero,List.set_cons_succ]
      refine wpAnyH_take (i:=5) (oi:=⟨_,_,_,_,_,_⟩) (v:=undef) rfl (by kernel_rfl) (by kernel_rfl) (by kernel_rfl) (fun _ _ _ h=>h) (Or.inr ⟨by rfl,rfl⟩) (by assumption) ?_
      try simp only [Act.put,List.setIfInBounds_toArray,List.set_cons_zero,List.set_cons_succ]
      refine wpAnyH_take (i:=6) (oi:=⟨_,_,_,_,_,_⟩) (v:=undef) rfl (by kernel_rfl) (by kernel_rfl) (by kernel_rfl) (fun _ _ _ h=>h) (Or.inr ⟨by rfl,rfl⟩) (by assumption) ?_
      try simp only [Act.put,List.setIfInBounds_toArray,List.set_cons_zero,List.set_cons_succ]
      refine wpAnyH_take (i:=7) (oi:=⟨_,_,_,_,_,_⟩) (v:=undef) rfl (by kernel_rfl) (by kernel_rfl) (by kernel_rfl) (fun _ _ _ h=>h) (Or.inr ⟨by rfl,rfl⟩) (by assumption) ?_
      try simp only [Act.put,List.setIfInBounds_toArray,List.set_cons_zero,List.set_cons_succ]
      refine wpAnyH_take (i:=8) (oi:=⟨_,_,_,_,_,_⟩) (v:=undef) rfl (by kernel_rfl) (by kernel_rfl) (by kernel_rfl) (fun _ _ _ h=>h) (Or.inr ⟨by rfl,rfl⟩) (by assumption) ?_
      try simp only [Act.put,List.setIfInBounds_toArray,List.set_cons_zero,List.set_cons_succ]
      refine wpAnyH_take (i:=12) (oi:=⟨_,_,_,_,_,_⟩) (v:=undef) rfl (by kernel_rfl) (by kernel_rfl) (by kernel_rfl) (fun _ _ _ h=>h) (Or.inr ⟨by rfl,rfl⟩) (by assumption) ?_
      try simp only [Act.put,List.setIfInBounds_toArray,List.set_cons_zero,List.set_cons_succ]
      refine wpAnyH_take (i:=9) (oi:=⟨_,_,_,_,_,_⟩) (v:=undef) rfl (by kernel_rfl) (by kernel_rfl) (by kernel_rfl) (fun _ _ _ h=>h) (Or.inr ⟨by rfl,rfl⟩) (by assumption) ?_
      try simp only [Act.put,List.setIfInBounds_toArray,List.set_cons_zero,List.set_cons_succ]
      refine wpAnyH_take (i:=10) (oi:=⟨_,_,_,_,_,_⟩) (v:=undef) rfl (by kernel_rfl) (by kernel_rfl) (by kernel_rfl) (fun _ _ _ h=>h) (Or.inr ⟨by rfl,rfl⟩) (by assumption) ?_
      try simp only [Act.put,List.setIfInBounds_toArray,List.set_cons_zero,List.set_cons_succ]
      refine wpAnyH_take (i:=11) (oi:=⟨_,_,_,_,_,_⟩) (v:=undef) rfl (by kernel_rfl) (by kernel_rfl) (by kernel_rfl) (fun _ _ _ h=>h) (Or.inr ⟨by rfl,rfl⟩) (by assumption) ?_
      try simp only [Act.put,List.setIfInBounds_toArray,List.set_cons_zero,List.set_cons_succ]
      refine wpAnyH_ready (rs:=[13]) (by kernel_rfl) (by simp) ?_
      refine ac rfl (fun K hK=>?_) ?_
      ·go_simp
       refine hK.out _ _ ?_ (fun aD=>?_)
       ·try dsimp only
        go_keep
       clear hK K
       try simp only [Act.put,List.setIfInBounds_toArray,List.set_cons_zero,List.set_cons_succ]
       refine wpAnyH_take (i:=14) (oi:=⟨_,_,_,_,_,_⟩) (v:=undef) rfl (by kernel_rfl) (by kernel_rfl) (by kernel_rfl) (fun _ _ _ h=>h) (Or.inr ⟨by rfl,rfl⟩) (by assumption) ?_
       try simp only [Act.put,List.setIfInBounds_toArray,List.set_cons_zero,List.set_cons_succ]
       refine wpAnyH_take (i:=15) (oi:=⟨_,_,_,_,_,_⟩) (v:=undef) rfl (by kernel_rfl) (by kernel_rfl) (by kernel_rfl) (fun _ _ _ h=>h) (Or.inr ⟨by rfl,rfl⟩) (by assumption) ?_
       try simp only [Act.put,List.setIfInBounds_toArray,List.set_cons_zero,List.set_cons_succ]
       refine wpAnyH_take (i:=16) (oi:=⟨_,_,_,_,_,_⟩) (v:=?_) rfl (by kernel_rfl) (by kernel_rfl) (by kernel_rfl) (fun _ _ _ h=>h) (Or.inl ⟨by rfl,?_⟩) (by assumption) ?_
       rotate_left
       ·intro w9 aB
        try dsimp only at aB
        go_simp
        try with_reducible rfl
       try simp only [Act.put,List.setIfInBounds_toArray,List.set_cons_zero,List.set_cons_succ]
       refine wpAnyH_done (by kernel_rfl) ?_ _
       refine NoPanic.normal ?_
       go_wp2
       go_ret
       exact ⟨ret_bool HE.out,HB.out.trans (aA.out.below.mono HB.out.size)⟩
      exact AllReadyH.nil
     exact AllReadyH.nil
   | succ k=>
    obtain ⟨g',o',y,hgo,_,hy,hry,hcy⟩:=(HA.out.below HB.out).at_ (show k < n by omega)
    obtain ⟨rfl,rfl⟩ : g = g' ∧ o = o':=by simpa using hgo
    obtain ⟨YA,YB,YP,YQ,YR,b0,m0,e0,b1,m1,e1,b2,m2,e2,b3,m3,e3,b4,m4,e4,b5,m5,e5,rfl⟩:=LArg.shapes hry
    have HY:=Hd hy
    have y0 : wr.cell? ⟨g,o + k * 11,none⟩ = some (.int .i64 YA):=hcy 0 _ rfl
    have y1 : wr.cell? ⟨g,o + k * 11 + 1,none⟩ = some (.int .i64 YB):=hcy 1 _ rfl
    have y2 : wr.cell? ⟨g,o + k * 11 + 2,none⟩ = some (.bool YP.s):=hcy 2 _ rfl
    have y3 : wr.cell? ⟨g,o + k * 11 + 3,none⟩ = some ((.slice b0 m0 e0)):=hcy 3 _ rfl
    have y4 : wr.cell? ⟨g,o + k * 11 + 4,none⟩ = some ((.slice b1 m1 e1)):=hcy 4 _ rfl
    have y5 : wr.cell? ⟨g,o + k * 11 + 5,none⟩ = some (.bool YQ.s):=hcy 5 _ rfl
    have y6 : wr.cell? ⟨g,o + k * 11 + 6,none⟩ = some ((.slice b2 m2 e2)):=hcy 6 _ rfl
    have y7 : wr.cell? ⟨g,o + k * 11 + 7,none⟩ = some ((.slice b3 m3 e3)):=hcy 7 _ rfl
    have y8 : wr.cell? ⟨g,o + k * 11 + 8,none⟩ = some (.bool YR.s):=hcy 8 _ rfl
    have y9 : wr.cell? ⟨g,o + k * 11 + 9,none⟩ = some ((.slice b4 m4 e4)):=hcy 9 _ rfl
    have y10 : wr.cell? ⟨g,o + k * 11 + 10,none⟩ = some ((.slice b5 m5 e5)):=hcy 10 _ rfl
    have d0 : wr.cell? ⟨g,o + (k + 1) * 11,none⟩ = some (.int .i64 ZA):=hc 0 _ rfl
    have d1 : wr.cell? ⟨g,o + (k + 1) * 11 + 1,none⟩ = some (.int .i64 ZB):=hc 1 _ rfl
    have d2 : wr.cell? ⟨g,o + (k + 1) * 11 + 2,none⟩ = some (.bool ZP.s):=hc 2 _ rfl
    have d3 : wr.cell? ⟨g,o + (k + 1) * 11 + 3,none⟩ = some ((.slice a0 n0 c0)):=hc 3 _ rfl
    have d4 : wr.cell? ⟨g,o + (k + 1) * 11 + 4,none⟩ = some ((.slice a1 n1 c1)):=hc 4 _ rfl
    have d5 : wr.cell? ⟨g,o + (k + 1) * 11 + 5,none⟩ = some (.bool ZQ.s):=hc 5 _ rfl
    have d6 : wr.cell? ⟨g,o + (k + 1) * 11 + 6,none⟩ = some ((.slice a2 n2 c2)):=hc 6 _ rfl
    have d7 : wr.cell? ⟨g,o + (k + 1) * 11 + 7,none⟩ = some ((.slice a3 n3 c3)):=hc 7 _ rfl
    have d8 : wr.cell? ⟨g,o + (k + 1) * 11 + 8,none⟩ = some (.bool ZR.s):=hc 8 _ rfl
    have d9 : wr.cell? ⟨g,o + (k + 1) * 11 + 9,none⟩ = some ((.slice a4 n4 c4)):=hc 9 _ rfl
    have d10 : wr.cell? ⟨g,o + (k + 1) * 11 + 10,none⟩ = some ((.slice a5 n5 c5)):=hc 10 _ rfl
    clear hz hr hc hy hry hcy hgo
    have hk0 : (0 : Int) ≤ (k : Int):=by omega
    have hk2 : (k : Int) < (n : Int):=by omega
    have hk6 : IntKind.i64.wrap (k : Int) = (k : Int):=by rw [IntKind.wrap_i64]; omega
    have hk7 : IntKind.i64.wrap ((k : Int) + 1 - 1) = (k : Int):=by rw [IntKind.wrap_i64]; omega
    have hk8 : (k : Int) + 1 < (n : Int):=by omega
    have hk9 : (0 : Int) < (k : Int) + 1:=by omega
    have hk5 : (0 : Int) ≤ (k : Int) + 1:=by omega
    by_cases hzk : okK ZA ZB ZP ZQ ZR = true
    ·have HZK:=Hd hzk
     have HV2:=Hd (valid_step HV.out HZ.out hzk)
     clear hzk
     by_cases hls : lessK YA YB ZA ZB = true
     ·have HLS:=Hd hls
      have HA2:=Hd (asc_step HAS.out HY.out HZ.out hls)
      clear hls
      go_wp2
      first | (go_region_held3 (fun w' =>w'.cell? ⟨wr.heap.size,0,none⟩ = some (.int .i64 ZA) ∧ w'.cell? ⟨wr.heap.size,1,none⟩ = some (.int .i64 ZB) ∧ w'.cell? ⟨wr.heap.size,2,none⟩ = some (.bool ZP.s) ∧ w'.cell? ⟨wr.heap.size,3,none⟩ = some ((.slice a0 n0 c0)) ∧ w'.cell? ⟨wr.heap.size,4,none⟩ = some ((.slice a1 n1 c1)) ∧ w'.cell? ⟨wr.heap.size,5,none⟩ = some (.bool ZQ.s) ∧ w'.cell? ⟨wr.heap.size,6,none⟩ = some ((.slice a2 n2 c2)) ∧ w'.cell? ⟨wr.heap.size,7,none⟩ = some ((.slice a3 n3 c3)) ∧ w'.cell? ⟨wr.heap.size,8,none⟩ = some (.bool ZR.s) ∧ w'.cell? ⟨wr.heap.size,9,none⟩ = some ((.slice a4 n4 c4)) ∧ w'.cell? ⟨wr.heap.size,10,none⟩ = some ((.slice a5 n5 c5)) ∧ w'.cell? ⟨g,o + k * 11,none⟩ = some (.int .i64 YA) ∧ w'.cell? ⟨g,o + k * 11 + 1,none⟩ = some (.int .i64 YB) ∧ w'.cell? ⟨g,o + k * 11 + 2,none⟩ = some (.bool YP.s) ∧ w'.cell? ⟨g,o + k * 11 + 3,none⟩ = some ((.slice b0 m0 e0)) ∧ w'.cell? ⟨g,o + k * 11 + 4,none⟩ = some ((.slice b1 m1 e1)) ∧ w'.cell? ⟨g,o + k * 11 + 5,none⟩ = some (.bool YQ.s) ∧ w'.cell? ⟨g,o + k * 11 + 6,none⟩ = some ((.slice b2 m2 e2)) ∧ w'.cell? ⟨g,o + k * 11 + 7,none⟩ = some ((.slice b3 m3 e3)) ∧ w'.cell? ⟨g,o + k * 11 + 8,none⟩ = some (.bool YR.s) ∧ w'.cell? ⟨g,o + k * 11 + 9,none⟩ = some ((.slice b4 m4 e4)) ∧ w'.cell? ⟨g,o + k * 11 + 10,none⟩ = some ((.slice b5 m5 e5))) (go_keep)
       (first
         |(go_at_call 23
           refine (isValidLink_s ZA ZB ZP ZQ ZR (.slice a0 n0 c0) (.slice a1 n1 c1) (.slice a2 n2 c2) (.slice a3 n3 c3) (.slice a4 n4 c4) (.slice a5 n5 c5) _ (HR.out.below (((Below.refl _ _).alloc (Nat.le_refl _) _).drew))).mono ?_
           rintro e w1 ⟨rfl,hb⟩
           rw [HZK.out]
           have aA:=Hd (aG.out.drew.call hb)
           obtain ⟨x0,x1,x2,x3,x4,x5,x6,x7,x8,x9,x10⟩:=aA.out.c11 0 rfl
           have v0:=(aA.out.below.cell (p:=⟨g,o + k * 11,none⟩) hg).trans y0
           have v1:=(aA.out.below.cell (p:=⟨g,o + k * 11 + 1,none⟩) hg).trans y1
           have v2:=(aA.out.below.cell (p:=⟨g,o + k * 11 + 2,none⟩) hg).trans y2
           have v3:=(aA.out.below.cell (p:=⟨g,o + k * 11 + 3,none⟩) hg).trans y3
           have v4:=(aA.out.below.cell (p:=⟨g,o + k * 11 + 4,none⟩) hg).trans y4
           have v5:=(aA.out.below.cell (p:=⟨g,o + k * 11 + 5,none⟩) hg).trans y5
           have v6:=(aA.out.below.cell (p:=⟨g,o + k * 11 + 6,none⟩) hg).trans y6
           have v7:=(aA.out.below.cell (p:=⟨g,o + k * 11 + 7,none⟩) hg).trans y7
           have v8:=(aA.out.below.cell (p:=⟨g,o + k * 11 + 8,none⟩) hg).trans y8
           have v9:=(aA.out.below.cell (p:=⟨g,o + k * 11 + 9,none⟩) hg).trans y9
           have v10:=(aA.out.below.cell (p:=⟨g,o + k * 11 + 10,none⟩) hg).trans y10
           clear hb)
         |(go_at_call 25
           refine (l06Less_f YA YB YP YQ YR (.slice b0 m0 e0) (.slice b1 m1 e1) (.slice b2 m2 e2) (.slice b3 m3 e3) (.slice b4 m4 e4) (.slice b5 m5 e5) ZA ZB ZP ZQ ZR (.slice a0 n0 c0) (.slice a1 n1 c1) (.slice a2 n2 c2) (.slice a3 n3 c3) (.slice a4 n4 c4) (.slice a5 n5 c5) _).mono ?_
           rintro e w2 ⟨rfl,hb⟩
           rw [HLS.out]
           have aC:=Hd (aA.out.call hb)
           obtain ⟨x20,x21,x22,x23,x24,x25,x26,x27,x28,x29,x210⟩:=aC.out.c11 0 rfl
           have u0:=(aC.out.below.cell (p:=⟨g,o + k * 11,none⟩) hg).trans y0
           have u1:=(aC.out.below.cell (p:=⟨g,o + k * 11 + 1,none⟩) hg).trans y1
           have u2:=(aC.out.below.cell (p:=⟨g,o + k * 11 + 2,none⟩) hg).trans y2
           have u3:=(aC.out.below.cell (p:=⟨g,o + k * 11 + 3,none⟩) hg).trans y3
           have u4:=(aC.out.below.cell (p:=⟨g,o + k * 11 + 4,none⟩) hg).trans y4
           have u5:=(aC.out.below.cell (p:=⟨g,o + k * 11 + 5,none⟩) hg).trans y5
           have u6:=(aC.out.below.cell (p:=⟨g,o + k * 11 + 6,none⟩) hg).trans y6
           have u7:=(aC.out.below.cell (p:=⟨g,o + k * 11 + 7,none⟩) hg).trans y7
           have u8:=(aC.out.below.cell (p:=⟨g,o + k * 11 + 8,none⟩) hg).trans y8
           have u9:=(aC.out.below.cell (p:=⟨g,o + k * 11 + 9,none⟩) hg).trans y9
           have u10:=(aC.out.below.cell (p:=⟨g,o + k * 11 + 10,none⟩) hg).trans y10
           clear hb))) | fail
      all_goals go_wp2
      all_goals exact ⟨⟨k + 2,by omega,by go_num,HV2.out,HA2.out,HB.out.trans (aC.out.below.mono HB.out.size)⟩,by simp [intOf]; omega⟩
     ·rw [Bool.not_eq_true] at hls
      have HLS:=Hd hls
      have HE:=Hd (show false = ok by rw [← HOK.out]; exact (okSet_no fun h=>asc_bad HY.out HZ.out hls h.2).symm)
      clear hls
      go_wp2
      first | (go_region_held3 (fun w' =>w'.cell? ⟨wr.heap.size,0,none⟩ = some (.int .i64 ZA) ∧ w'.cell? ⟨wr.heap.size,1,none⟩ = some (.int .i64 ZB) ∧ w'.cell? ⟨wr.heap.size,2,none⟩ = some (.bool ZP.s) ∧ w'.cell? ⟨wr.heap.size,3,none⟩ = some ((.slice a0 n0 c0)) ∧ w'.cell? ⟨wr.heap.size,4,none⟩ = some ((.slice a1 n1 c1)) ∧ w'.cell? ⟨wr.heap.size,5,none⟩ = some (.bool ZQ.s) ∧ w'.cell? ⟨wr.heap.size,6,none⟩ = some ((.slice a2 n2 c2)) ∧ w'.cell? ⟨wr.heap.size,7,none⟩ = some ((.slice a3 n3 c3)) ∧ w'.cell? ⟨wr.heap.size,8,none⟩ = some (.bool ZR.s) ∧ w'.cell? ⟨wr.heap.size,9,none⟩ = some ((.slice a4 n4 c4)) ∧ w'.cell? ⟨wr.heap.size,10,none⟩ = some ((.slice a5 n5 c5)) ∧ w'.cell? ⟨g,o + k * 11,none⟩ = some (.int .i64 YA) ∧ w'.cell? ⟨g,o + k * 11 + 1,none⟩ = some (.int .i64 YB) ∧ w'.cell? ⟨g,o + k * 11 + 2,none⟩ = some (.bool YP.s) ∧ w'.cell? ⟨g,o + k * 11 + 3,none⟩ = some ((.slice b0 m0 e0)) ∧ w'.cell? ⟨g,o + k * 11 + 4,none⟩ = some ((.slice b1 m1 e1)) ∧ w'.cell? ⟨g,o + k * 11 + 5,none⟩ = some (.bool YQ.s) ∧ w'.cell? ⟨g,o + k * 11 + 6,none⟩ = some ((.slice b2 m2 e2)) ∧ w'.cell? ⟨g,o + k * 11 + 7,none⟩ = some ((.slice b3 m3 e3)) ∧ w'.cell? ⟨g,o + k * 11 + 8,none⟩ = some (.bool YR.s) ∧ w'.cell? ⟨g,o + k * 11 + 9,none⟩ = some ((.slice b4 m4 e4)) ∧ w'.cell? ⟨g,o + k * 11 + 10,none⟩ = some ((.slice b5 m5 e5))) (go_keep)
       (first
         |(go_at_call 23
           refine (isValidLink_s ZA ZB ZP ZQ ZR (.slice a0 n0 c0) (.slice a1 n1 c1) (.slice a2 n2 c2) (.slice a3 n3 c3) (.slice a4 n4 c4) (.slice a5 n5 c5) _ (HR.out.below (((Below.refl _ _).alloc (Nat.le_refl _) _).drew))).mono ?_
           rintro e w1 ⟨rfl,hb⟩
           rw [HZK.out]
           have aA:=Hd (aG.out.drew.call hb)
           obtain ⟨x0,x1,x2,x3,x4,x5,x6,x7,x8,x9,x10⟩:=aA.out.c11 0 rfl
           have v0:=(aA.out.below.cell (p:=⟨g,o + k * 11,none⟩) hg).trans y0
           have v1:=(aA.out.below.cell (p:=⟨g,o + k * 11 + 1,none⟩) hg).trans y1
           have v2:=(aA.out.below.cell (p:=⟨g,o + k * 11 + 2,none⟩) hg).trans y2
           have v3:=(aA.out.below.cell (p:=⟨g,o + k * 11 + 3,none⟩) hg).trans y3
           have v4:=(aA.out.below.cell (p:=⟨g,o + k * 11 + 4,none⟩) hg).trans y4
           have v5:=(aA.out.below.cell (p:=⟨g,o + k * 11 + 5,none⟩) hg).trans y5
           have v6:=(aA.out.below.cell (p:=⟨g,o + k * 11 + 6,none⟩) hg).trans y6
           have v7:=(aA.out.below.cell (p:=⟨g,o + k * 11 + 7,none⟩) hg).trans y7
           have v8:=(aA.out.below.cell (p:=⟨g,o + k * 11 + 8,none⟩) hg).trans y8
           have v9:=(aA.out.below.cell (p:=⟨g,o + k * 11 + 9,none⟩) hg).trans y9
           have v10:=(aA.out.below.cell (p:=⟨g,o + k * 11 + 10,none⟩) hg).trans y10
           clear hb)
         |(go_at_call 25
           refine (l06Less_f YA YB YP YQ YR (.slice b0 m0 e0) (.slice b1 m1 e1) (.slice b2 m2 e2) (.slice b3 m3 e3) (.slice b4 m4 e4) (.slice b5 m5 e5) ZA ZB ZP ZQ ZR (.slice a0 n0 c0) (.slice a1 n1 c1) (.slice a2 n2 c2) (.slice a3 n3 c3) (.slice a4 n4 c4) (.slice a5 n5 c5) _).mono ?_
           rintro e w2 ⟨rfl,hb⟩
           rw [HLS.out]
           have aC:=Hd (aA.out.call hb)
           obtain ⟨x20,x21,x22,x23,x24,x25,x26,x27,x28,x29,x210⟩:=aC.out.c11 0 rfl
           have u0:=(aC.out.below.cell (p:=⟨g,o + k * 11,none⟩) hg).trans y0
           have u1:=(aC.out.below.cell (p:=⟨g,o + k * 11 + 1,none⟩) hg).trans y1
           have u2:=(aC.out.below.cell (p:=⟨g,o + k * 11 + 2,none⟩) hg).trans y2
           have u3:=(aC.out.below.cell (p:=⟨g,o + k * 11 + 3,none⟩) hg).trans y3
           have u4:=(aC.out.below.cell (p:=⟨g,o + k * 11 + 4,none⟩) hg).trans y4
           have u5:=(aC.out.below.cell (p:=⟨g,o + k * 11 + 5,none⟩) hg).trans y5
           have u6:=(aC.out.below.cell (p:=⟨g,o + k * 11 + 6,none⟩) hg).trans y6
           have u7:=(aC.out.below.cell (p:=⟨g,o + k * 11 + 7,none⟩) hg).trans y7
           have u8:=(aC.out.below.cell (p:=⟨g,o + k * 11 + 8,none⟩) hg).trans y8
           have u9:=(aC.out.below.cell (p:=⟨g,o + k * 11 + 9,none⟩) hg).trans y9
           have u10:=(aC.out.below.cell (p:=⟨g,o + k * 11 + 10,none⟩) hg).trans y10
           clear hb))) | fail
      all_goals go_wp2
      all_goals go_ret
      all_goals exact ⟨ret_bool HE.out,HB.out.trans (aC.out.below.mono HB.out.size)⟩
    ·rw [Bool.not_eq_true] at hzk
     have HZK:=Hd hzk
     have HE:=Hd (show false = ok by rw [← HOK.out]; exact (okSet_bad HZ.out hzk).symm)
     clear hzk
     go_wp2
     refine wp_region_noPanic ?_
     refine wp_region_held_drew (S:=(fun w' =>w'.cell? ⟨wr.heap.size,0,none⟩ = some (.int .i64 ZA) ∧ w'.cell? ⟨wr.heap.size,1,none⟩ = some (.int .i64 ZB) ∧ w'.cell? ⟨wr.heap.size,2,none⟩ = some (.bool ZP.s) ∧ w'.cell? ⟨wr.heap.size,3,none⟩ = some ((.slice a0 n0 c0)) ∧ w'.cell? ⟨wr.heap.size,4,none⟩ = some ((.slice a1 n1 c1)) ∧ w'.cell? ⟨wr.heap.size,5,none⟩ = some (.bool ZQ.s) ∧ w'.cell? ⟨wr.heap.size,6,none⟩ = some ((.slice a2 n2 c2)) ∧ w'.cell? ⟨wr.heap.size,7,none⟩ = some ((.slice a3 n3 c3)) ∧ w'.cell? ⟨wr.heap.size,8,none⟩ = some (.bool ZR.s) ∧ w'.cell? ⟨wr.heap.size,9,none⟩ = some ((.slice a4 n4 c4)) ∧ w'.cell? ⟨wr.heap.size,10,none⟩ = some ((.slice a5 n5 c5)))) (by kernel_rfl) ?_ (fun aF=>?_)
     ·try dsimp only
      go_keep
     refine wpAnyH_take (i:=0) (oi:=⟨_,_,_,_,_,_⟩) (v:=?_) rfl (by kernel_rfl) (by kernel_rfl) (by kernel_rfl) (fun _ _ _ h=>h) (Or.inl ⟨by rfl,?_⟩) (by assumption) ?_
     rotate_left
     ·intro w9 aB
      try dsimp only at aB
      go_simp
      try with_reducible rfl
     try simp only [Act.put,List.setIfInBounds_toArray,List.set_cons_zero,List.set_cons_succ]
     refine wpAnyH_ready (rs:=[1]) (by kernel_rfl) (by simp) ?_
     refine ac rfl (fun K hK=>?_) ?_
     ·go_simp
      go_at_call 23
      refine (isValidLink_s ZA ZB ZP ZQ ZR (.slice a0 n0 c0) (.slice a1 n1 c1) (.slice a2 n2 c2) (.slice a3 n3 c3) (.slice a4 n4 c4) (.slice a5 n5 c5) _ (HR.out.below (((Below.refl _ _).alloc (Nat.le_refl _) _).drew))).mono ?_
      rintro e w1 ⟨rfl,hb⟩
      rw [HZK.out]
      have aA:=Hd (aG.out.drew.call hb)
      obtain ⟨x0,x1,x2,x3,x4,x5,x6,x7,x8,x9,x10⟩:=aA.out.c11 0 rfl
      clear hb
      refine hK.out _ _ ?_ (fun aE=>?_)
      ·try dsimp only
       go_keep
      clear hK K
      try simp only [Act.put,List.setIfInBounds_toArray,List.set_cons_zero,List.set_cons_succ]
      refine wpAnyH_take (i:=2) (oi:=⟨_,_,_,_,_,_⟩) (v:=?_) rfl (by kernel_rfl) (by kernel_rfl) (by kernel_rfl) (fun _ _ _ h=>h) (Or.inl ⟨by rfl,?_⟩) (by assumption) ?_
      rotate_left
      ·intro w9 aB
       try dsimp only at aB
       go_simp
       try with_reducible rfl
      try simp only [Act.put,List.setIfInBounds_toArray,List.set_cons_zero,List.set_cons_succ]
      refine wpAnyH_take (i:=3) (oi:=⟨_,_,_,_,_,_⟩) (v:=?_) rfl (by kernel_rfl) (by kernel_rfl) (by kernel_rfl) (fun _ _ _ h=>h) (Or.inl ⟨by rfl,?_⟩) (by assumption) ?_
      rotate_left
      ·intro w9 aB
       try dsimp only at aB
       go_simp
       try with_reducible rfl
      try simp only [Act.put,List.setIfInBounds_toArray,List.set_cons_zero,List.set_cons_succ]
      refine wpAnyH_take (i:=4) (oi:=⟨_,_,_,_,_,_⟩) (v:=undef) rfl (by kernel_rfl) (by kernel_rfl) (by kernel_rfl) (fun _ _ _ h=>h) (Or.inr ⟨by rfl,rfl⟩) (by assumption) ?_
      try simp only [Act.put,List.setIfInBounds_toArray,List.set_cons_zero,List.set_cons_succ]
      refine wpAnyH_take (i:=5) (oi:=⟨_,_,_,_,_,_⟩) (v:=undef) rfl (by kernel_rfl) (by kernel_rfl) (by kernel_rfl) (fun _ _ _ h=>h) (Or.inr ⟨by rfl,rfl⟩) (by assumption) ?_
      try simp only [Act.put,List.setIfInBounds_toArray,List.set_cons_zero,List.set_cons_succ]
      refine wpAnyH_take (i:=6) (oi:=⟨_,_,_,_,_,_⟩) (v:=undef) rfl (by kernel_rfl) (by kernel_rfl) (by kernel_rfl) (fun _ _ _ h=>h) (Or.inr ⟨by rfl,rfl⟩) (by assumption) ?_
      try simp only [Act.put,List.setIfInBounds_toArray,List.set_cons_zero,List.set_cons_succ]
      refine wpAnyH_take (i:=7) (oi:=⟨_,_,_,_,_,_⟩) (v:=undef) rfl (by kernel_rfl) (by kernel_rfl) (by kernel_rfl) (fun _ _ _ h=>h) (Or.inr ⟨by rfl,rfl⟩) (by assumption) ?_
      try simp only [Act.put,List.setIfInBounds_toArray,List.set_cons_zero,List.set_cons_succ]
      refine wpAnyH_take (i:=8) (oi:=⟨_,_,_,_,_,_⟩) (v:=undef) rfl (by kernel_rfl) (by kernel_rfl) (by kernel_rfl) (fun _ _ _ h=>h) (Or.inr ⟨by rfl,rfl⟩) (by assumption) ?_
      try simp only [Act.put,List.setIfInBounds_toArray,List.set_cons_zero,List.set_cons_succ]
      refine wpAnyH_take (i:=12) (oi:=⟨_,_,_,_,_,_⟩) (v:=undef) rfl (by kernel_rfl) (by kernel_rfl) (by kernel_rfl) (fun _ _ _ h=>h) (Or.inr ⟨by rfl,rfl⟩) (by assumption) ?_
      try simp only [Act.put,List.setIfInBounds_toArray,List.set_cons_zero,List.set_cons_succ]
      refine wpAnyH_take (i:=9) (oi:=⟨_,_,_,_,_,_⟩) (v:=undef) rfl (by kernel_rfl) (by kernel_rfl) (by kernel_rfl) (fun _ _ _ h=>h) (Or.inr ⟨by rfl,rfl⟩) (by assumption) ?_
      try simp only [Act.put,List.setIfInBounds_toArray,List.set_cons_zero,List.set_cons_succ]
      refine wpAnyH_take (i:=10) (oi:=⟨_,_,_,_,_,_⟩) (v:=undef) rfl (by kernel_rfl) (by kernel_rfl) (by kernel_rfl) (fun _ _ _ h=>h) (Or.inr ⟨by rfl,rfl⟩) (by assumption) ?_
      try simp only [Act.put,List.setIfInBounds_toArray,List.set_cons_zero,List.set_cons_succ]
      refine wpAnyH_take (i:=11) (oi:=⟨_,_,_,_,_,_⟩) (v:=undef) rfl (by kernel_rfl) (by kernel_rfl) (by kernel_rfl) (fun _ _ _ h=>h) (Or.inr ⟨by rfl,rfl⟩) (by assumption) ?_
      try simp only [Act.put,List.setIfInBounds_toArray,List.set_cons_zero,List.set_cons_succ]
      refine wpAnyH_ready (rs:=[13]) (by kernel_rfl) (by simp) ?_
      refine ac rfl (fun K hK=>?_) ?_
      ·go_simp
       refine hK.out _ _ ?_ (fun aD=>?_)
       ·try dsimp only
        go_keep
       clear hK K
       try simp only [Act.put,List.setIfInBounds_toArray,List.set_cons_zero,List.set_cons_succ]
       refine wpAnyH_take (i:=14) (oi:=⟨_,_,_,_,_,_⟩) (v:=undef) rfl (by kernel_rfl) (by kernel_rfl) (by kernel_rfl) (fun _ _ _ h=>h) (Or.inr ⟨by rfl,rfl⟩) (by assumption) ?_
       try simp only [Act.put,List.setIfInBounds_toArray,List.set_cons_zero,List.set_cons_succ]
       refine wpAnyH_take (i:=15) (oi:=⟨_,_,_,_,_,_⟩) (v:=undef) rfl (by kernel_rfl) (by kernel_rfl) (by kernel_rfl) (fun _ _ _ h=>h) (Or.inr ⟨by rfl,rfl⟩) (by assumption) ?_
       try simp only [Act.put,List.setIfInBounds_toArray,List.set_cons_zero,List.set_cons_succ]
       refine wpAnyH_take (i:=16) (oi:=⟨_,_,_,_,_,_⟩) (v:=?_) rfl (by kernel_rfl) (by kernel_rfl) (by kernel_rfl) (fun _ _ _ h=>h) (Or.inl ⟨by rfl,?_⟩) (by assumption) ?_
       rotate_left
       ·intro w9 aB
        try dsimp only at aB
        go_simp
        try with_reducible rfl
       try simp only [Act.put,List.setIfInBounds_toArray,List.set_cons_zero,List.set_cons_succ]
       refine wpAnyH_done (by kernel_rfl) ?_ _
       refine NoPanic.normal ?_
       go_wp2
       go_ret
       exact ⟨ret_bool HE.out,HB.out.trans (aA.out.below.mono HB.out.size)⟩
      exact AllReadyH.nil
     exact AllReadyH.nil
  ·obtain rfl : k0 = n:=by omega
   have HE:=Hd (show true = ok by rw [← HOK.out]; exact (okSet_iff.mpr (by rw [HL.out]; exact ⟨HV.out,HAS.out⟩)).symm)
   go_wp2
   go_ret
   exact ⟨ret_bool HE.out,HB.out⟩
end Go.Proofs.YtodoiekbjjiocaaGreat
