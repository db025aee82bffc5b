/- The library's slices.Insert over links: one link set in among those of a row of the call's own. Conditions: none. -/
import Derived.Test.YtodoiekbjjiocaaGreatJPk
import Derived.Test.YtodoiekbjjiocaaGreatJCopyWide
import Derived.Lib.Overlaps
import Derived.Lib.AppendZeros
import Derived.Laws.Externs
import Derived.Deep.RegionLaw
namespace Go.Proofs.YtodoiekbjjiocaaGreat
open Go.RowKit Nt Fr
set_option linter.unusedVariables false
set_option maxRecDepth 100000
set_option maxHeartbeats 4000000
theorem append_two {P : Program} {t t' e e' ty : TypeId} {A B : Option Addr} {n c m d : Nat} {w : World} (h : P.underlying t = some (.slice e)) (h' : P.underlying t' = some (.slice e')) :
 (Builtin.append_ #[t,t'] ty #[.slice A n c,.slice B m d]).run P w = (Builtin.append_ #[t,t] ty #[.slice A n c,.slice B m d]).run P w:=by
 unfold Builtin.append_
 simp only [List.getElem?_toArray,List.getElem?_cons_zero,List.getElem?_cons_succ,Sem.run_bind,run_underlying h,Result.andThen_ok]
 congr 1
 funext a w1
 simp only [run_underlying h',Result.andThen_ok,Sem.run_pure]
theorem setRow_grown (w : World) (g : Nat) (cs : Array Value) : w.grownBy (w.setRow g cs) (some g):=⟨rfl,rfl,rfl,by simp [World.setRow],fun k hk hne=>setRow_other w g k cs (fun e=>hne (by rw [e]))⟩
theorem setRow_drew_grown (w : World) (g : Nat) (cs : Array Value) : w.grownBy (w.drew.setRow g cs) (some g):=⟨rfl,rfl,rfl,by simp [World.setRow],fun k hk hne=>setRow_other w.drew g k cs (fun e=>hne (by rw [e]))⟩
theorem splice_two (L news D : List Value) (a : Nat) (ha : a + news.length + D.length ≤ L.length) :
 (splice (splice L a news) (a + news.length) D).take (a + news.length + D.length) = L.take a ++ news ++ D ∧ (splice (splice L a news) (a + news.length) D).length = L.length:=by
 have h1 : (splice L a news).take (a + news.length) = L.take a ++ news:=by
  unfold splice
  rw [← List.append_assoc,List.take_append_of_le_length (by simp; omega),List.take_of_length_le (by simp; omega)]
 refine ⟨?_,by rw [length_splice _ _ _ (by rw [length_splice _ _ _ (by omega)]; omega),length_splice _ _ _ (by omega)]⟩
 rw [splice,h1,← List.append_assoc,List.take_append_of_le_length (by simp; omega),List.take_of_length_le (by simp; omega)]
theorem splice_back (L news D : List Value) (a : Nat) (ha : a + news.length + D.length ≤ L.length) :
 (splice (splice L (a + news.length) D) a news).take (a + news.length + D.length) = L.take a ++ news ++ D ∧ (splice (splice L (a + news.length) D) a news).length = L.length:=by
 have h0 : (splice L (a + news.length) D).length = L.length:=length_splice _ _ _ (by omega)
 have h1 : (splice L (a + news.length) D).take a = L.take a:=by
  unfold splice
  rw [List.take_append_of_le_length (by simp; omega),List.take_take]
  congr 1; omega
 have h2 : (splice L (a + news.length) D).drop (a + news.length) = D ++ L.drop (a + news.length + D.length):=by
  unfold splice
  rw [List.drop_append_of_le_length (by simp; omega),List.drop_of_length_le (by simp; omega),List.nil_append]
 refine ⟨?_,by rw [length_splice _ _ _ (by omega),h0]⟩
 rw [splice,h1,h2,← List.append_assoc,← List.append_assoc,List.take_append_of_le_length (by simp; omega),List.take_of_length_le (by simp; omega)]
theorem size11 : (Tryz.prog.info? 40).map (·.size) = some 11:=by kernel_rfl
theorem wpList_append_two {P : Program} {w : World} {ops : Array Oper} {rest : List Oper} {o : Oper} {a : Act} {Q : Exit → Act → World → Prop} (hgd : o.guard = none) (s x : Operand) (t t' : TypeId)
 (ho : o.op = .call { callee:=.builtin .append,args:=#[s,x],argTypes:=#[t,t'] }) (base : Nat) (e e' : TypeId) (i : TypeInfo) (z : Value) (size bytes : Nat) (ht : P.underlying t = some (.slice e)) (ht' : P.underlying t' = some (.slice e')) (hi : P.info? e = some i) (hz : i.zero = some z)
 (hsize : i.size = size) (hby : i.bytes = bytes) (hzs : z.cells.size = size) (hsz : 0 < size)
 (v : Value) (n : Nat) (xs : List Value) (hs : a.eval s = v) (hown : w.ownsRow base e size v n xs)
 (ad : Addr) (m c : Nat) (news : List Value) (hx : a.eval x = .slice (some ad) m c) (hl : news.length = m * size) (hnews : ∀ j u,news[j]? = some u → w.cell? (ad.add j) = some u) (h1 : ∀ u ∈ news,u.oneCell' = true)
 (h63 : n + m ≤ maxLen) (hbytes : (n + m) * bytes ≤ 140737488355328) (hbase : base ≤ w.heap.size)
 (hK : ∀ v' w',w'.ownsRow base e size v' (n + m) (xs ++ news) → w.grownBy w' v.ownBlock → (v'.ownBlock = v.ownBlock ∨ v'.ownBlock = some w.heap.size) → wpList P ops Q rest (a.put o.dst v') w') : wpList P ops Q (o :: rest) a w:=by
 refine wpList_plain hgd fun K hK' =>?_
 obtain ⟨v',w',hrun,h2,h3,_,h5⟩:=run_append_own_at (P:=P) (w:=w) base t o.type e i z size bytes ht hi hz hsize hby hzs hsz v n xs hown ad m c news hl hnews h1 h63 hbytes hbase
 obtain ⟨A,c',rfl⟩:=own_shape hown
 rw [← append_two ht ht'] at hrun
 unfold Oper.wp
 simp [execOp,ho,resolve,invoke,builtin,hs,hx,hrun,Result.andThen]
 exact hK' _ _ (hK _ _ h2 h3 h5)
theorem insertEnd_f (v : Value) (n : Nat) (X news : List Value) (base vb : Nat) (w : World) (hown : w.ownsRow base 40 11 v n X) (hn : n ≤ 1048576) (hb : base ≤ w.heap.size)
 (hl : news.length = 11) (hv : ∀ j u,news[j]? = some u → w.cell? ⟨vb,j,none⟩ = some u) (h1 : ∀ u ∈ news,u.oneCell' = true) :
 Calls Tryz.prog 62 #[v,.int .i64 (n : Int),.slice (some ⟨vb,0,none⟩) 1 1] w fun e w' =>
  ∃ v',e = .returned v' ∧ w'.ownsRow base 40 11 v' (n + 1) (X ++ news) ∧ w.grownBy w' v.ownBlock ∧ (v'.ownBlock = v.ownBlock ∨ v'.ownBlock = some w.heap.size):=by
 obtain ⟨i0,hi,hz0,hz1,hz2⟩:=info_parts info_link
 obtain ⟨A,c,rfl⟩:=own_shape hown
 have hcap:=own_cap hown
 have hmx : c ≤ 9223372036854775807:=by have:=hcap.2; unfold maxLen at this; omega
 have hsrc : ∀ j u,news[j]? = some u → w.cell? ((⟨vb,0,none⟩ : Addr).add j) = some u:=fun j u hj=>by rw [Addr.add_lit,Nat.zero_add]; exact hv j u hj
 have HO:=Hd hown
 clear hown
 go_enter Tryz.func62,Tryz.ntmps62
 by_cases hcn : c = n
 ·go_wp2_with (at_builtin; refine wpList_append_two rfl (.tmp 23) (.tmp 24) 60 32 rfl base 40 40 i0 _ 11 184 Tryz.underlying60 Tryz.underlying32 hi hz0 hz1 hz2 rfl (by decide) _ n X rfl HO.out ⟨vb,0,none⟩ 1 1 news rfl (by omega) hsrc h1 (by unfold maxLen; omega) (by omega) hb ?_; intro v' w' a1 a2 a3)
  go_ret
  exact ⟨v',rfl,a1,a2,a3⟩
 ·go_wp2_with (at_builtin; refine wpList_append_two rfl (.tmp 23) (.tmp 24) 60 32 rfl base 40 40 i0 _ 11 184 Tryz.underlying60 Tryz.underlying32 hi hz0 hz1 hz2 rfl (by decide) _ n X rfl HO.out ⟨vb,0,none⟩ 1 1 news rfl (by omega) hsrc h1 (by unfold maxLen; omega) (by omega) hb ?_; intro v' w' a1 a2 a3)
  go_ret
  exact ⟨v',rfl,a1,a2,a3⟩
theorem step_copy_wide {P : Program} {ops : Array Oper} {o : Oper} {a : Act} {w : World} {K : Act → World → Prop} {Q : Exit → Act → World → Prop} {E : Prop} (hgd : o.guard = none) (d s : Operand) (dT sT : TypeId)
 (ho : o.op = .call { callee:=.builtin .copy,args:=#[d,s],argTypes:=#[dT,sT] }) (elem : TypeId) (S : Nat) (hu : P.underlying dT = some (.slice elem)) (hsz : (P.info? elem).map (·.size) = some S)
 (dp sp : Option Addr) (dLen dCap sLen sCap : Nat) (hd : a.eval d = .slice dp dLen dCap) (hs : a.eval s = .slice sp sLen sCap)
 (g off : Nat) (cur : List Value) (t : TypeId) (hg : w.heap[g]? = some (.cells cur.toArray t (0,0))) (cs : List Value) (hn : cs.length = Nat.min sLen dLen * S)
 (hpos : 0 < cs.length → dp = some ⟨g,off,none⟩ ∧ ∃ ad,sp = some ad ∧ ∀ j v,cs[j]? = some v → w.cell? (ad.add j) = some v) (hS : 0 < S)
 (hfit : off + cs.length ≤ cur.length) (h1 : ∀ v ∈ cs,v.oneCell' = true) (hK : K (a.put o.dst (goInt (Nat.min sLen dLen))) (w.setRow g (splice cur off cs).toArray)) :
 if Region.wanted o (yielded ops a.tmps) = true then Oper.wp P o a w K Q else E:=by
 have hw : Region.wanted o (yielded ops a.tmps) = true:=by simp [Region.wanted,hgd]
 rw [if_pos hw]
 have hrun:=run_copy_wide (P:=P) w dT sT o.type elem S hu hsz dp sp dLen dCap sLen sCap g off cur t hg cs hn hpos hS hfit h1
 unfold Oper.wp
 simp [execOp,ho,resolve,invoke,builtin,hd,hs,hrun,Result.andThen]
 exact hK
theorem insertShift_f (g n c i : Nat) (X news cur : List Value) (base vb : Nat) (w : World) (hg : w.heap[g]? = some (.cells cur.toArray 40 (0,0))) (hX : cur.take (n * 11) = X) (hcur : cur.length = c * 11) (h1c : ∀ u ∈ X,u.oneCell' = true) (hi : i < n) (hc : n < c) (hcm : c ≤ maxLen)
 (hl : news.length = 11) (hvb : w.heap[vb]? = some (.cells news.toArray 40 (0,0))) (hne : vb ≠ g) (h1 : ∀ u ∈ news,u.oneCell' = true) :
 Calls Tryz.prog 62 #[.slice (some ⟨g,0,none⟩) n c,.int .i64 (i : Int),.slice (some ⟨vb,0,none⟩) 1 1] w fun e w' =>
  e = .returned (.slice (some ⟨g,0,none⟩) (n + 1) c) ∧ ∃ cur' : List Value,w'.heap[g]? = some (.cells cur'.toArray 40 (0,0)) ∧ cur'.length = c * 11 ∧ cur'.take ((n + 1) * 11) = X.take (i * 11) ++ news ++ X.drop (i * 11) ∧ w.grownBy w' (some g):=by
 unfold maxLen at hcm
 have hXl : X.length = n * 11:=by rw [← hX,List.length_take,hcur]; omega
 have hcells : ∀ j u,cur[j]? = some u → w.cell? ⟨g,j,none⟩ = some u:=fun j u hj=>by simp [World.cell?,hg]; exact hj
 have hsa : w.shape? vb = some (40,11):=by simp [World.shape?,hvb,hl]
 have hsb : w.shape? g = some (40,c * 11):=by simp [World.shape?,hg,hcur]
 have hfa : ∀ o : Nat,w.frozen? ⟨vb,o,none⟩ = false:=fun o=>by simp [World.frozen?,hvb]
 have hov : ∀ lb cb,(callFunc 87 #[.slice (some ⟨vb,0,none⟩) 1 1,.slice (some ⟨g,(i + 1) * 11,none⟩) lb cb]).run Tryz.prog w = .ok (.value (.bool false)) w:=fun lb cb=>by
  rw [run_callFunc_extern Tryz.func87 (by kernel_rfl) (by kernel_rfl) (by kernel_rfl) (e:=Extern.SlicesOverlaps.overlaps #[32,32] #[4]) (by kernel_rfl),
   Lib.run_overlaps_apart w 32 4 40 Tryz.underlying32 11 (fun _=>by kernel_rfl) ⟨vb,0,none⟩ ⟨g,(i + 1) * 11,none⟩ 1 1 lb cb hne 40 40 11 (c * 11) hsa hsb (by omega) (hfa 0) (hfa 11)]
  rfl
 go_enter Tryz.func62,Tryz.ntmps62
 have hin : ¬ ((i : Int) = (n : Int)):=by omega
 have hcn : ¬ ((c : Int) < (n : Int) + 1):=by omega
 go_wp2_with (simp only [hov])
 have hD : (X.drop (i * 11)).length = (n - i) * 11:=by rw [List.length_drop,hXl,Nat.sub_mul]
 have hmin1 : Nat.min (n + 1 - i) (n + 1 - (i + 1)) = n - i:=by simp only [Nat.min_def]; split <;> omega
 have hsrc1 : ∀ j u,(X.drop (i * 11))[j]? = some u → w.cell? ((⟨g,i * 11,none⟩ : Addr).add j) = some u:=fun j u hj=>by
  rw [Addr.add_lit]
  refine hcells _ _ ?_
  rw [List.getElem?_drop,← hX,List.getElem?_take] at hj
  split at hj
  ·exact hj
  ·cases hj
 have h1D : ∀ u ∈ X.drop (i * 11),u.oneCell' = true:=fun u hu=>h1c u (List.mem_of_mem_drop hu)
 have hb0 : (0 : Int) ≤ (i : Int) + 1:=by omega
 have hb1 : (i : Int) + 1 ≤ (n : Int) + 1:=by omega
 have hb2 : (i : Int) ≤ (n : Int) + 1:=by omega
 have hb3 : (0 : Int) ≤ (i : Int):=by omega
 have htn : ((i : Int) + 1).toNat = i + 1:=by omega
 have hw1 : IntKind.i64.wrap ((i : Int) + 1) = (i : Int) + 1:=by rw [IntKind.wrap_i64]; omega
 have hq1 : ¬ (c = i + 1):=by omega
 have hq2 : ¬ (c = i):=by omega
 have hq3 : i + 1 ≤ n + 1:=by omega
 have hq4 : i ≤ n + 1:=by omega
 go_region_law (refine step_copy_wide rfl (.tmp 73) (.tmp 76) 60 60 rfl 40 11 Tryz.underlying60 size11 (some ⟨g,(i + 1) * 11,none⟩) (some ⟨g,i * 11,none⟩) (n + 1 - (i + 1)) (c - (i + 1)) (n + 1 - i) (c - i) (by simp [Act.eval,Act.put]) (by simp [Act.eval,Act.put]) g ((i + 1) * 11) cur 40 hg (X.drop (i * 11)) (by rw [hmin1]; exact hD) (fun _=>⟨rfl,_,rfl,hsrc1⟩) (by decide) (by rw [hD,hcur]; omega) h1D ?_)
 obtain ⟨L1,hL1⟩ : ∃ L,splice cur ((i + 1) * 11) (X.drop (i * 11)) = L:=⟨_,rfl⟩
 rw [hL1]
 have hh1 : (w.drew.setRow g L1.toArray).heap[g]? = some (.cells L1.toArray 40 (0,0)):=setRow_heap w.drew g cur.toArray L1.toArray 40 (0,0) hg
 have hv1 : ∀ j u,news[j]? = some u → (w.drew.setRow g L1.toArray).cell? ((⟨vb,0,none⟩ : Addr).add j) = some u:=fun j u hj=>by
  rw [Addr.add_lit,Nat.zero_add]
  have e : (w.drew.setRow g L1.toArray).heap[vb]? = some (.cells news.toArray 40 (0,0)):=(setRow_other w.drew g vb L1.toArray hne).trans hvb
  simp [World.cell?,e]; exact hj
 have hL1l : L1.length = c * 11:=by rw [← hL1,length_splice _ _ _ (by rw [hD,hcur]; omega),hcur]
 have hmin2 : Nat.min 1 (n + 1 - i) = 1:=by simp only [Nat.min_def]; split <;> omega
 obtain ⟨w3,hw3⟩ : ∃ w3,w.drew.setRow g L1.toArray = w3:=⟨_,rfl⟩
 have hg3 : w.grownBy w3 (some g):=by rw [← hw3]; exact setRow_drew_grown w g _
 rw [hw3] at hh1 hv1 ⊢
 clear hw3
 have hcp : ∀ ty,(Builtin.copy_ #[60,32] ty #[.slice (some ⟨g,i * 11,none⟩) (n + 1 - i) (c - i),.slice (some ⟨vb,0,none⟩) 1 1]).run Tryz.prog w3 = .ok (goInt 1) (w3.setRow g (splice L1 (i * 11) news).toArray):=fun ty=>by
  have h:=run_copy_wide (P:=Tryz.prog) w3 60 32 ty 40 11 Tryz.underlying60 size11 (some ⟨g,i * 11,none⟩) (some ⟨vb,0,none⟩) (n + 1 - i) (c - i) 1 1 g (i * 11) L1 40 hh1 news (by rw [hmin2]; omega) (fun _=>⟨rfl,_,rfl,hv1⟩) (by decide) (by omega) h1
  rw [hmin2] at h
  exact h
 go_wp2
 go_ret
 have hsb2:=splice_back cur news (X.drop (i * 11)) (i * 11) (by rw [hD,hcur]; omega)
 have e11 : i * 11 + news.length = (i + 1) * 11:=by omega
 rw [e11,hL1] at hsb2
 refine ⟨rfl,splice L1 (i * 11) news,setRow_heap w3 g L1.toArray _ 40 (0,0) hh1,by rw [hsb2.2,hcur],?_,grown_grown hg3 (setRow_grown w3 g _)⟩
 have hto : (i + 1) * 11 + (X.drop (i * 11)).length = (n + 1) * 11:=by rw [hD]; omega
 rw [← hto,hsb2.1]
 congr 2
 rw [← hX,List.take_take]
 congr 1
 omega
theorem insertGrow_f (g n c i : Nat) (X news cur : List Value) (vb : Nat) (w : World) (hg : w.heap[g]? = some (.cells cur.toArray 40 (0,0))) (hX : cur.take (n * 11) = X) (hcur : cur.length = c * 11) (h1c : ∀ u ∈ X,u.oneCell' = true) (hi : i < n) (hc : n = c) (hcm : c ≤ 1048576)
 (hl : news.length = 11) (hvb : w.heap[vb]? = some (.cells news.toArray 40 (0,0))) (h1 : ∀ u ∈ news,u.oneCell' = true) :
 Calls Tryz.prog 62 #[.slice (some ⟨g,0,none⟩) n c,.int .i64 (i : Int),.slice (some ⟨vb,0,none⟩) 1 1] w fun e w' =>
  ∃ G,e = .returned (.slice (some ⟨w.heap.size,0,none⟩) (n + 1) G) ∧ n + 1 ≤ G ∧ G ≤ maxLen ∧ ∃ cur' : List Value,w'.heap[w.heap.size]? = some (.cells cur'.toArray 40 (0,0)) ∧ cur'.length = G * 11 ∧ cur'.take ((n + 1) * 11) = X.take (i * 11) ++ news ++ X.drop (i * 11) ∧ w.grownBy w' none:=by
 subst hc
 obtain ⟨i0,hi0,hz0,hz1,hz2⟩:=info_parts info_link
 have hXl : X.length = n * 11:=by rw [← hX,List.length_take,hcur]; omega
 have hcells : ∀ j u,cur[j]? = some u → w.cell? ⟨g,j,none⟩ = some u:=fun j u hj=>by simp [World.cell?,hg]; exact hj
 have hgw : g < w.heap.size:=(Array.getElem?_eq_some_iff.1 hg).1
 have hvw : vb < w.heap.size:=(Array.getElem?_eq_some_iff.1 hvb).1
 have hXc : ∀ j u,X[j]? = some u → w.cell? ⟨g,j,none⟩ = some u:=fun j u hj=>by
  refine hcells _ _ ?_
  rw [← hX,List.getElem?_take] at hj
  split at hj
  ·exact hj
  ·cases hj
 have hold : (Builtin.firstCells i0.size i (.slice (some ⟨g,0,none⟩) i n)).run Tryz.prog w.drew = .ok (X.take (i * 11)).toArray w.drew:=by
  rw [hz1]
  exact run_firstCells_some w.drew 11 i ⟨g,0,none⟩ i n (X.take (i * 11)) (by rw [List.length_take,hXl]; omega) (fun j v hj=>by
   rw [Addr.add_lit,Nat.zero_add]
   rw [List.getElem?_take] at hj
   split at hj
   ·exact hXc j v hj
   ·cases hj)
 have hik : i + (n + 1 - i) = n + 1:=by omega
 have hkk : (n : Int) + 1 - (i : Int) = ((n + 1 - i : Nat) : Int):=by omega
 obtain ⟨G,hG⟩ : ∃ G,grownCap w (n + 1) n 40 = G:=⟨_,rfl⟩
 have hGn : n + 1 ≤ G:=by rw [← hG]; exact grownCap_ge w _ _ _
 have hGm : G ≤ maxLen:=by rw [← hG]; exact grownCap_le_maxLen w (n + 1) n 40 (by unfold maxLen; omega)
 obtain ⟨z,hz⟩ : ∃ z,i0.zero = some z ∧ z.cells.size = 11:=⟨_,hz0,by rfl⟩
 obtain ⟨R0,hR0⟩ : ∃ R : List Value,(X.take (i * 11)).toArray ++ Builtin.zeroCells z.cells (n + 1 - i) ++ Builtin.zeroCells z.cells (G - (n + 1)) = R.toArray:=⟨_,Array.toArray_toList.symm⟩
 have hR0l : R0.length = G * 11:=by
  have:=congrArg Array.size hR0
  simp only [Array.size_append,List.size_toArray,size_zeroCells,hz.2,List.length_take,hXl] at this
  rw [Nat.min_eq_left (by omega)] at this
  omega
 have hR0t : R0.take (i * 11) = X.take (i * 11):=by
  have:=congrArg Array.toList hR0
  simp only [Array.toList_append] at this
  rw [← this,List.append_assoc,List.take_append_of_le_length (by rw [List.length_take,hXl]; omega),List.take_take]
  congr 1; omega
 have hrz : ∀ ty,(Builtin.append_ #[60,3] ty #[.slice (some ⟨g,0,none⟩) i n,.int .i64 ((n : Int) + 1 - (i : Int))]).run Tryz.prog w =
  .ok (.slice (some ⟨w.heap.size,0,none⟩) (n + 1) G) (w.drew.alloc (.cells R0.toArray 40)):=fun ty=>by
  have h:=Lib.run_append_grow_zeros w 60 3 ty 40 i0 z .i64 .i64 Tryz.underlying60 Tryz.underlying3 hi0 hz.1 (some ⟨g,0,none⟩) i n (X.take (i * 11)) hold (n + 1 - i) (by omega) (by rw [hz1]; decide) (by omega) (by omega) (by rw [hz2]; omega) (by rw [hik,hz2]; exact growslice_fits (by omega) (by omega))
  rw [hik,hG,hR0] at h
  rw [hkk]
  exact h
 obtain ⟨N,hN⟩ : ∃ N,w.heap.size = N:=⟨_,rfl⟩
 rw [hN] at hgw hvw
 obtain ⟨W1,hW1⟩ : ∃ W1,w.drew.alloc (.cells R0.toArray 40) = W1:=⟨_,rfl⟩
 have hg1 : w.grownBy W1 none:=by rw [← hW1]; exact ⟨rfl,rfl,rfl,by simp,fun k hk _=>Below.heap_alloc w.drew _ k hk⟩
 have hh1 : W1.heap[N]? = some (.cells R0.toArray 40 (0,0)):=by rw [← hW1,← hN]; exact Array.getElem?_push_size
 have hv1 : ∀ j u,news[j]? = some u → W1.cell? ((⟨vb,0,none⟩ : Addr).add j) = some u:=fun j u hj=>by
  rw [Addr.add_lit,Nat.zero_add]
  have e : W1.heap[vb]? = some (.cells news.toArray 40 (0,0)):=(hg1.block vb (by rw [hN]; exact hvw) (by simp)).trans hvb
  simp [World.cell?,e]; exact hj
 have hmin2 : Nat.min 1 (n + 1 - i) = 1:=by simp only [Nat.min_def]; split <;> omega
 obtain ⟨L1,hL1⟩ : ∃ L,splice R0 (i * 11) news = L:=⟨_,rfl⟩
 have hL1l : L1.length = G * 11:=by rw [← hL1,length_splice _ _ _ (by omega),hR0l]
 obtain ⟨W2,hW2⟩ : ∃ W2,W1.setRow N L1.toArray = W2:=⟨_,rfl⟩
 have hcp : ∀ ty,(Builtin.copy_ #[60,32] ty #[.slice (some ⟨N,i * 11,none⟩) (n + 1 - i) (G - i),.slice (some ⟨vb,0,none⟩) 1 1]).run Tryz.prog W1 = .ok (goInt 1) W2:=fun ty=>by
  have h:=run_copy_wide (P:=Tryz.prog) W1 60 32 ty 40 11 Tryz.underlying60 size11 (some ⟨N,i * 11,none⟩) (some ⟨vb,0,none⟩) (n + 1 - i) (G - i) 1 1 N (i * 11) R0 40 hh1 news (by rw [hmin2]; omega) (fun _=>⟨rfl,_,rfl,hv1⟩) (by decide) (by omega) h1
  rw [hmin2,hL1,hW2] at h
  exact h
 have hh2 : W2.heap[N]? = some (.cells L1.toArray 40 (0,0)):=by rw [← hW2]; exact setRow_heap W1 N R0.toArray L1.toArray 40 (0,0) hh1
 have hg2 : w.grownBy W2 none:=by
  rw [← hW2]
  have h:=setRow_grown W1 N L1.toArray
  exact ⟨h.os.trans hg1.os,h.tape.trans hg1.tape,h.output.trans hg1.output,Nat.le_trans hg1.size h.size,fun k hk hne=>(h.block k (Nat.lt_of_lt_of_le hk hg1.size) (by simp; omega)).trans (hg1.block k hk hne)⟩
 have hD : (X.drop (i * 11)).length = (n - i) * 11:=by rw [List.length_drop,hXl,Nat.sub_mul]
 have hmin1 : Nat.min (n - i) (n + 1 - (i + 1)) = n - i:=by simp only [Nat.min_def]; split <;> omega
 have hsrc1 : ∀ j u,(X.drop (i * 11))[j]? = some u → W2.drew.cell? ((⟨g,i * 11,none⟩ : Addr).add j) = some u:=fun j u hj=>by
  rw [Addr.add_lit]
  rw [List.getElem?_drop] at hj
  have e : W2.drew.heap[g]? = w.heap[g]?:=hg2.block g (by rw [hN]; exact hgw) (by simp)
  rw [World.cell?_of_block (w:=w) (a:=⟨g,i * 11 + j,none⟩) e]
  exact hXc _ u hj
 have h1D : ∀ u ∈ X.drop (i * 11),u.oneCell' = true:=fun u hu=>h1c u (List.mem_of_mem_drop hu)
 have hin : ¬ ((i : Int) = (n : Int)):=by omega
 have hcn : (n : Int) < (n : Int) + 1:=by omega
 have hb3 : (0 : Int) ≤ (i : Int):=by omega
 have hgi : ¬ (G = i):=by omega
 have hni : ¬ (n = i):=by omega
 have hG63 : G ≤ 9223372036854775807:=by unfold maxLen at hGm; exact hGm
 have hb0 : (0 : Int) ≤ (i : Int) + 1:=by omega
 have hb1 : (i : Int) + 1 ≤ (n : Int) + 1:=by omega
 have hb2 : (i : Int) ≤ (n : Int):=by omega
 have htn : ((i : Int) + 1).toNat = i + 1:=by omega
 have hw1 : IntKind.i64.wrap ((i : Int) + 1) = (i : Int) + 1:=by rw [IntKind.wrap_i64]; omega
 have hq1 : ¬ (G = i + 1):=by omega
 have hq3 : i + 1 ≤ n + 1:=by omega
 rw [hN,hW1] at hrz
 have HG2:=Hd hg2
 clear hG hik hkk hold hR0 hW1 hW2 hg1 hg2
 go_enter Tryz.func62,Tryz.ntmps62
 go_wp2_with (at_builtin; refine Lib.wpList_append_run _ rfl (.tmp 34) (.tmp 39) 60 3 rfl _ _ rfl rfl _ _ (hrz _) ?_)
 go_region_law (refine step_copy_wide rfl (.tmp 50) (.tmp 53) 60 60 rfl 40 11 Tryz.underlying60 size11 (some ⟨N,(i + 1) * 11,none⟩) (some ⟨g,i * 11,none⟩) (n + 1 - (i + 1)) (G - (i + 1)) (n - i) (n - i) (by simp [Act.eval,Act.put]) (by simp [Act.eval,Act.put]) N ((i + 1) * 11) L1 40 hh2 (X.drop (i * 11)) (by rw [hmin1]; exact hD) (fun _=>⟨rfl,_,rfl,hsrc1⟩) (by decide) (by rw [hD,hL1l]; omega) h1D ?_)
 go_wp2
 go_ret
 have hsb2:=splice_two R0 news (X.drop (i * 11)) (i * 11) (by rw [hD,hR0l]; omega)
 have e11 : i * 11 + news.length = (i + 1) * 11:=by omega
 rw [e11,hL1] at hsb2
 refine ⟨G,by rw [hN]; rfl,hGn,hGm,splice L1 ((i + 1) * 11) (X.drop (i * 11)),by rw [hN]; exact setRow_heap W2.drew N L1.toArray _ 40 (0,0) hh2,by rw [hsb2.2,hR0l],?_,?_⟩
 ·have hto : (i + 1) * 11 + (X.drop (i * 11)).length = (n + 1) * 11:=by rw [hD]; omega
  rw [← hto,hsb2.1,hR0t]
 ·have h:=setRow_drew_grown W2 N (splice L1 ((i + 1) * 11) (X.drop (i * 11))).toArray
  exact ⟨h.os.trans HG2.out.os,h.tape.trans HG2.out.tape,h.output.trans HG2.out.output,Nat.le_trans HG2.out.size h.size,fun k hk hne=>(h.block k (Nat.lt_of_lt_of_le hk HG2.out.size) (by simp; omega)).trans (HG2.out.block k hk hne)⟩
end Go.Proofs.YtodoiekbjjiocaaGreat
