/- A fraction, a link, a point among a law's arguments, opened. Conditions: none. -/
import Derived.Test.YtodoiekbjjiocaaGreatJPk
import Derived.Test.YtodoiekbjjiocaaGreatProg
import Derived.Test.YtodoiekbjjiocaaGreatJB4
import Derived.Test.YtodoiekbjjiocaaGreatJB1
import Derived.Test.YtodoiekbjjiocaaGreatJB5
import Derived.Test.YtodoiekbjjiocaaGreatJB7
import Derived.Test.YtodoiekbjjiocaaGreatJB8
namespace Go.Proofs.YtodoiekbjjiocaaGreat
open Go.RowKit Nt
set_option linter.unusedVariables false
set_option maxRecDepth 100000
set_option maxHeartbeats 4000000
structure Fr where
 s : Bool
 xs : List Int
 ys : List Int
def up (l : List Nat) : List Int:=l.map fun x : Nat=>(x : Int)
theorem ints_up (l : List Nat) : ints (up l) = nats l:=rfl
namespace Fr
def zero : Fr:=⟨false,[],[]⟩
def ok (F : Fr) : Bool:=okR F.s F.xs F.ys
def rt (ok : Bool) (z : Int) (b : Nat) : Fr:=⟨rtS ok z b,up (rtN ok z b),up (rtD ok z b)⟩
def of (x : Int) : Fr:=⟨sgZ x,up (magZ x),up [1]⟩
def add (F G : Fr) : Fr:=rt (okR F.s F.xs F.ys && okR G.s G.xs G.ys) (zOf F.s F.xs * (val (toN G.ys) : Int) + zOf G.s G.xs * (val (toN F.ys) : Int)) (val (toN F.ys) * val (toN G.ys))
def sub (F G : Fr) : Fr:=rt (okR F.s F.xs F.ys && okR G.s G.xs G.ys) (zOf F.s F.xs * (val (toN G.ys) : Int) - zOf G.s G.xs * (val (toN F.ys) : Int)) (val (toN F.ys) * val (toN G.ys))
def mul (F G : Fr) : Fr:=rt (okR F.s F.xs F.ys && okR G.s G.xs G.ys) (zOf F.s F.xs * zOf G.s G.xs) (val (toN F.ys) * val (toN G.ys))
def div (F G : Fr) : Fr:=rt (okR F.s F.xs F.ys && okR G.s G.xs G.ys) (signed (F.s != G.s) (val (toN F.xs) * val (toN G.ys))) (val (toN F.ys) * val (toN G.xs))
def sgn (F : Fr) : Int:=sgnR F.s F.xs F.ys
def Good (F : Fr) : Prop:=F.ok = true ∨ F = zero
theorem Good.semi {F : Fr} (h : F.Good) : Semi F.s F.xs F.ys:=by
 rcases h with h | rfl
 ·exact semi_ok h
 ·exact semi_zero
theorem rt_no {z : Int} {b : Nat} : rt false z b = zero:=by simp [rt,rtS,rtN,rtD,zero,up]
theorem rt_zero {o : Bool} {z : Int} : rt o z 0 = zero:=by
 cases o with
 | false=>exact rt_no
 | true=>simp [rt,rtS,rtN,rtD,loS,loN,loD,okL_no_zero,zero,up]
theorem good_rt (o : Bool) (z : Int) (b : Nat) : (rt o z b).Good:=by
 cases o with
 | false=>exact .inr rt_no
 | true=>
  by_cases h : okL z.natAbs b = true
  ·refine .inl ?_
   have hb : b ≠ 0:=fun e=>by rw [e,okL_no_zero] at h; simp at h
   have hz : signed (decide (z < 0)) z.natAbs = z:=by unfold signed; split <;> simp_all <;> omega
   obtain ⟨e1,e2,e3⟩:=low_some hz h
   have h':=h
   unfold okL at h'
   simp only [Bool.and_eq_true,decide_eq_true_eq] at h'
   obtain ⟨⟨_,l1⟩,l2⟩:=h'
   have hg : 0 < Nat.gcd z.natAbs b:=Nat.gcd_pos_of_pos_right _ (by omega)
   have hd : 0 < b / Nat.gcd z.natAbs b:=Nat.div_pos (Nat.gcd_le_right _ (by omega)) hg
   have q1 : okI (up (dig (z.natAbs / Nat.gcd z.natAbs b))) = true:=okI_of_nats (dig_can _) (by omega)
   have q2 : okI (up (dig (b / Nat.gcd z.natAbs b))) = true:=okI_of_nats (dig_can _) (by omega)
   have q3:=dig_pos_len hd
   unfold ok rt rtS rtN rtD
   simp only [if_true,Bool.true_and]
   rw [e1,e2,e3]
   unfold okR okB
   have t1 : toN (up (dig (z.natAbs / Nat.gcd z.natAbs b))) = dig (z.natAbs / Nat.gcd z.natAbs b):=toN_nats _
   have t2 : toN (up (dig (b / Nat.gcd z.natAbs b))) = dig (b / Nat.gcd z.natAbs b):=toN_nats _
   rw [q1,q2,t1,t2,val_dig,val_dig]
   have g1 : Nat.gcd (z.natAbs / Nat.gcd z.natAbs b) (b / Nat.gcd z.natAbs b) = 1:=by rw [Nat.gcd_div (Nat.gcd_dvd_left _ _) (Nat.gcd_dvd_right _ _),Nat.div_self hg]
   simp [up,q3,l1,l2,g1]
   rcases Nat.eq_zero_or_pos (dig (z.natAbs / Nat.gcd z.natAbs b)).length with h0 | h0
   ·exact .inl (.inr (List.eq_nil_of_length_eq_zero h0))
   ·exact .inr h0
  ·refine .inr ?_
   rw [Bool.not_eq_true] at h
   simp [rt,rtS,rtN,rtD,loS,loN,loD,h,zero,up]
theorem good_add (F G : Fr) : (add F G).Good:=good_rt _ _ _
theorem good_sub (F G : Fr) : (sub F G).Good:=good_rt _ _ _
theorem good_mul (F G : Fr) : (mul F G).Good:=good_rt _ _ _
theorem good_div (F G : Fr) : (div F G).Good:=good_rt _ _ _
theorem good_len {F : Fr} (h : F.Good) : F.xs.length ≤ 24 ∧ F.ys.length ≤ 24:=⟨h.semi.parts.2.2.2.2.1,h.semi.parts.2.2.2.1⟩
theorem lo_rt {F G : Fr} (hF : F.Good) (hG : G.Good) {z : Int} {b : Nat} (h0 : F = zero ∨ G = zero → b = 0) : (⟨loS z b,up (loN z b),up (loD z b)⟩ : Fr) = rt (okR F.s F.xs F.ys && okR G.s G.xs G.ys) z b:=by
 have key : (okR F.s F.xs F.ys && okR G.s G.xs G.ys) = true ∨ b = 0:=by
  rcases hF with hF | hF
  ·rcases hG with hG | hG
   ·exact .inl (by rw [show okR F.s F.xs F.ys = true from hF,show okR G.s G.xs G.ys = true from hG]; rfl)
   ·exact .inr (h0 (.inr hG))
  ·exact .inr (h0 (.inl hF))
 rcases key with k | k
 ·rw [k]; simp [rt,rtS,rtN,rtD]
 ·rw [k,rt_zero]; simp [loS,loN,loD,okL_no_zero,zero,up]
end Fr
open Fr
def OwnF (F : Fr) (w : World) (en : Ending) (w' : World) : Prop :=
 ∃ a b,en = .returned (.agg #[.bool F.s,a,b]) ∧ Owns w' w.heap.size [(a,ints F.xs),(b,ints F.ys)] ∧ Below w.heap.size w w'
theorem OwnRR.f {F : Fr} {s : Bool} {xs ys : List Value} {w w' : World} {e : Ending} (h : OwnRR 3 s xs ys w e w') (h1 : s = F.s) (h2 : xs = ints F.xs) (h3 : ys = ints F.ys) : OwnF F w e w':=by
 obtain ⟨a,b,rfl,ha,hb,ap,_,bel⟩:=h
 subst h1 h2 h3
 refine ⟨a,b,rfl,⟨?_,?_⟩,bel⟩
 ·intro p hp
  simp only [List.mem_cons,List.not_mem_nil,or_false] at hp
  rcases hp with rfl | rfl
  ·exact ha
  ·exact hb
 ·simp only [List.pairwise_cons,List.mem_singleton,forall_eq,List.not_mem_nil,false_imp_iff,implies_true,List.Pairwise.nil,and_true]
  rcases ap with ap | ap
  ·intro k h1; rw [ap] at h1; simp at h1
  ·intro k h1 h2; exact ap (h1.trans h2.symm)
structure FrA (w : World) (F : Fr) (a b : Value) : Prop where
 n : ArgV w a (ints F.xs)
 d : ArgV w b (ints F.ys)
theorem FrA.below {w w' : World} {F : Fr} {a b : Value} (h : FrA w F a b) (hb : Below w.heap.size w w') : FrA w' F a b:=⟨h.n.below hb,h.d.below hb⟩
theorem FrA.shape {w : World} {F : Fr} {a b : Value} (h : FrA w F a b) : ∃ A n c B m d,a = .slice A n c ∧ b = .slice B m d:=by
 obtain ⟨⟨A,n,c,h1,_⟩,⟨B,m,d,h2,_⟩⟩:=h
 exact ⟨A,n,c,B,m,d,h1,h2⟩
theorem Owns.fr {w : World} {base : Nat} {F : Fr} {a b : Value} {l : List (Value × List Value)} (h : Owns w base ((a,ints F.xs) :: (b,ints F.ys) :: l)) : FrA w F a b:=⟨(h.1 (a,ints F.xs) (by simp)).argV,(h.1 (b,ints F.ys) (by simp)).argV⟩
theorem Owns.frAt {w : World} {base : Nat} {l : Chunk} (h : Owns w base l) (k : Nat) {F : Fr} {a b : Value} (e1 : l[k]? = some (a,ints F.xs)) (e2 : l[k + 1]? = some (b,ints F.ys)) : FrA w F a b:=⟨h.argV k e1,h.argV (k + 1) e2⟩
theorem St.fr {w0 w : World} {bs : List (Nat × List Value)} {cs : List Chunk} (h : St w0 w bs cs) (i k : Nat) {l : Chunk} {F : Fr} {a b : Value} (e : cs[i]? = some l) (e1 : l[k]? = some (a,ints F.xs)) (e2 : l[k + 1]? = some (b,ints F.ys)) : FrA w F a b:=(h.own i e).frAt k e1 e2
theorem St.frA {w0 w : World} {bs : List (Nat × List Value)} {cs : List Chunk} (h : St w0 w bs cs) {F : Fr} {a b : Value} (ha : FrA w0 F a b) : FrA w F a b:=ha.below h.below
section
variable (F G : Fr) (a b c d : Value) (w : World)
theorem ratOk_s (h1 : FrA w F a b) :
 Calls Tryz.prog 41 #[.agg #[.bool F.s,a,b]] w fun e w' =>e = .returned (.bool F.ok) ∧ Below w.heap.size w w':=by
 obtain ⟨⟨A,n,k,rfl,hA⟩,⟨B,m,l,rfl,hB⟩⟩:=h1
 exact ratOk_spec F.s A n k F.xs B m l F.ys w hA hB
theorem isValid_f (h1 : FrA w F a b) :
 Calls Tryz.prog 44 #[.agg #[.bool F.s,a,b]] w fun e w' =>e = .returned (.bool F.ok) ∧ Below w.heap.size w w':=by
 obtain ⟨⟨A,n,k,rfl,hA⟩,⟨B,m,l,rfl,hB⟩⟩:=h1
 exact isValidR_any F.s A n k F.xs B m l F.ys w hA hB
theorem ratSign_s (h1 : FrA w F a b) :
 Calls Tryz.prog 48 #[.agg #[.bool F.s,a,b]] w fun e w' =>e = .returned (.int .i64 F.sgn) ∧ Below w.heap.size w w':=by
 obtain ⟨⟨A,n,k,rfl,hA⟩,⟨B,m,l,rfl,hB⟩⟩:=h1
 exact ratSign_spec F.s A n k F.xs B m l F.ys w hA hB
theorem ratSign_i (h1 : FrA w F a b) :
 Calls Tryz.prog 59 #[.agg #[.bool F.s,a,b]] w fun e w' =>e = .returned (.int .i64 F.sgn) ∧ Below w.heap.size w w':=by
 obtain ⟨⟨A,n,k,rfl,hA⟩,⟨B,m,l,rfl,hB⟩⟩:=h1
 exact ratSign_impl F.s A n k F.xs B m l F.ys w hA hB
theorem areValid_f {T : TypeId} {bk : Nat} (h1 : FrA w F a b) (h2 : FrA w G c d) (hbk : w.heap.size = bk:=by first | rfl | simp) :
 Calls Tryz.prog 60 #[.slice (some ⟨bk,0,none⟩) 2 2] (w.alloc (.cells #[.bool F.s,a,b,.bool G.s,c,d] T)) fun e w' =>e = .returned (.bool (F.ok && G.ok)) ∧ Below w.heap.size w w':=by
 obtain ⟨⟨A,n,k,rfl,hA⟩,⟨B,m,l,rfl,hB⟩⟩:=h1
 obtain ⟨⟨C,p,q,rfl,hC⟩,⟨E,i,j,rfl,hE⟩⟩:=h2
 exact areValid_any F.s A n k F.xs B m l F.ys G.s C p q G.xs E i j G.ys w hA hB hC hE hbk
theorem ratAdd_s (h1 : FrA w F a b) (h2 : FrA w G c d) :
 Calls Tryz.prog 40 #[.agg #[.bool F.s,a,b],.agg #[.bool G.s,c,d]] w (OwnF (F.add G) w):=by
 obtain ⟨⟨A,n,k,rfl,hA⟩,⟨B,m,l,rfl,hB⟩⟩:=h1
 obtain ⟨⟨C,p,q,rfl,hC⟩,⟨E,i,j,rfl,hE⟩⟩:=h2
 exact (ratAdd_spec F.s A n k F.xs B m l F.ys G.s C p q G.xs E i j G.ys w hA hB hC hE).mono fun _ _ h=>h.f rfl rfl rfl
theorem ratSub_s (h1 : FrA w F a b) (h2 : FrA w G c d) :
 Calls Tryz.prog 52 #[.agg #[.bool F.s,a,b],.agg #[.bool G.s,c,d]] w (OwnF (F.sub G) w):=by
 obtain ⟨⟨A,n,k,rfl,hA⟩,⟨B,m,l,rfl,hB⟩⟩:=h1
 obtain ⟨⟨C,p,q,rfl,hC⟩,⟨E,i,j,rfl,hE⟩⟩:=h2
 exact (ratSub_spec F.s A n k F.xs B m l F.ys G.s C p q G.xs E i j G.ys w hA hB hC hE).mono fun _ _ h=>h.f rfl rfl rfl
theorem ratMul_s (h1 : FrA w F a b) (h2 : FrA w G c d) :
 Calls Tryz.prog 50 #[.agg #[.bool F.s,a,b],.agg #[.bool G.s,c,d]] w (OwnF (F.mul G) w):=by
 obtain ⟨⟨A,n,k,rfl,hA⟩,⟨B,m,l,rfl,hB⟩⟩:=h1
 obtain ⟨⟨C,p,q,rfl,hC⟩,⟨E,i,j,rfl,hE⟩⟩:=h2
 exact (ratMul_spec F.s A n k F.xs B m l F.ys G.s C p q G.xs E i j G.ys w hA hB hC hE).mono fun _ _ h=>h.f rfl rfl rfl
theorem ratDiv_s (h1 : FrA w F a b) (h2 : FrA w G c d) :
 Calls Tryz.prog 49 #[.agg #[.bool F.s,a,b],.agg #[.bool G.s,c,d]] w (OwnF (F.div G) w):=by
 obtain ⟨⟨A,n,k,rfl,hA⟩,⟨B,m,l,rfl,hB⟩⟩:=h1
 obtain ⟨⟨C,p,q,rfl,hC⟩,⟨E,i,j,rfl,hE⟩⟩:=h2
 exact (ratDiv_spec F.s A n k F.xs B m l F.ys G.s C p q G.xs E i j G.ys w hA hB hC hE).mono fun _ _ h=>h.f rfl rfl rfl
theorem plus_f (g1 : F.Good) (g2 : G.Good) (h1 : FrA w F a b) (h2 : FrA w G c d) :
 Calls Tryz.prog 43 #[.agg #[.bool F.s,a,b],.agg #[.bool G.s,c,d]] w (OwnF (F.add G) w):=by
 obtain ⟨⟨A,n,k,rfl,hA⟩,⟨B,m,l,rfl,hB⟩⟩:=h1
 obtain ⟨⟨C,p,q,rfl,hC⟩,⟨E,i,j,rfl,hE⟩⟩:=h2
 have e:=lo_rt g1 g2 (z:=zOf F.s F.xs * (val (toN G.ys) : Int) + zOf G.s G.xs * (val (toN F.ys) : Int)) (b:=val (toN F.ys) * val (toN G.ys)) (by rintro (rfl | rfl) <;> simp [zero,toN,val])
 exact (plusR_at F.s A n k F.xs B m l F.ys G.s C p q G.xs E i j G.ys _ _ rfl rfl g1.semi g2.semi w hA hB hC hE).mono fun _ _ h=>h.f (congrArg Fr.s e) (by rw [← ints_up]; exact congrArg (fun Q : Fr=>ints Q.xs) e) (by rw [← ints_up]; exact congrArg (fun Q : Fr=>ints Q.ys) e)
theorem minus_f (g1 : F.Good) (g2 : G.Good) (h1 : FrA w F a b) (h2 : FrA w G c d) :
 Calls Tryz.prog 93 #[.agg #[.bool F.s,a,b],.agg #[.bool G.s,c,d]] w (OwnF (F.sub G) w):=by
 obtain ⟨⟨A,n,k,rfl,hA⟩,⟨B,m,l,rfl,hB⟩⟩:=h1
 obtain ⟨⟨C,p,q,rfl,hC⟩,⟨E,i,j,rfl,hE⟩⟩:=h2
 have e:=lo_rt g1 g2 (z:=zOf F.s F.xs * (val (toN G.ys) : Int) - zOf G.s G.xs * (val (toN F.ys) : Int)) (b:=val (toN F.ys) * val (toN G.ys)) (by rintro (rfl | rfl) <;> simp [zero,toN,val])
 exact (minusR_at F.s A n k F.xs B m l F.ys G.s C p q G.xs E i j G.ys _ _ rfl rfl g1.semi g2.semi w hA hB hC hE).mono fun _ _ h=>h.f (congrArg Fr.s e) (by rw [← ints_up]; exact congrArg (fun Q : Fr=>ints Q.xs) e) (by rw [← ints_up]; exact congrArg (fun Q : Fr=>ints Q.ys) e)
theorem times_f (g1 : F.Good) (g2 : G.Good) (h1 : FrA w F a b) (h2 : FrA w G c d) :
 Calls Tryz.prog 90 #[.agg #[.bool F.s,a,b],.agg #[.bool G.s,c,d]] w (OwnF (F.mul G) w):=by
 obtain ⟨⟨A,n,k,rfl,hA⟩,⟨B,m,l,rfl,hB⟩⟩:=h1
 obtain ⟨⟨C,p,q,rfl,hC⟩,⟨E,i,j,rfl,hE⟩⟩:=h2
 have e:=lo_rt g1 g2 (z:=zOf F.s F.xs * zOf G.s G.xs) (b:=val (toN F.ys) * val (toN G.ys)) (by rintro (rfl | rfl) <;> simp [zero,toN,val])
 exact (timesR_at F.s A n k F.xs B m l F.ys G.s C p q G.xs E i j G.ys _ _ rfl rfl g1.semi g2.semi w hA hB hC hE).mono fun _ _ h=>h.f (congrArg Fr.s e) (by rw [← ints_up]; exact congrArg (fun Q : Fr=>ints Q.xs) e) (by rw [← ints_up]; exact congrArg (fun Q : Fr=>ints Q.ys) e)
theorem dividedBy_f (g1 : F.Good) (g2 : G.Good) (h1 : FrA w F a b) (h2 : FrA w G c d) :
 Calls Tryz.prog 91 #[.agg #[.bool F.s,a,b],.agg #[.bool G.s,c,d]] w (OwnF (F.div G) w):=by
 obtain ⟨⟨A,n,k,rfl,hA⟩,⟨B,m,l,rfl,hB⟩⟩:=h1
 obtain ⟨⟨C,p,q,rfl,hC⟩,⟨E,i,j,rfl,hE⟩⟩:=h2
 have e:=lo_rt g1 g2 (z:=signed (F.s != G.s) (val (toN F.xs) * val (toN G.ys))) (b:=val (toN F.ys) * val (toN G.xs)) (by rintro (rfl | rfl) <;> simp [zero,toN,val])
 exact (dividedByR_at F.s A n k F.xs B m l F.ys G.s C p q G.xs E i j G.ys _ _ rfl rfl g1.semi g2.semi w hA hB hC hE).mono fun _ _ h=>h.f (congrArg Fr.s e) (by rw [← ints_up]; exact congrArg (fun Q : Fr=>ints Q.xs) e) (by rw [← ints_up]; exact congrArg (fun Q : Fr=>ints Q.ys) e)
theorem ratFromInt_s (x : Int) (w : World) (hx : -9223372036854775808 ≤ x ∧ x ≤ 9223372036854775807) :
 Calls Tryz.prog 28 #[.int .i64 x] w (OwnF (Fr.of x) w) :=
 (ratFromInt_spec x w hx).mono fun _ _ h=>h.f rfl rfl rfl
theorem ratFromInt_i (x : Int) (w : World) (hx : -9223372036854775808 ≤ x ∧ x ≤ 9223372036854775807) :
 Calls Tryz.prog 42 #[.int .i64 x] w (OwnF (Fr.of x) w) :=
 (ratFromInt_impl x w hx).mono fun _ _ h=>h.f rfl rfl rfl
end
end Go.Proofs.YtodoiekbjjiocaaGreat
namespace Go.Proofs.YtodoiekbjjiocaaGreat
open Go.RowKit Nt Fr
set_option linter.unusedVariables false
set_option maxRecDepth 100000
set_option maxHeartbeats 4000000
theorem ret_b {x y : Bool} {w w' : World} (h : x = y) (hb : Below w.heap.size w w') : Ending.returned (.bool x) = .returned (.bool y) ∧ Below w.heap.size w w':=⟨by rw [h],hb⟩
def okK (A B : Int) (P Q R : Fr) : Bool:=decide (0 ≤ A ∧ A < 10) && (decide (0 ≤ B ∧ B < 10) && (decide (A < B) && (decide (0 < P.sgn) && (Q.ok && R.ok))))
theorem okK_1 {A B : Int} {P Q R : Fr} (h : ¬ (0 ≤ A ∧ A < 10)) : false = okK A B P Q R:=by unfold okK; rw [decide_eq_false h]; rfl
theorem okK_2 {A B : Int} {P Q R : Fr} (h : ¬ (0 ≤ B ∧ B < 10)) : false = okK A B P Q R:=by unfold okK; rw [decide_eq_false h]; simp
theorem okK_3 {A B : Int} {P Q R : Fr} (h : ¬ A < B) : false = okK A B P Q R:=by unfold okK; rw [decide_eq_false h]; simp
theorem okK_4 {A B : Int} {P Q R : Fr} (h : ¬ 0 < P.sgn) : false = okK A B P Q R:=by unfold okK; rw [decide_eq_false h]; simp
theorem okK_5 {A B : Int} {P Q R : Fr} (h1 : 0 ≤ A ∧ A < 10) (h2 : 0 ≤ B ∧ B < 10) (h3 : A < B) (h4 : 0 < P.sgn) : (Q.ok && R.ok) = okK A B P Q R:=by unfold okK; rw [decide_eq_true h1,decide_eq_true h2,decide_eq_true h3,decide_eq_true h4]; rfl
theorem okK_parts {A B : Int} {P Q R : Fr} (h : okK A B P Q R = true) : (0 ≤ A ∧ A < 10) ∧ (0 ≤ B ∧ B < 10) ∧ A < B ∧ 0 < P.sgn ∧ Q.ok = true ∧ R.ok = true:=by
 unfold okK at h
 simpa only [Bool.and_eq_true,decide_eq_true_eq] using h
theorem sgn_ok {P : Fr} (h : 0 < P.sgn) : P.ok = true:=by
 cases hk : P.ok with
 | true=>rfl
 | false=>unfold Fr.sgn at h; rw [sgnR_no hk] at h; exact absurd h (by decide)
structure LkA (w : World) (P Q R : Fr) (p0 p1 q0 q1 r0 r1 : Value) : Prop where
 p : FrA w P p0 p1
 q : FrA w Q q0 q1
 r : FrA w R r0 r1
theorem LkA.below {w w' : World} {P Q R : Fr} {p0 p1 q0 q1 r0 r1 : Value} (h : LkA w P Q R p0 p1 q0 q1 r0 r1) (hb : Below w.heap.size w w') : LkA w' P Q R p0 p1 q0 q1 r0 r1:=⟨h.p.below hb,h.q.below hb,h.r.below hb⟩
def rowsK (P Q R : Fr) (p0 p1 q0 q1 r0 r1 : Value) : Chunk:=[(p0,ints P.xs),(p1,ints P.ys),(q0,ints Q.xs),(q1,ints Q.ys),(r0,ints R.xs),(r1,ints R.ys)]
theorem Owns.lk {w : World} {base : Nat} {P Q R : Fr} {p0 p1 q0 q1 r0 r1 : Value} (h : Owns w base (rowsK P Q R p0 p1 q0 q1 r0 r1)) : LkA w P Q R p0 p1 q0 q1 r0 r1 :=
 ⟨h.frAt 0 rfl rfl,h.frAt 2 rfl rfl,h.frAt 4 rfl rfl⟩
theorem St.lk {w0 w : World} {bs : List (Nat × List Value)} {cs : List Chunk} (h : St w0 w bs cs) (k : Nat) {P Q R : Fr} {p0 p1 q0 q1 r0 r1 : Value} (e : cs[k]? = some (rowsK P Q R p0 p1 q0 q1 r0 r1)) : LkA w P Q R p0 p1 q0 q1 r0 r1:=(h.own k e).lk
theorem St.lkA {w0 w : World} {bs : List (Nat × List Value)} {cs : List Chunk} (h : St w0 w bs cs) {P Q R : Fr} {p0 p1 q0 q1 r0 r1 : Value} (ha : LkA w0 P Q R p0 p1 q0 q1 r0 r1) : LkA w P Q R p0 p1 q0 q1 r0 r1:=ha.below h.below
def OwnK (A B : Int) (P Q R : Fr) (w : World) (en : Ending) (w' : World) : Prop :=
 ∃ p0 p1 q0 q1 r0 r1,en = .returned (.agg #[.int .i64 A,.int .i64 B,.bool P.s,p0,p1,.bool Q.s,q0,q1,.bool R.s,r0,r1]) ∧ Owns w' w.heap.size (rowsK P Q R p0 p1 q0 q1 r0 r1) ∧ Below w.heap.size w w'
theorem isNode_yes (n : Int) (w : World) (h : 0 ≤ n ∧ n < 10) : Calls Tryz.prog 58 #[.int .i64 n] w fun e w' =>e = .returned (.bool true) ∧ w' = w:=by
 obtain ⟨h1,h2⟩:=h
 have h3 : n ≤ 9:=by omega
 go_enter Tryz.func58,Tryz.ntmps58
 go_wp2
 all_goals go_ret
 all_goals exact ⟨rfl,rfl⟩
theorem l06Node_yes (n : Int) (w : World) (h : 0 ≤ n ∧ n < 10) : Calls Tryz.prog 47 #[.int .i64 n] w fun e w' =>e = .returned (.bool true) ∧ w' = w:=by
 obtain ⟨h1,h2⟩:=h
 have h3 : n ≤ 9:=by omega
 go_enter Tryz.func47,Tryz.ntmps47
 go_wp2
 all_goals go_ret
 all_goals exact ⟨rfl,rfl⟩
theorem isValidLink_i (A B : Int) (P Q R : Fr) (p0 p1 q0 q1 r0 r1 : Value) (w : World) (hL : LkA w P Q R p0 p1 q0 q1 r0 r1) :
 Calls Tryz.prog 31 #[.agg #[.int .i64 A,.int .i64 B,.bool P.s,p0,p1,.bool Q.s,q0,q1,.bool R.s,r0,r1]] w fun e w' =>e = .returned (.bool (okK A B P Q R)) ∧ Below w.heap.size w w':=by
 have HL:=Hd hL
 clear hL
 obtain ⟨g,hg⟩ : ∃ z,P.sgn = z:=⟨_,rfl⟩
 have HG:=Hd hg
 clear hg
 have aA:=Hd (St.start1 w [.int .i64 A,.int .i64 B,.bool P.s,p0,p1,.bool Q.s,q0,q1,.bool R.s,r0,r1] 40)
 by_cases h1 : 0 ≤ A ∧ A < 10
 ·by_cases h2 : 0 ≤ B ∧ B < 10
  ·by_cases h3 : A < B
   ·have H1:=Hd h1
    have H2:=Hd h2
    have H3:=Hd h3
    go_enter Tryz.func31,Tryz.ntmps31
    go_wp2_with fail
    refine (isNode_yes A _ H1.out).mono ?_
    rintro e w' ⟨rfl,hw⟩
    subst hw
    go_wp2_with fail
    refine (isNode_yes B _ H2.out).mono ?_
    rintro e w' ⟨rfl,hw⟩
    subst hw
    go_wp2_with fail
    refine (ratSign_i P p0 p1 _ (aA.out.lkA HL.out).p).mono ?_
    rintro e w1 ⟨rfl,hb⟩
    have aB:=Hd (aA.out.call hb)
    clear aA
    clear hb
    rw [HG.out]
    by_cases h4 : 0 < g
    ·have H4:=Hd h4
     obtain ⟨aD,aE,aF,aG,aH,aI,aJ,aK,aL,aM,aC⟩:=aB.out.c11 0 rfl
     go_wp2_with fail
     refine (areValid_f Q R q0 q1 r0 r1 _ (aB.out.lkA HL.out).q (aB.out.lkA HL.out).r).mono ?_
     rintro e w2 ⟨rfl,hb⟩
     have aN:=Hd (aB.out.call hb)
     clear aB
     clear hb
     go_wp2
     all_goals go_ret
     all_goals exact ret_b (okK_5 H1.out H2.out H3.out (by rw [HG.out]; exact H4.out)) aN.out.below
    ·have H4:=Hd h4
     go_wp2
     all_goals go_ret
     all_goals exact ret_b (okK_4 (by rw [HG.out]; have:=H4.out; omega)) aB.out.below
   ·have H3:=Hd h3
    go_enter Tryz.func31,Tryz.ntmps31
    go_wp2
    all_goals go_ret
    all_goals exact ret_b (okK_3 (by have:=H3.out; omega)) aA.out.below
  ·have H2:=Hd h2
   go_enter Tryz.func31,Tryz.ntmps31
   go_wp2
   all_goals go_ret
   all_goals exact ret_b (okK_2 H2.out) aA.out.below
 ·have H1:=Hd h1
  go_enter Tryz.func31,Tryz.ntmps31
  go_wp2
  all_goals go_ret
  all_goals exact ret_b (okK_1 H1.out) aA.out.below
theorem isValidLink_s (A B : Int) (P Q R : Fr) (p0 p1 q0 q1 r0 r1 : Value) (w : World) (hL : LkA w P Q R p0 p1 q0 q1 r0 r1) :
 Calls Tryz.prog 23 #[.agg #[.int .i64 A,.int .i64 B,.bool P.s,p0,p1,.bool Q.s,q0,q1,.bool R.s,r0,r1]] w fun e w' =>e = .returned (.bool (okK A B P Q R)) ∧ Below w.heap.size w w':=by
 have HL:=Hd hL
 clear hL
 obtain ⟨g,hg⟩ : ∃ z,P.sgn = z:=⟨_,rfl⟩
 have HG:=Hd hg
 clear hg
 have aL:=Hd (St.start1 w [.int .i64 A,.int .i64 B,.bool P.s,p0,p1,.bool Q.s,q0,q1,.bool R.s,r0,r1] 40)
 by_cases h1 : 0 ≤ A ∧ A < 10
 ·by_cases h2 : 0 ≤ B ∧ B < 10
  ·by_cases h3 : A < B
   ·have H1:=Hd h1
    have H2:=Hd h2
    have H3:=Hd h3
    go_enter Tryz.func23,Tryz.ntmps23
    go_wp2_with fail
    refine (l06Node_yes A _ H1.out).mono ?_
    rintro e w' ⟨rfl,hw⟩
    subst hw
    go_wp2_with fail
    refine (l06Node_yes B _ H2.out).mono ?_
    rintro e w' ⟨rfl,hw⟩
    subst hw
    go_wp2_with fail
    refine (ratSign_s P p0 p1 _ (aL.out.lkA HL.out).p).mono ?_
    rintro e w1 ⟨rfl,hb⟩
    have aN:=Hd (aL.out.call hb)
    clear aL
    clear hb
    rw [HG.out]
    by_cases h4 : 0 < g
    ·have H4:=Hd h4
     obtain ⟨aB,aC,aD,aE,aF,aG,aH,aI,aJ,aK,aA⟩:=aN.out.c11 0 rfl
     go_wp2_with fail
     refine (ratOk_s Q q0 q1 _ (aN.out.lkA HL.out).q).mono ?_
     rintro e w2 ⟨rfl,hb⟩
     have aO:=Hd (aN.out.call hb)
     clear aN
     clear hb
     by_cases h5 : Q.ok = true
     ·rw [h5]
      clear aB aC aD aE aF aG aH aI aJ aK aA
      obtain ⟨aP,aQ,aR,aS,aT,aU,aV,aW,aX,aY,aM⟩:=aO.out.c11 0 rfl
      go_wp2_with fail
      refine (ratOk_s R r0 r1 _ (aO.out.lkA HL.out).r).mono ?_
      rintro e w3 ⟨rfl,hb⟩
      have aZ:=Hd (aO.out.call hb)
      clear aO
      clear hb
      go_wp2
      all_goals go_ret
      all_goals exact ret_b ((by rw [h5]; rfl : R.ok = (Q.ok && R.ok)).trans (okK_5 H1.out H2.out H3.out (by rw [HG.out]; exact H4.out))) aZ.out.below
     ·rw [Bool.not_eq_true] at h5
      rw [h5]
      go_wp2
      all_goals go_ret
      all_goals exact ret_b ((by rw [h5]; rfl : false = (Q.ok && R.ok)).trans (okK_5 H1.out H2.out H3.out (by rw [HG.out]; exact H4.out))) aO.out.below
    ·have H4:=Hd h4
     go_wp2
     all_goals go_ret
     all_goals exact ret_b (okK_4 (by rw [HG.out]; have:=H4.out; omega)) aN.out.below
   ·have H3:=Hd h3
    go_enter Tryz.func23,Tryz.ntmps23
    go_wp2
    all_goals go_ret
    all_goals exact ret_b (okK_3 (by have:=H3.out; omega)) aL.out.below
  ·have H2:=Hd h2
   go_enter Tryz.func23,Tryz.ntmps23
   go_wp2
   all_goals go_ret
   all_goals exact ret_b (okK_2 H2.out) aL.out.below
 ·have H1:=Hd h1
  go_enter Tryz.func23,Tryz.ntmps23
  go_wp2
  all_goals go_ret
  all_goals exact ret_b (okK_1 H1.out) aL.out.below
end Go.Proofs.YtodoiekbjjiocaaGreat
namespace Go.Proofs.YtodoiekbjjiocaaGreat
open Go.RowKit Nt Fr
set_option linter.unusedVariables false
set_option maxRecDepth 100000
set_option maxHeartbeats 4000000
def ArgI (w : World) (v : Value) (X : List Value) : Prop:=∃ A n c,v = .slice A n c ∧ VRow w A n X ∧ n ≤ maxLen
theorem ArgV.i {w : World} {v : Value} {X : List Value} (h : ArgV w v X) : ArgI w v X:=by
 obtain ⟨A,n,c,rfl,h⟩:=h
 exact ⟨A,n,c,rfl,h.1,h.max⟩
theorem ArgI.below {w w' : World} {v : Value} {X : List Value} (h : ArgI w v X) (hb : Below w.heap.size w w') : ArgI w' v X:=by
 obtain ⟨A,n,c,rfl,h,hn⟩:=h
 exact ⟨A,n,c,rfl,h.below hb (Nat.le_refl _),hn⟩
theorem ArgI.of {w : World} {A : Option Addr} {n c : Nat} {zs : List Int} (h : IsInts .i64 w A n c zs) : ArgI w (.slice A n c) (ints zs):=⟨A,n,c,rfl,h.1,Nat.le_trans h.2.1 h.2.2.1⟩
structure FrI (w : World) (F : Fr) (a b : Value) : Prop where
 n : ArgI w a (ints F.xs)
 d : ArgI w b (ints F.ys)
theorem FrA.i {w : World} {F : Fr} {a b : Value} (h : FrA w F a b) : FrI w F a b:=⟨h.n.i,h.d.i⟩
theorem FrI.below {w w' : World} {F : Fr} {a b : Value} (h : FrI w F a b) (hb : Below w.heap.size w w') : FrI w' F a b:=⟨h.n.below hb,h.d.below hb⟩
structure LkI (w : World) (P Q R : Fr) (p0 p1 q0 q1 r0 r1 : Value) : Prop where
 p : FrI w P p0 p1
 q : FrI w Q q0 q1
 r : FrI w R r0 r1
theorem LkA.i {w : World} {P Q R : Fr} {p0 p1 q0 q1 r0 r1 : Value} (h : LkA w P Q R p0 p1 q0 q1 r0 r1) : LkI w P Q R p0 p1 q0 q1 r0 r1:=⟨h.p.i,h.q.i,h.r.i⟩
theorem LkI.below {w w' : World} {P Q R : Fr} {p0 p1 q0 q1 r0 r1 : Value} (h : LkI w P Q R p0 p1 q0 q1 r0 r1) (hb : Below w.heap.size w w') : LkI w' P Q R p0 p1 q0 q1 r0 r1:=⟨h.p.below hb,h.q.below hb,h.r.below hb⟩
theorem St.lkI {w0 w : World} {bs : List (Nat × List Value)} {cs : List Chunk} (h : St w0 w bs cs) {P Q R : Fr} {p0 p1 q0 q1 r0 r1 : Value} (ha : LkI w0 P Q R p0 p1 q0 q1 r0 r1) : LkI w P Q R p0 p1 q0 q1 r0 r1:=ha.below h.below
def Fr.len (F : Fr) : Nat:=F.xs.length + F.ys.length
theorem Fr.Good.len {F : Fr} (h : F.Good) : F.len ≤ 48:=by have:=good_len h; unfold Fr.len; omega
theorem ArgI.len {w : World} {A : Option Addr} {n c : Nat} {zs : List Int} (h : VRow w A n (ints zs)) : n = zs.length:=by have:=h.1; rw [ints_len] at this; omega
def markL : Nat → Chunk → Chunk
 | _,[]=>[]
 | k,(v,X) :: r=>(v,marksI k X.length) :: markL (k + X.length) r
def lenL : Chunk → Nat
 | []=>0
 |(_,X) :: r=>X.length + lenL r
theorem markL_app (l m : Chunk) (k : Nat) : markL k (l ++ m) = markL k l ++ markL (k + lenL l) m:=by
 induction l generalizing k with
 | nil=>simp [markL,lenL]
 | cons p r ih=>obtain ⟨v,X⟩:=p; simp [markL,lenL,ih,Nat.add_assoc]
theorem markL_fst (l : Chunk) (k : Nat) : (markL k l).map Prod.fst = l.map Prod.fst:=by
 induction l generalizing k with
 | nil=>rfl
 | cons p r ih=>obtain ⟨v,X⟩:=p; simp [markL,ih]
theorem blks_app (l m : Chunk) : blks (l ++ m) = blks l ++ blks m:=by simp [blks]
def Marked (l : Chunk) (k base : Nat) (w : World) (e : Ending) (w' : World) : Prop :=
 e = .returned (.int .i64 ((k + lenL l : Nat) : Int)) ∧ Owns w' base (markL k l) ∧ Turned w w' (blks l)
theorem St.marked {w0 w w' : World} {bs : List (Nat × List Value)} {cs : List Chunk} (h : St w0 w bs cs) (i : Nat) {l : Chunk} {k : Nat} (e : cs[i]? = some l) (ho : Owns w' w0.heap.size (markL k l)) (ht : Turned w w' (blks l)) : St w0 w' bs (cs.set i (markL k l)):=h.mark i e (markL_fst l k) ho ht
section
variable (F : Fr) (a b : Value) (w : World)
theorem szRat_f (k : Int) (h0 : 0 ≤ k) (h1 : k ≤ 1048576) (h : FrI w F a b) : Calls Tryz.prog 21 #[.agg #[.bool F.s,a,b],.int .i64 k] w fun e w' =>e = .returned (.int .i64 (szOf k F.len)) ∧ Below w.heap.size w w':=by
 obtain ⟨⟨A,n,c,rfl,hA,hn⟩,⟨B,m,d,rfl,hB,hm⟩⟩:=h
 have e1:=ArgI.len (c:=c) hA
 have e2:=ArgI.len (c:=d) hB
 have:=szRat_any F.s A n c B m d k w h0 h1 (by unfold maxLen at hn; omega) (by unfold maxLen at hm; omega)
 rw [e1,e2] at this ⊢
 exact this
theorem toRat_f (h : FrI w F a b) (hl : F.len ≤ 1048576) : Calls Tryz.prog 29 #[.agg #[.bool F.s,a,b]] w (OwnF F w):=by
 obtain ⟨⟨A,n,c,rfl,hA,hn⟩,⟨B,m,d,rfl,hB,hm⟩⟩:=h
 have e1:=ArgI.len (c:=c) hA
 have e2:=ArgI.len (c:=d) hB
 unfold Fr.len at hl
 exact (toRat_any F.s A n c F.xs B m d F.ys w hA hB (by omega) (by omega)).mono fun _ _ h=>h.f rfl rfl rfl
theorem eqRat_f (c d : Value) (h : FrI w F a b) (h2 : FrI w F c d) : Calls Tryz.prog 12 #[.agg #[.bool F.s,a,b],.agg #[.bool F.s,c,d]] w fun e w' =>e = .returned (.bool true) ∧ Below w.heap.size w w':=by
 obtain ⟨⟨A,n,x,rfl,hA,hn⟩,⟨B,m,y,rfl,hB,hm⟩⟩:=h
 obtain ⟨⟨C,p,z,rfl,hC,hp⟩,⟨E,q,u,rfl,hE,hq⟩⟩:=h2
 have e1:=ArgI.len (c:=x) hA
 have e2:=ArgI.len (c:=y) hB
 obtain rfl : p = n:=by have:=ArgI.len (c:=z) hC; omega
 obtain rfl : q = m:=by have:=ArgI.len (c:=u) hE; omega
 exact eqRat_same F.s A C p x z F.xs B E q y u F.ys w hA hC hB hE hn hm
theorem markRat_f (s : Bool) (X Y : List Value) (k base : Nat) (K : Int) (hK : K = (k : Int)) (h : Owns w base [(a,X),(b,Y)]) (hn : k + lenL [(a,X),(b,Y)] ≤ 1099511627776) : Calls Tryz.prog 16 #[.agg #[.bool s,a,b],.int .i64 K] w (Marked [(a,X),(b,Y)] k base w):=by
 have ha:=h.at_ 0 rfl
 have hb:=h.at_ 1 rfl
 have ap:=List.pairwise_cons.mp h.2
 have ap0 : Far a.ownBlock b.ownBlock:=ap.1 (b,Y) (by simp)
 obtain ⟨A,c,rfl⟩:=ha.shape
 obtain ⟨B,d,rfl⟩:=hb.shape
 simp only [lenL] at hn
 refine (markRat_at s A X.length c B Y.length d k base K hK X Y w ha hb ap0.ne ap0.symm.ne (by omega)).mono ?_
 rintro e w' ⟨rfl,wm,hg0,hg1,ho0,ho1⟩
 refine ⟨by simp only [lenL]; congr 3; omega,⟨?_,?_⟩,((Turned.of_grown hg0).trans (Turned.of_grown hg1)).mono (by simp [blks])⟩
 ·intro p hp
  simp only [markL,List.mem_cons,List.not_mem_nil,or_false] at hp
  rcases hp with rfl | rfl
  ·exact ho0
  ·exact ho1
 ·simp only [markL,List.pairwise_cons,List.mem_singleton,forall_eq,List.not_mem_nil,false_imp_iff,implies_true,List.Pairwise.nil,and_true]
  exact ap0
theorem heldRat_f (s : Bool) (X Y : List Value) (k base : Nat) (K : Int) (hK : K = (k : Int)) (h : Owns w base (markL k [(a,X),(b,Y)])) (hn : k + lenL [(a,X),(b,Y)] ≤ 1099511627776) : Calls Tryz.prog 18 #[.agg #[.bool s,a,b],.int .i64 K] w fun e w' =>e = .returned (.int .i64 ((k + lenL [(a,X),(b,Y)] : Nat) : Int)) ∧ Below w.heap.size w w':=by
 have ha:=h.at_ 0 rfl
 have hb:=h.at_ 1 rfl
 obtain ⟨A,c,rfl⟩:=ha.shape
 obtain ⟨B,d,rfl⟩:=hb.shape
 simp only [lenL] at hn
 have l1:=marksI_len k X.length
 have l2:=marksI_len (k + X.length) Y.length
 have:=heldRat_at s A X.length c B Y.length d k K hK w (by have:=ha.row; rw [l1] at this; exact this) (by have:=hb.row; rw [l2] at this; exact this) (by omega)
 rw [l1,l2]
 refine this.mono ?_
 rintro e w' ⟨rfl,h⟩
 exact ⟨by simp only [lenL]; congr 3; omega,h⟩
end
theorem szLink_f (A B : Int) (P Q R : Fr) (p0 p1 q0 q1 r0 r1 : Value) (w : World) (k : Int) (h0 : 0 ≤ k) (h1 : k ≤ 1048576) (hL : LkI w P Q R p0 p1 q0 q1 r0 r1) :
 Calls Tryz.prog 6 #[.agg #[.int .i64 A,.int .i64 B,.bool P.s,p0,p1,.bool Q.s,q0,q1,.bool R.s,r0,r1],.int .i64 k] w fun e w' =>e = .returned (.int .i64 (szOf k (P.len + Q.len + R.len))) ∧ Below w.heap.size w w':=by
 have HL:=Hd hL
 clear hL
 have bA:=Hd (St.start1 w [.int .i64 A,.int .i64 B,.bool P.s,p0,p1,.bool Q.s,q0,q1,.bool R.s,r0,r1] 29)
 go_enter Tryz.func6,Tryz.ntmps6
 obtain ⟨aD,aE,aF,aG,aH,aI,aJ,aK,aL,aM,aA⟩:=bA.out.c11 0 rfl
 go_wp2_with fail
 refine (szRat_f P p0 p1 _ (k) (by omega) (by omega) (bA.out.lkI HL.out).p).mono ?_
 rintro e w1 ⟨rfl,hb⟩
 have a8:=Hd (bA.out.call hb)
 clear bA
 clear hb
 clear aD aE aF aG aH aI aJ aK aL aM aA
 by_cases hs0 : k < (P.len : Int)
 ·rw [szOf_neg hs0]
  go_wp2
  go_ret
  exact ⟨ret_int (szOf_neg (by omega)).symm,a8.out.below⟩
 ·rw [szOf_pos hs0]
  obtain ⟨k0,hk0⟩ : ∃ q : Int,k - (P.len : Int) = q:=⟨_,rfl⟩
  rw [hk0]
  obtain ⟨aN,aO,aP,aQ,aR,aS,aT,aU,aV,aW,aB⟩:=a8.out.c11 0 rfl
  go_wp2_with fail
  refine (szRat_f Q q0 q1 _ (k0) (by omega) (by omega) (a8.out.lkI HL.out).q).mono ?_
  rintro e w2 ⟨rfl,hb⟩
  have a9:=Hd (a8.out.call hb)
  clear a8
  clear hb
  clear aN aO aP aQ aR aS aT aU aV aW aB
  by_cases hs1 : k0 < (Q.len : Int)
  ·rw [szOf_neg hs1]
   go_wp2
   go_ret
   exact ⟨ret_int (szOf_neg (by omega)).symm,a9.out.below⟩
  ·rw [szOf_pos hs1]
   obtain ⟨k1,hk1⟩ : ∃ q : Int,k0 - (Q.len : Int) = q:=⟨_,rfl⟩
   rw [hk1]
   obtain ⟨aX,aY,aZ,a0,a2,a3,a4,a5,a6,a7,aC⟩:=a9.out.c11 0 rfl
   go_wp2_with fail
   refine (szRat_f R r0 r1 _ (k1) (by omega) (by omega) (a9.out.lkI HL.out).r).mono ?_
   rintro e w3 ⟨rfl,hb⟩
   have bB:=Hd (a9.out.call hb)
   clear a9
   clear hb
   clear aX aY aZ a0 a2 a3 a4 a5 a6 a7 aC
   by_cases hs2 : k1 < (R.len : Int)
   ·rw [szOf_neg hs2]
    go_wp2
    go_ret
    exact ⟨ret_int (szOf_neg (by omega)).symm,bB.out.below⟩
   ·rw [szOf_pos hs2]
    obtain ⟨k2,hk2⟩ : ∃ q : Int,k1 - (R.len : Int) = q:=⟨_,rfl⟩
    rw [hk2]
    go_wp2
    go_ret
    exact ⟨ret_int (by rw [szOf_pos (by omega)]; omega),bB.out.below⟩
end Go.Proofs.YtodoiekbjjiocaaGreat
namespace Go.Proofs.YtodoiekbjjiocaaGreat
open Go.RowKit Nt Fr
set_option linter.unusedVariables false
set_option maxRecDepth 100000
set_option maxHeartbeats 4000000
theorem toLink_f (A B : Int) (P Q R : Fr) (p0 p1 q0 q1 r0 r1 : Value) (w : World) (hL : LkI w P Q R p0 p1 q0 q1 r0 r1) (hl : P.len + Q.len + R.len ≤ 1048576) :
 Calls Tryz.prog 9 #[.agg #[.int .i64 A,.int .i64 B,.bool P.s,p0,p1,.bool Q.s,q0,q1,.bool R.s,r0,r1]] w (OwnK A B P Q R w):=by
 have HL:=Hd hL
 clear hL
 have dY:=Hd (St.start3 w [.int .i64 A,.int .i64 B,.bool P.s,p0,p1,.bool Q.s,q0,q1,.bool R.s,r0,r1] 29 [.int .i64 0,.int .i64 0,.bool false,.slice none 0 0,.slice none 0 0,.bool false,.slice none 0 0,.slice none 0 0,.bool false,.slice none 0 0,.slice none 0 0] 40 [.int .i64 A,.int .i64 B,.bool false,.slice none 0 0,.slice none 0 0,.bool false,.slice none 0 0,.slice none 0 0,.bool false,.slice none 0 0,.slice none 0 0] 40)
 have b7 : w.heap.size + 1 + 1 ≠ w.heap.size + 1:=by omega
 have dP : w.heap.size + 1 + 1 ≠ w.heap.size:=by omega
 have b8 : w.heap.size + 1 ≠ w.heap.size + 1 + 1:=by omega
 have dQ : w.heap.size + 1 ≠ w.heap.size:=by omega
 have dR : w.heap.size ≠ w.heap.size + 1 + 1:=by omega
 have dS : w.heap.size ≠ w.heap.size + 1:=by omega
 go_enter Tryz.func9,Tryz.ntmps9
 go_wp2_with fail
 refine (toRat_f P p0 p1 _ (dY.out.lkI HL.out).p (by omega)).mono ?_
 rintro e w1 ⟨v1,u1,rfl,ho,hb⟩
 obtain ⟨A1,n1,c1,rfl⟩:=(ho.at_ 0 rfl).shape3
 obtain ⟨B1,m1,d1,rfl⟩:=(ho.at_ 1 rfl).shape3
 have dT:=Hd (dY.out.rows ho hb)
 clear dY
 clear ho hb
 obtain ⟨bL,bM,bN,bO,bP,bQ,bR,bS,bT,bU,bJ⟩:=dT.out.c11 2 rfl
 obtain ⟨aY,aC,aZ,aD,a0,aE,a2,aF,a3,aG,a4,aH,a5,aI,a6,aJ,a7,aK,a8,aL,aM,aA⟩:=dT.out.g11 0 rfl
 go_wp2_with fail
 clear bL bM bN bO bP bQ bR bS bT bU bJ aY aC aZ aD a0 aE a2 aF a3 aG a4 aH a5 aI a6 aJ a7 aK a8 aL aM aA
 have dU:=Hd (show St w (((w1.setCell ⟨w.heap.size + 1 + 1,2,none⟩ (.bool P.s)).setCell ⟨w.heap.size + 1 + 1,3,none⟩ ((.slice A1 n1 c1))).setCell ⟨w.heap.size + 1 + 1,4,none⟩ ((.slice B1 m1 d1))) [(w.heap.size + 1 + 1,[.int .i64 A,.int .i64 B,.bool P.s,(.slice A1 n1 c1),(.slice B1 m1 d1),.bool false,.slice none 0 0,.slice none 0 0,.bool false,.slice none 0 0,.slice none 0 0]),(w.heap.size + 1,[.int .i64 0,.int .i64 0,.bool false,.slice none 0 0,.slice none 0 0,.bool false,.slice none 0 0,.slice none 0 0,.bool false,.slice none 0 0,.slice none 0 0]),(w.heap.size,[.int .i64 A,.int .i64 B,.bool P.s,p0,p1,.bool Q.s,q0,q1,.bool R.s,r0,r1])] [[((.slice A1 n1 c1),ints P.xs),((.slice B1 m1 d1),ints P.ys)]] from (((dT.out.set 0 2 (.bool P.s) rfl rfl).set 0 3 ((.slice A1 n1 c1)) rfl rfl).set 0 4 ((.slice B1 m1 d1)) rfl rfl))
 clear dT
 obtain ⟨u1,hu1⟩ : ∃ u,(((w1.setCell ⟨w.heap.size + 1 + 1,2,none⟩ (.bool P.s)).setCell ⟨w.heap.size + 1 + 1,3,none⟩ ((.slice A1 n1 c1))).setCell ⟨w.heap.size + 1 + 1,4,none⟩ ((.slice B1 m1 d1))) = u:=⟨_,rfl⟩
 rw [hu1] at dU ⊢
 clear hu1
 refine (toRat_f Q q0 q1 _ (dU.out.lkI HL.out).q (by omega)).mono ?_
 rintro e w2 ⟨v2,u2,rfl,ho,hb⟩
 obtain ⟨A2,n2,c2,rfl⟩:=(ho.at_ 0 rfl).shape3
 obtain ⟨B2,m2,d2,rfl⟩:=(ho.at_ 1 rfl).shape3
 have dV:=Hd (dU.out.rows ho hb)
 clear dU
 clear ho hb
 obtain ⟨bV,bW,bX,bY,bZ,b0,b1,b2,b3,b4,bK⟩:=dV.out.c11 2 rfl
 obtain ⟨a9,aN,bA,aO,bB,aP,bC,aQ,bD,aR,bE,aS,bF,aT,bG,aU,bH,aV,bI,aW,aX,aB⟩:=dV.out.g11 0 rfl
 go_wp2_with fail
 clear bV bW bX bY bZ b0 b1 b2 b3 b4 bK a9 aN bA aO bB aP bC aQ bD aR bE aS bF aT bG aU bH aV bI aW aX aB
 have dW:=Hd (show St w (((w2.setCell ⟨w.heap.size + 1 + 1,5,none⟩ (.bool Q.s)).setCell ⟨w.heap.size + 1 + 1,6,none⟩ ((.slice A2 n2 c2))).setCell ⟨w.heap.size + 1 + 1,7,none⟩ ((.slice B2 m2 d2))) [(w.heap.size + 1 + 1,[.int .i64 A,.int .i64 B,.bool P.s,(.slice A1 n1 c1),(.slice B1 m1 d1),.bool Q.s,(.slice A2 n2 c2),(.slice B2 m2 d2),.bool false,.slice none 0 0,.slice none 0 0]),(w.heap.size + 1,[.int .i64 0,.int .i64 0,.bool false,.slice none 0 0,.slice none 0 0,.bool false,.slice none 0 0,.slice none 0 0,.bool false,.slice none 0 0,.slice none 0 0]),(w.heap.size,[.int .i64 A,.int .i64 B,.bool P.s,p0,p1,.bool Q.s,q0,q1,.bool R.s,r0,r1])] [[((.slice A2 n2 c2),ints Q.xs),((.slice B2 m2 d2),ints Q.ys)],[((.slice A1 n1 c1),ints P.xs),((.slice B1 m1 d1),ints P.ys)]] from (((dV.out.set 0 5 (.bool Q.s) rfl rfl).set 0 6 ((.slice A2 n2 c2)) rfl rfl).set 0 7 ((.slice B2 m2 d2)) rfl rfl))
 clear dV
 obtain ⟨u2,hu2⟩ : ∃ u,(((w2.setCell ⟨w.heap.size + 1 + 1,5,none⟩ (.bool Q.s)).setCell ⟨w.heap.size + 1 + 1,6,none⟩ ((.slice A2 n2 c2))).setCell ⟨w.heap.size + 1 + 1,7,none⟩ ((.slice B2 m2 d2))) = u:=⟨_,rfl⟩
 rw [hu2] at dW ⊢
 clear hu2
 refine (toRat_f R r0 r1 _ (dW.out.lkI HL.out).r (by omega)).mono ?_
 rintro e w3 ⟨v3,u3,rfl,ho,hb⟩
 obtain ⟨A3,n3,c3,rfl⟩:=(ho.at_ 0 rfl).shape3
 obtain ⟨B3,m3,d3,rfl⟩:=(ho.at_ 1 rfl).shape3
 have dX:=Hd (dW.out.rows ho hb)
 clear dW
 clear ho hb
 obtain ⟨cV,b9,cW,cA,cX,cB,cY,cC,cZ,cD,dA,cE,dB,cF,dC,cG,dD,cH,dE,cI,cJ,b5⟩:=dX.out.g11 0 rfl
 obtain ⟨dF,cK,dG,cL,dH,cM,dI,cN,dJ,cO,dK,cP,dL,cQ,dM,cR,dN,cS,dO,cT,cU,b6⟩:=dX.out.g11 1 rfl
 go_wp2
 have SR:=Hd ((((dX.out.set 0 8 (.bool R.s) rfl rfl).set 0 9 (.slice A3 n3 c3) rfl rfl).set 0 10 (.slice B3 m3 d3) rfl rfl).setAll 1 [.int .i64 A,.int .i64 B,.bool P.s,(.slice A1 n1 c1),(.slice B1 m1 d1),.bool Q.s,(.slice A2 n2 c2),(.slice B2 m2 d2),.bool R.s,(.slice A3 n3 c3),(.slice B3 m3 d3)] rfl rfl)
 obtain ⟨hr0,hr1,hr2,hr3,hr4,hr5,hr6,hr7,hr8,hr9,hr10⟩:=dX.out.c11 1 rfl
 exact bodyPost_ret (v:=.agg #[.int .i64 A,.int .i64 B,.bool P.s,(.slice A1 n1 c1),(.slice B1 m1 d1),.bool Q.s,(.slice A2 n2 c2),(.slice B2 m2 d2),.bool R.s,(.slice A3 n3 c3),(.slice B3 m3 d3)]) (by simp [results,Tryz.results9,go_sem,hr0,hr1,hr2,hr3,hr4,hr5,hr6,hr7,hr8,hr9,hr10]) rfl ⟨_,_,_,_,_,_,rfl,SR.out.pick [2,1,0] [[((.slice A1 n1 c1),ints P.xs),((.slice B1 m1 d1),ints P.ys)],[((.slice A2 n2 c2),ints Q.xs),((.slice B2 m2 d2),ints Q.ys)],[((.slice A3 n3 c3),ints R.xs),((.slice B3 m3 d3),ints R.ys)]] (by decide) rfl,SR.out.below⟩
theorem eqLink_f (A B : Int) (P Q R : Fr) (p0 p1 q0 q1 r0 r1 : Value) (p2 p3 q2 q3 r2 r3 : Value) (w : World) (hL : LkI w P Q R p0 p1 q0 q1 r0 r1) (hM : LkI w P Q R p2 p3 q2 q3 r2 r3) :
 Calls Tryz.prog 13 #[.agg #[.int .i64 A,.int .i64 B,.bool P.s,p0,p1,.bool Q.s,q0,q1,.bool R.s,r0,r1],.agg #[.int .i64 A,.int .i64 B,.bool P.s,p2,p3,.bool Q.s,q2,q3,.bool R.s,r2,r3]] w fun e w' =>e = .returned (.bool true) ∧ Below w.heap.size w w':=by
 have HL:=Hd hL
 have HM:=Hd hM
 clear hL hM
 have bL:=Hd (St.start2 w [.int .i64 A,.int .i64 B,.bool P.s,p0,p1,.bool Q.s,q0,q1,.bool R.s,r0,r1] 40 [.int .i64 A,.int .i64 B,.bool P.s,p2,p3,.bool Q.s,q2,q3,.bool R.s,r2,r3] 40)
 have bM : w.heap.size + 1 ≠ w.heap.size:=by omega
 have bN : w.heap.size ≠ w.heap.size + 1:=by omega
 go_enter Tryz.func13,Tryz.ntmps13
 go_wp2_with fail
 refine (eqRat_f P p0 p1 _ p2 p3 (bL.out.lkI HL.out).p (bL.out.lkI HM.out).p).mono ?_
 rintro e w1 ⟨rfl,hb⟩
 have bJ:=Hd (bL.out.call hb)
 clear bL
 clear hb
 obtain ⟨aE,aF,aG,aH,aI,aJ,aK,aL,aM,aN,aA⟩:=bJ.out.c11 1 rfl
 obtain ⟨aO,aP,aQ,aR,aS,aT,aU,aV,aW,aX,aB⟩:=bJ.out.c11 0 rfl
 go_wp2_with fail
 refine (eqRat_f Q q0 q1 _ q2 q3 (bJ.out.lkI HL.out).q (bJ.out.lkI HM.out).q).mono ?_
 rintro e w2 ⟨rfl,hb⟩
 have bK:=Hd (bJ.out.call hb)
 clear bJ
 clear hb
 clear aE aF aG aH aI aJ aK aL aM aN aA aO aP aQ aR aS aT aU aV aW aX aB
 obtain ⟨aY,aZ,a0,a2,a3,a4,a5,a6,a7,a8,aC⟩:=bK.out.c11 1 rfl
 obtain ⟨a9,bA,bB,bC,bD,bE,bF,bG,bH,bI,aD⟩:=bK.out.c11 0 rfl
 go_wp2_with fail
 refine (eqRat_f R r0 r1 _ r2 r3 (bK.out.lkI HL.out).r (bK.out.lkI HM.out).r).mono ?_
 rintro e w3 ⟨rfl,hb⟩
 have bO:=Hd (bK.out.call hb)
 clear bK
 clear hb
 clear aY aZ a0 a2 a3 a4 a5 a6 a7 a8 aC a9 bA bB bC bD bE bF bG bH bI aD
 go_wp2
 go_ret
 exact ⟨rfl,bO.out.below⟩
end Go.Proofs.YtodoiekbjjiocaaGreat
namespace Go.Proofs.YtodoiekbjjiocaaGreat
open Go.RowKit Nt Fr
set_option linter.unusedVariables false
set_option maxRecDepth 100000
set_option maxHeartbeats 4000000
theorem Owns.part {w : World} {base : Nat} {l : Chunk} (h : Owns w base l) (a b c : Chunk) (e : l = a ++ (b ++ c)) : Owns w base b:=by subst e; exact h.right.left
theorem Owns.head {w : World} {base : Nat} {l : Chunk} (h : Owns w base l) (a c : Chunk) (e : l = a ++ c) : Owns w base a:=by subst e; exact h.left
theorem Marked.join {l m : Chunk} {k base : Nat} {w w1 w2 : World} (h : Owns w base (l ++ m)) (h1 : Owns w1 base (markL k l)) (t1 : Turned w w1 (blks l)) (h2 : Owns w2 base (markL (k + lenL l) m)) (t2 : Turned w1 w2 (blks m)) :
 Owns w2 base (markL k (l ++ m)) ∧ Turned w w2 (blks (l ++ m)):=by
 have hf : FarL (markL k l) (markL (k + lenL l) m):=by
  intro p hp q hq
  have a : p.1 ∈ l.map Prod.fst:=by rw [← markL_fst l k]; exact List.mem_map_of_mem hp
  have b : q.1 ∈ m.map Prod.fst:=by rw [← markL_fst m (k + lenL l)]; exact List.mem_map_of_mem hq
  obtain ⟨p',hp',e1⟩:=List.mem_map.mp a
  obtain ⟨q',hq',e2⟩:=List.mem_map.mp b
  rw [← e1,← e2]
  exact h.far p' hp' q' hq'
 refine ⟨?_,by rw [blks_app]; exact t1.trans t2⟩
 rw [markL_app]
 refine Owns.app ⟨fun p hp=>t2.own (h1.1 p hp) fun x hx=>?_,h1.2⟩ h2 hf
 have : x ∈ blks (markL (k + lenL l) m):=by
  have e : blks (markL (k + lenL l) m) = blks m:=by
   unfold blks
   have:=congrArg (List.map Value.ownBlock) (markL_fst m (k + lenL l))
   simpa [List.map_map,Function.comp_def] using this
  rw [e]; exact hx
 obtain ⟨q,hq,rfl⟩:=List.mem_map.mp this
 exact hf p hp q hq
end Go.Proofs.YtodoiekbjjiocaaGreat
namespace Go.Proofs.YtodoiekbjjiocaaGreat
open Go.RowKit Nt Fr
set_option linter.unusedVariables false
set_option maxRecDepth 100000
set_option maxHeartbeats 4000000
def Fr.sq (F G : Fr) : Fr:=(F.mul F).add (G.mul G)
theorem St.retF {w w' : World} {bs : List (Nat × List Value)} {cs : List Chunk} (h : St w w' bs cs) (i : Nat) {F : Fr} {a b : Value} (e : cs[i]? = some [(a,ints F.xs),(b,ints F.ys)]) : OwnF F w (.returned (.agg #[.bool F.s,a,b])) w':=⟨a,b,rfl,h.own i e,h.below⟩
theorem sumOfSquares_f (F G : Fr) (a b c d : Value) (w : World) (g1 : F.Good) (g2 : G.Good) (h1 : FrA w F a b) (h2 : FrA w G c d) :
 Calls Tryz.prog 92 #[.agg #[.bool F.s,a,b],.agg #[.bool G.s,c,d]] w (OwnF (F.sq G) w):=by
 have H1:=Hd h1
 have H2:=Hd h2
 clear h1 h2
 have G1:=Hd g1
 have G2:=Hd g2
 clear g1 g2
 obtain ⟨M,hM⟩ : ∃ z,F.mul F = z:=⟨_,rfl⟩
 obtain ⟨N,hN⟩ : ∃ z,G.mul G = z:=⟨_,rfl⟩
 obtain ⟨T,hT⟩ : ∃ z,M.add N = z:=⟨_,rfl⟩
 have hE : F.sq G = T:=by unfold Fr.sq; rw [hM,hN,hT]
 rw [hE]
 have HM:=Hd hM
 have HN:=Hd hN
 have HT:=Hd hT
 clear hM hN hT hE
 have aJ:=Hd (St.start3 w [.bool F.s,a,b] 35 [.bool G.s,c,d] 35 [.bool false,.slice none 0 0,.slice none 0 0] 35)
 have aK : w.heap.size + 1 + 1 ≠ w.heap.size + 1:=by omega
 have aL : w.heap.size + 1 + 1 ≠ w.heap.size:=by omega
 have aM : w.heap.size + 1 ≠ w.heap.size + 1 + 1:=by omega
 have bD : w.heap.size + 1 ≠ w.heap.size:=by omega
 have aN : w.heap.size ≠ w.heap.size + 1 + 1:=by omega
 have bE : w.heap.size ≠ w.heap.size + 1:=by omega
 go_enter Tryz.func92,Tryz.ntmps92
 obtain ⟨aO,aP,aQ⟩:=aJ.out.c3 2 rfl
 obtain ⟨aR,aS,aT⟩:=aJ.out.c3 1 rfl
 go_wp2
 go_region_held3 (fun w' =>w'.cell? ⟨w.heap.size + 1,0,none⟩ = some (.bool G.s) ∧ w'.cell? ⟨w.heap.size + 1,1,none⟩ = some (c) ∧ w'.cell? ⟨w.heap.size + 1,2,none⟩ = some (d) ∧ w'.cell? ⟨w.heap.size,0,none⟩ = some (.bool F.s) ∧ w'.cell? ⟨w.heap.size,1,none⟩ = some (a) ∧ w'.cell? ⟨w.heap.size,2,none⟩ = some (b)) (go_keep)
  (first
    |(go_at_call_of 90 (Value.agg #[Value.bool F.s,a,b])
      refine (times_f F F a b a b _ G1.out G1.out (aJ.out.drew.frA H1.out) (aJ.out.drew.frA H1.out)).mono ?_
      rintro e w1 ⟨v1,u1,rfl,ho,hb⟩
      obtain ⟨A1,n1,c1,rfl⟩:=(ho.at_ 0 rfl).shape3
      obtain ⟨B1,m1,d1,rfl⟩:=(ho.at_ 1 rfl).shape3
      rw [HM.out] at ho ⊢
      have aD:=Hd (aJ.out.drew.rows ho hb)
      clear aJ ho hb
      obtain ⟨aU,aV,aW⟩:=aD.out.c3 2 rfl
      obtain ⟨aX,aY⟩:=aD.out.c2 1 rfl
      have aZ:=aD.out.cell 1 2 rfl rfl)
    |(go_at_call_of 90 (Value.agg #[Value.bool G.s,c,d])
      refine (times_f G G c d c d _ G2.out G2.out (aD.out.frA H2.out) (aD.out.frA H2.out)).mono ?_
      rintro e w2 ⟨v2,u2,rfl,ho,hb⟩
      obtain ⟨A2,n2,c2,rfl⟩:=(ho.at_ 0 rfl).shape3
      obtain ⟨B2,m2,d2,rfl⟩:=(ho.at_ 1 rfl).shape3
      rw [HN.out] at ho ⊢
      have aE:=Hd (aD.out.rows ho hb)
      clear aD ho hb
      obtain ⟨a0,a2,a3⟩:=aE.out.c3 2 rfl
      obtain ⟨a4,a5⟩:=aE.out.c2 1 rfl
      have a6:=aE.out.cell 1 2 rfl rfl)
    |(go_at_call 43
      refine (plus_f M N (.slice A1 n1 c1) (.slice B1 m1 d1) (.slice A2 n2 c2) (.slice B2 m2 d2) _ (HM.out ▸ good_mul F F) (HN.out ▸ good_mul G G) (aE.out.fr 1 0 rfl rfl rfl) (aE.out.fr 0 0 rfl rfl rfl)).mono ?_
      rintro e w3 ⟨v3,u3,rfl,ho,hb⟩
      obtain ⟨A3,n3,c3,rfl⟩:=(ho.at_ 0 rfl).shape3
      obtain ⟨B3,m3,d3,rfl⟩:=(ho.at_ 1 rfl).shape3
      rw [HT.out] at ho ⊢
      have aF:=Hd (aE.out.rows ho hb)
      clear aE ho hb
      obtain ⟨a7,a8,a9⟩:=aF.out.c3 2 rfl
      obtain ⟨bA,bB,bC⟩:=aF.out.c3 1 rfl
      obtain ⟨aG,aA,aH,aB⟩:=aF.out.g2 0 rfl
      have aI:=aF.out.cell 0 2 rfl rfl
      have aC:=aF.out.froz 0 2 rfl rfl))
 go_wp2
 have SR:=Hd (aF.out.setAll 0 [.bool T.s,(.slice A3 n3 c3),(.slice B3 m3 d3)] rfl rfl)
 obtain ⟨hr0,hr1,hr2⟩:=aF.out.c3 0 rfl
 exact bodyPost_ret (v:=.agg #[.bool T.s,(.slice A3 n3 c3),(.slice B3 m3 d3)]) (by simp [results,Tryz.results92,go_sem,hr0,hr1,hr2]) rfl (SR.out.retF 0 rfl)
theorem l06Squares_f (F G : Fr) (a b c d : Value) (w : World) (h1 : FrA w F a b) (h2 : FrA w G c d) :
 Calls Tryz.prog 51 #[.agg #[.bool F.s,a,b],.agg #[.bool G.s,c,d]] w (OwnF (F.sq G) w):=by
 have H1:=Hd h1
 have H2:=Hd h2
 clear h1 h2
 obtain ⟨M,hM⟩ : ∃ z,F.mul F = z:=⟨_,rfl⟩
 obtain ⟨N,hN⟩ : ∃ z,G.mul G = z:=⟨_,rfl⟩
 obtain ⟨T,hT⟩ : ∃ z,M.add N = z:=⟨_,rfl⟩
 have hE : F.sq G = T:=by unfold Fr.sq; rw [hM,hN,hT]
 rw [hE]
 have HM:=Hd hM
 have HN:=Hd hN
 have HT:=Hd hT
 clear hM hN hT hE
 have aJ:=Hd (St.start3 w [.bool F.s,a,b] 35 [.bool G.s,c,d] 35 [.bool false,.slice none 0 0,.slice none 0 0] 35)
 have aK : w.heap.size + 1 + 1 ≠ w.heap.size + 1:=by omega
 have aL : w.heap.size + 1 + 1 ≠ w.heap.size:=by omega
 have aM : w.heap.size + 1 ≠ w.heap.size + 1 + 1:=by omega
 have bD : w.heap.size + 1 ≠ w.heap.size:=by omega
 have aN : w.heap.size ≠ w.heap.size + 1 + 1:=by omega
 have bE : w.heap.size ≠ w.heap.size + 1:=by omega
 go_enter Tryz.func51,Tryz.ntmps51
 obtain ⟨aO,aP,aQ⟩:=aJ.out.c3 2 rfl
 obtain ⟨aR,aS,aT⟩:=aJ.out.c3 1 rfl
 go_wp2
 go_region_held3 (fun w' =>w'.cell? ⟨w.heap.size + 1,0,none⟩ = some (.bool G.s) ∧ w'.cell? ⟨w.heap.size + 1,1,none⟩ = some (c) ∧ w'.cell? ⟨w.heap.size + 1,2,none⟩ = some (d) ∧ w'.cell? ⟨w.heap.size,0,none⟩ = some (.bool F.s) ∧ w'.cell? ⟨w.heap.size,1,none⟩ = some (a) ∧ w'.cell? ⟨w.heap.size,2,none⟩ = some (b)) (go_keep)
  (first
    |(go_at_call_of 50 (Value.agg #[Value.bool F.s,a,b])
      refine (ratMul_s F F a b a b _ (aJ.out.drew.frA H1.out) (aJ.out.drew.frA H1.out)).mono ?_
      rintro e w1 ⟨v1,u1,rfl,ho,hb⟩
      obtain ⟨A1,n1,c1,rfl⟩:=(ho.at_ 0 rfl).shape3
      obtain ⟨B1,m1,d1,rfl⟩:=(ho.at_ 1 rfl).shape3
      rw [HM.out] at ho ⊢
      have aD:=Hd (aJ.out.drew.rows ho hb)
      clear aJ ho hb
      obtain ⟨aU,aV,aW⟩:=aD.out.c3 2 rfl
      obtain ⟨aX,aY⟩:=aD.out.c2 1 rfl
      have aZ:=aD.out.cell 1 2 rfl rfl)
    |(go_at_call_of 50 (Value.agg #[Value.bool G.s,c,d])
      refine (ratMul_s G G c d c d _ (aD.out.frA H2.out) (aD.out.frA H2.out)).mono ?_
      rintro e w2 ⟨v2,u2,rfl,ho,hb⟩
      obtain ⟨A2,n2,c2,rfl⟩:=(ho.at_ 0 rfl).shape3
      obtain ⟨B2,m2,d2,rfl⟩:=(ho.at_ 1 rfl).shape3
      rw [HN.out] at ho ⊢
      have aE:=Hd (aD.out.rows ho hb)
      clear aD ho hb
      obtain ⟨a0,a2,a3⟩:=aE.out.c3 2 rfl
      obtain ⟨a4,a5⟩:=aE.out.c2 1 rfl
      have a6:=aE.out.cell 1 2 rfl rfl)
    |(go_at_call 40
      refine (ratAdd_s M N (.slice A1 n1 c1) (.slice B1 m1 d1) (.slice A2 n2 c2) (.slice B2 m2 d2) _ (aE.out.fr 1 0 rfl rfl rfl) (aE.out.fr 0 0 rfl rfl rfl)).mono ?_
      rintro e w3 ⟨v3,u3,rfl,ho,hb⟩
      obtain ⟨A3,n3,c3,rfl⟩:=(ho.at_ 0 rfl).shape3
      obtain ⟨B3,m3,d3,rfl⟩:=(ho.at_ 1 rfl).shape3
      rw [HT.out] at ho ⊢
      have aF:=Hd (aE.out.rows ho hb)
      clear aE ho hb
      obtain ⟨a7,a8,a9⟩:=aF.out.c3 2 rfl
      obtain ⟨bA,bB,bC⟩:=aF.out.c3 1 rfl
      obtain ⟨aG,aA,aH,aB⟩:=aF.out.g2 0 rfl
      have aI:=aF.out.cell 0 2 rfl rfl
      have aC:=aF.out.froz 0 2 rfl rfl))
 go_wp2
 have SR:=Hd (aF.out.setAll 0 [.bool T.s,(.slice A3 n3 c3),(.slice B3 m3 d3)] rfl rfl)
 obtain ⟨hr0,hr1,hr2⟩:=aF.out.c3 0 rfl
 exact bodyPost_ret (v:=.agg #[.bool T.s,(.slice A3 n3 c3),(.slice B3 m3 d3)]) (by simp [results,Tryz.results51,go_sem,hr0,hr1,hr2]) rfl (SR.out.retF 0 rfl)
structure PtA (w : World) (X Y : Fr) (x0 x1 y0 y1 : Value) : Prop where
 x : FrA w X x0 x1
 y : FrA w Y y0 y1
theorem PtA.below {w w' : World} {X Y : Fr} {x0 x1 y0 y1 : Value} (h : PtA w X Y x0 x1 y0 y1) (hb : Below w.heap.size w w') : PtA w' X Y x0 x1 y0 y1:=⟨h.x.below hb,h.y.below hb⟩
end Go.Proofs.YtodoiekbjjiocaaGreat
namespace Go.Proofs.YtodoiekbjjiocaaGreat
open Go.RowKit Nt Fr
set_option linter.unusedVariables false
set_option maxRecDepth 100000
set_option maxHeartbeats 4000000
structure PtI (w : World) (X Y : Fr) (x0 x1 y0 y1 : Value) : Prop where
 x : FrI w X x0 x1
 y : FrI w Y y0 y1
theorem PtA.i {w : World} {X Y : Fr} {x0 x1 y0 y1 : Value} (h : PtA w X Y x0 x1 y0 y1) : PtI w X Y x0 x1 y0 y1:=⟨h.x.i,h.y.i⟩
theorem PtI.below {w w' : World} {X Y : Fr} {x0 x1 y0 y1 : Value} (h : PtI w X Y x0 x1 y0 y1) (hb : Below w.heap.size w w') : PtI w' X Y x0 x1 y0 y1:=⟨h.x.below hb,h.y.below hb⟩
end Go.Proofs.YtodoiekbjjiocaaGreat
namespace Go.Proofs.YtodoiekbjjiocaaGreat
open Go.ChangeShapes Go.WideShapes Go.ChangeAt Go.RowKit Go.Joins Go.Deep
set_option linter.unusedVariables false
set_option maxRecDepth 100000
set_option maxHeartbeats 4000000
def RatT (P : Program) (t : TypeId) : Prop :=
 ∃ (e : TypeId) (F0 F1 f0 f1 : Field),P.underlying t = some (.struct #[F0,F1]) ∧ P.underlying F0.type = some (.struct #[f0,f1]) ∧ F0.offset = 0 ∧ F1.offset = 2 ∧ P.cellsOf F0.type = 2 ∧ P.cellsOf F1.type = 1 ∧ oneCellFields P #[f0,f1] = true ∧ P.cellsOf t = 3 ∧ P.underlying f0.type = some .bool ∧ P.underlying f1.type = some (.slice e) ∧ P.underlying F1.type = some (.slice e) ∧ P.underlying e = some (.int .i64) ∧ P.cellsOf e = 1
theorem ratT : RatT Tryz.prog 27 :=
 ⟨_,_,_,_,_,Tryz.underlying27,Tryz.underlying25,rfl,rfl,by kernel_rfl,by kernel_rfl,by kernel_rfl,by kernel_rfl,Tryz.underlying4,Tryz.underlying23,Tryz.underlying23,Tryz.underlying3,by kernel_rfl⟩
section
variable {H : Type} {enc : TypeId × Value → H} {P : Program} {w : World}
theorem rat_cells {t : TypeId} {fuel : Nat} {c0 c1 c2 : Value} {x : DataW H × List MemPlace} (hr : RatT P t) (h : DataW.trod enc P w 0 (fun _=>true) true fuel t [c0,c1,c2] = some x) : ∃ F : Fr,c0 = .bool F.s ∧ FrI w F c1 c2:=by
 obtain ⟨e,F0,F1,f0,f1,hs,hs2,ho0,ho1,hc0,hc1,hone,hC,h0,h1,h2,he,hc⟩:=hr
 obtain ⟨y0,y1,n,hx,_,g0,g1⟩:=trod_struct2 hs h
 have g0' : DataW.trod enc P w 0 (fun _=>true) true n F0.type [c0,c1] = some y0:=by simpa [Value.cells,ho0,hc0] using g0
 have g1' : DataW.trod enc P w 0 (fun _=>true) true n F1.type [c2] = some y1:=by simpa [Value.cells,ho1,hc1] using g1
 obtain ⟨z0,z1,m,hx2,_,q0,q1⟩:=trod_struct2 hs2 g0'
 obtain ⟨o0,k0⟩:=hone_of hone 0 f0 rfl
 obtain ⟨o1,k1⟩:=hone_of hone 1 f1 rfl
 have q0' : DataW.trod enc P w 0 (fun _=>true) true m f0.type [c0] = some z0:=by simpa [o0,k0] using q0
 have q1' : DataW.trod enc P w 0 (fun _=>true) true m f1.type [c1] = some z1:=by simpa [o1,k1] using q1
 obtain ⟨s,e0,_⟩:=DataW.trod_bool h0 q0'
 obtain ⟨a,l,c,e1⟩:=slice_form h1 q1'
 obtain ⟨a',l',c',e2⟩:=slice_form h2 g1'
 simp at e0 e1 e2
 subst e0 e1 e2
 obtain ⟨zs,hz⟩:=isInts_of h1 he hc (⟨m,by simpa [Value.cells] using q1'⟩ : DataW.Trod enc P w 0 (fun _=>true) true f1.type (.slice a l c) z1.1 z1.2)
 obtain ⟨zs',hz'⟩:=isInts_of h2 he hc (⟨n,by simpa [Value.cells] using g1'⟩ : DataW.Trod enc P w 0 (fun _=>true) true F1.type (.slice a' l' c') y1.1 y1.2)
 exact ⟨⟨s,zs,zs'⟩,rfl,⟨ArgI.of hz,ArgI.of hz'⟩⟩
theorem trod_struct5 {t : TypeId} {f0 f1 f2 f3 f4 : Field} {fuel : Nat} {cs : List Value} {x : DataW H × List MemPlace} (ht : P.underlying t = some (.struct #[f0,f1,f2,f3,f4])) (h : DataW.trod enc P w 0 (fun _=>true) true fuel t cs = some x) :
 ∃ y0 y1 y2 y3 y4 n,DataW.trod enc P w 0 (fun _=>true) true n f0.type ((cs.drop f0.offset).take (P.cellsOf f0.type)) = some y0 ∧ DataW.trod enc P w 0 (fun _=>true) true n f1.type ((cs.drop f1.offset).take (P.cellsOf f1.type)) = some y1 ∧ DataW.trod enc P w 0 (fun _=>true) true n f2.type ((cs.drop f2.offset).take (P.cellsOf f2.type)) = some y2 ∧ DataW.trod enc P w 0 (fun _=>true) true n f3.type ((cs.drop f3.offset).take (P.cellsOf f3.type)) = some y3 ∧ DataW.trod enc P w 0 (fun _=>true) true n f4.type ((cs.drop f4.offset).take (P.cellsOf f4.type)) = some y4:=by
 obtain ⟨xs,n,_,rfl,hl,hlen,hf⟩:=DataW.trod_struct ht h
 match xs,hlen with
 | [y0,y1,y2,y3,y4],_=>exact ⟨y0,y1,y2,y3,y4,n,by simpa using hf 0 f0 rfl,by simpa using hf 1 f1 rfl,by simpa using hf 2 f2 rfl,by simpa using hf 3 f3 rfl,by simpa using hf 4 f4 rfl⟩
def LinkT (P : Program) (t tr : TypeId) : Prop :=
 RatT P tr ∧ ∃ f0 f1 f2 f3 f4 : Field,P.underlying t = some (.struct #[f0,f1,f2,f3,f4]) ∧ (f0.offset = 0 ∧ f1.offset = 1 ∧ f2.offset = 2 ∧ f3.offset = 5 ∧ f4.offset = 8) ∧ (P.cellsOf f0.type = 1 ∧ P.cellsOf f1.type = 1 ∧ P.cellsOf tr = 3) ∧ (f2.type = tr ∧ f3.type = tr ∧ f4.type = tr) ∧ P.underlying f0.type = some (.int .i64) ∧ P.underlying f1.type = some (.int .i64) ∧ P.cellsOf t = 11
theorem link_cells {t tr : TypeId} {fuel : Nat} {c0 c1 c2 c3 c4 c5 c6 c7 c8 c9 c10 : Value} {x : DataW H × List MemPlace} (hr : LinkT P t tr) (h : DataW.trod enc P w 0 (fun _=>true) true fuel t [c0,c1,c2,c3,c4,c5,c6,c7,c8,c9,c10] = some x) :
 ∃ (A B : Int) (X Y Z : Fr),c0 = .int .i64 A ∧ c1 = .int .i64 B ∧ c2 = .bool X.s ∧ c5 = .bool Y.s ∧ c8 = .bool Z.s ∧ LkI w X Y Z c3 c4 c6 c7 c9 c10:=by
 obtain ⟨hr,f0,f1,f2,f3,f4,hs,⟨o0,o1,o2,o3,o4⟩,⟨k0,k1,k2⟩,⟨t2,t3,t4⟩,u0,u1,_⟩:=hr
 obtain ⟨y0,y1,y2,y3,y4,n,g0,g1,g2,g3,g4⟩:=trod_struct5 hs h
 rw [t2] at g2; rw [t3] at g3; rw [t4] at g4
 have g0' : DataW.trod enc P w 0 (fun _=>true) true n f0.type [c0] = some y0:=by simpa [o0,k0] using g0
 have g1' : DataW.trod enc P w 0 (fun _=>true) true n f1.type [c1] = some y1:=by simpa [o1,k1] using g1
 have g2' : DataW.trod enc P w 0 (fun _=>true) true n tr [c2,c3,c4] = some y2:=by simpa [o2,k2] using g2
 have g3' : DataW.trod enc P w 0 (fun _=>true) true n tr [c5,c6,c7] = some y3:=by simpa [o3,k2] using g3
 have g4' : DataW.trod enc P w 0 (fun _=>true) true n tr [c8,c9,c10] = some y4:=by simpa [o4,k2] using g4
 obtain ⟨A,e0,_⟩:=DataW.trod_int u0 g0'
 obtain ⟨B,e1,_⟩:=DataW.trod_int u1 g1'
 obtain ⟨X,ex,hX⟩:=rat_cells hr g2'
 obtain ⟨Y,ey,hY⟩:=rat_cells hr g3'
 obtain ⟨Z,ez,hZ⟩:=rat_cells hr g4'
 exact ⟨A,B,X,Y,Z,by simpa using e0,by simpa using e1,ex,ey,ez,⟨hX,hY,hZ⟩⟩
theorem list11 {l : List Value} (h : l.length = 11) : ∃ c0 c1 c2 c3 c4 c5 c6 c7 c8 c9 c10,l = [c0,c1,c2,c3,c4,c5,c6,c7,c8,c9,c10]:=by
 match l,h with
 | [c0,c1,c2,c3,c4,c5,c6,c7,c8,c9,c10],_=>exact ⟨c0,c1,c2,c3,c4,c5,c6,c7,c8,c9,c10,rfl⟩
end
theorem linkT : LinkT Tryz.prog 29 27 :=
 ⟨ratT,_,_,_,_,_,Tryz.underlying29,⟨rfl,rfl,rfl,rfl,rfl⟩,⟨by kernel_rfl,by kernel_rfl,by kernel_rfl⟩,⟨rfl,rfl,rfl⟩,Tryz.underlying3,Tryz.underlying3,by kernel_rfl⟩
end Go.Proofs.YtodoiekbjjiocaaGreat
