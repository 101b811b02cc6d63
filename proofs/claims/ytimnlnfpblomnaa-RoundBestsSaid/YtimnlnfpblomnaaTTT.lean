/- What the functions of the layer round come to: no rounding is better than the best one (RoundLeast). Conditions: none. -/
import Derived.Test.YtimnlnfpblomnaaTTK
import Derived.Test.YtimnlnfpblomnaaTRZ
noncomputable section
namespace Go.Xe.TRX
open Go Go.Xe Go.Proofs
open Nat renaming reduceLeDiff ->qA, reduceSub ->qB, reduceAdd ->qC, reduceEqDiff ->qD, reduceLT ->qE
open Int renaming reduceNegSucc ->qF, reduceEq ->qG
open Go.Xe.V renaming seq ->sA, block ->sB, scope ->sC, skip ->sD, close ->sE
open Go.Xe renaming pth ->P
open Go.Xe.Rnd
set_option maxRecDepth 100000
set_option maxHeartbeats 1600000
set_option linter.unusedSimpArgs false
theorem tabN_row (b : Int) : ∀ (C : List (List Int)) (q : Int) (k : Nat) (h1 : k<(tabN b C q).1.length) (h2 : k<C.length),((tabN b C q).1[k]).length=(C[k]).length
 | [],_,k,_,h2=>absurd h2 (Nat.not_lt_zero _)
 | row::C,q,0,_,_=>rowN_len b row _
 | row::C,q,k+1,h1,h2=>by
  have k2 : k<C.length:=by simpa using h2
  have k1 : k<(tabN b C q).1.length:=by rw[tabN_len];exact k2
  exact tabN_row b C q k k1 k2
end Go.Xe.TRX
-- MOD TR
namespace Go.Xe.TRX
open Go Go.Xe Go.Proofs
open Nat renaming reduceLeDiff ->qA, reduceSub ->qB, reduceAdd ->qC, reduceEqDiff ->qD, reduceLT ->qE
open Int renaming reduceNegSucc ->qF, reduceEq ->qG
open Go.Xe.V renaming seq ->sA, block ->sB, scope ->sC, skip ->sD, close ->sE
open Go.Xe renaming pth ->P
open Go.Xe.Rnd
set_option maxRecDepth 100000
set_option maxHeartbeats 1600000
set_option linter.unusedSimpArgs false
theorem rnds_rd {T : Tb} {N : List (List Int)} (h : N∈rnds T) {r k : Nat} (hr : r<T.C.length) (hk : k<cols T) : rd T.b ((N.getD r []).getD k 0) ((T.C.getD r []).getD k 0):=by
 obtain⟨⟨h1,h2⟩,h3⟩:=rnds_mem.1 h
 have hr' : r<N.length:=by omega
 refine (h3.1 r hr').1 k ?_
 rw[gdl hr',h2 _ (List.getElem_mem hr')];exact hk
theorem lo_hi {b n : Int} (hb : 2<=b) (hn : 0<=n) : lo b n<=hi b n:=by
 have h1:=lo_mul hb hn
 have h2:=lo_mul (b:=b) (n:=n+b-1) hb (by omega)
 unfold hi
 omega
end Go.Xe.TRX
namespace Go.Xe.Rnd
def ls (Z : List Nat) (p : Nat->Nat) (r : Nat) (d : Nat->Int) : Int:=sm (Z.map λz=>if p z=r then d z else 0)
section
variable {Z : List Nat} {p : Nat->Nat} {r : Nat} {d e : Nat->Int}
end
theorem first {σ a : Nat->Int} : ∀ {W : List Nat},W≠[]->(∀ z∈W,0<a z)->∃ w∈W,∀ z∈W,σ w*a z<=σ z*a w
 | [],h,_=>absurd rfl h
 | v::W,_,ha=>by
  by_cases h0 : W=[]
  ·subst h0
   refine⟨v,by simp,λz hz=>?_⟩
   rw[List.mem_singleton] at hz
   rw[hz];exact Int.le_refl _
  ·obtain⟨w,hw,hm⟩:=first h0 (λz hz=>ha z (by simp[hz]))
   have aw:=ha w (by simp[hw])
   have av:=ha v (by simp)
   by_cases hc : σ w*a v<=σ v*a w
   ·refine⟨w,by simp[hw],λz hz=>?_⟩
    rcases List.mem_cons.1 hz with rfl|hz
    ·exact hc
    ·exact hm z hz
   ·refine⟨v,by simp,λz hz=>?_⟩
    rcases List.mem_cons.1 hz with rfl|hz
    ·exact Int.le_refl _
    ·have h1:=hm z hz
     have az:=ha z (by simp[hz])
     refine Int.le_of_mul_le_mul_right (a:=a w) ?_ aw
     have h2 : σ v*a w<=σ w*a v:=by omega
     have h3 : σ v*a w*a z<=σ w*a v*a z:=Int.mul_le_mul_of_nonneg_right h2 (Int.le_of_lt az)
     have h4 : σ w*a z*a v<=σ z*a w*a v:=Int.mul_le_mul_of_nonneg_right h1 (Int.le_of_lt av)
     have e1 : σ v*a z*a w=σ v*a w*a z:=by rw[Int.mul_assoc,Int.mul_comm (a z),<- Int.mul_assoc]
     have e2 : σ w*a v*a z=σ w*a z*a v:=by rw[Int.mul_assoc,Int.mul_comm (a v),<- Int.mul_assoc]
     have e3 : σ z*a w*a v=σ z*a v*a w:=by rw[Int.mul_assoc,Int.mul_comm (a w),<- Int.mul_assoc]
     rw[e1,<- e3]
     rw[e2] at h3
     exact Int.le_trans h3 h4
end Go.Xe.Rnd
namespace Go.Xe.TRX
open Go Go.Xe Go.Proofs
open Go.Xe.Rnd
def sumR (w : Nat) (f : Nat->Int) : Int:=sm ((List.range w).map f)
theorem sumR_s (w : Nat) (f : Nat->Int) : sumR (w+1) f=sumR w f+f w:=by
 unfold sumR
 rw[List.range_succ,List.map_append,sm_app]
 show _+(f w+0)=_
 rw[Int.add_zero]
theorem pick (f : Nat->Int) (j : Nat) : ∀ w,sumR w (λk=>if k=j then f k else 0)=if j<w then f j else 0
 | 0=>rfl
 | w+1=>by
  rw[sumR_s,pick f j w]
  by_cases h : w=j
  ·subst h
   rw[if_neg (by omega),if_pos rfl,if_pos (by omega)];omega
  ·rw[if_neg h]
   by_cases h2 : j<w
   ·rw[if_pos h2,if_pos (by omega)];omega
   ·rw[if_neg h2,if_neg (by omega)];rfl
theorem lo_dvd {b n : Int} (hb : 2<=b) (hn : 0<=n) : b ∣ lo b n/\b ∣ hi b n/\lo b n<=n/\n<=hi b n/\(hi b n=lo b n\/hi b n=lo b n+b):=by
 have h1:=lo_mul hb hn
 have h2:=lo_mul (b:=b) (n:=n+b-1) hb (by omega)
 have d1 : b ∣ lo b n:=Int.dvd_of_emod_eq_zero h1.1
 have d2 : b ∣ hi b n:=by unfold hi;exact Int.dvd_of_emod_eq_zero h2.1
 have e : hi b n=lo b (n+b-1):=rfl
 refine⟨d1,d2,h1.2.1,by omega,?_⟩
 obtain⟨q,hq⟩:=Int.dvd_sub d2 d1
 have g1 : -b<hi b n-lo b n:=by omega
 have g2 : hi b n-lo b n<2*b:=by omega
 rw[hq] at g1 g2
 have q1 : -1<q:=by
  have : b * -1<b*q:=by omega
  exact Int.lt_of_mul_lt_mul_left this (by omega)
 have q2 : q<2:=by
  have : b*q<b*2:=by omega
  exact Int.lt_of_mul_lt_mul_left this (by omega)
 rcases (by omega : q=0\/q=1) with rfl|rfl
 ·left;omega
 ·right;omega
end Go.Xe.TRX
-- MOD TR
namespace Go.Xe.TRX
open Go Go.Xe Go.Proofs
open Nat renaming reduceLeDiff ->qA, reduceSub ->qB, reduceAdd ->qC, reduceEqDiff ->qD, reduceLT ->qE
open Int renaming reduceNegSucc ->qF, reduceEq ->qG
open Go.Xe.V renaming seq ->sA, block ->sB, scope ->sC, skip ->sD, close ->sE
open Go.Xe renaming pth ->P
open Go.Xe.Rnd
set_option maxRecDepth 100000
set_option maxHeartbeats 1600000
set_option linter.unusedSimpArgs false
end Go.Xe.TRX
-- MOD TR
namespace Go.Xe.TRX
open Go Go.Xe Go.Proofs
open Nat renaming reduceLeDiff ->qA, reduceSub ->qB, reduceAdd ->qC, reduceEqDiff ->qD, reduceLT ->qE
open Int renaming reduceNegSucc ->qF, reduceEq ->qG
open Go.Xe.V renaming seq ->sA, block ->sB, scope ->sC, skip ->sD, close ->sE
open Go.Xe renaming pth ->P
open Go.Xe.Rnd
set_option maxRecDepth 100000
set_option maxHeartbeats 1600000
set_option linter.unusedSimpArgs false
theorem rd_mul {b m x : Int} (hb : 2<=b) (hm : 0<=m) (hd : b ∣ m) (h : rd b x m) : x=m:=by
 obtain⟨q1,q2,q3,q4,q5⟩:=lo_dvd hb hm
 have e1 : lo b m=m:=by
  unfold lo
  rw[Int.tmod_eq_emod_of_nonneg hm,Int.emod_eq_zero_of_dvd hd,Int.sub_zero]
 have e2 : hi b m<=m+b-1:=by
  unfold hi
  exact (lo_mul (b:=b) (n:=m+b-1) hb (by omega)).2.1
 rcases h with rfl|rfl
 ·exact e1
 ·rcases q5 with q5|q5<;>omega
end Go.Xe.TRX
-- MOD TR
namespace Go.Xe.TRX
open Go Go.Xe Go.Proofs
open Nat renaming reduceLeDiff ->qA, reduceSub ->qB, reduceAdd ->qC, reduceEqDiff ->qD, reduceLT ->qE
open Int renaming reduceNegSucc ->qF, reduceEq ->qG
open Go.Xe.V renaming seq ->sA, block ->sB, scope ->sC, skip ->sD, close ->sE
open Go.Xe renaming pth ->P
open Go.Xe.Rnd
set_option maxRecDepth 100000
set_option maxHeartbeats 1600000
set_option linter.unusedSimpArgs false
theorem sort_eq {α : Type} {R : α->α->Prop} (hR : ∀ a b,R a b->¬ R b a) : ∀ {A B : List α},A.Pairwise R->B.Pairwise R->(∀ x,x∈A↔x∈B)->A=B
 | [],[],_,_,_=>rfl
 | [],b::B,_,_,h=>by have:=(h b).2 (by simp);simp at this
 | a::A,[],_,_,h=>by have:=(h a).1 (by simp);simp at this
 | a::A,b::B,hA,hB,h=>by
  rw[List.pairwise_cons] at hA hB
  have hir : ∀ x,¬ R x x:=λx hx=>hR x x hx hx
  have hab : a=b:=by
   rcases List.mem_cons.1 ((h a).1 (by simp)) with e|h1
   ·exact e
   ·rcases List.mem_cons.1 ((h b).2 (by simp)) with e|h2
    ·exact e.symm
    ·exact absurd (hA.1 b h2) (hR _ _ (hB.1 a h1))
  subst hab
  rw[sort_eq hR hA.2 hB.2 (λx=>?_)]
  have:=h x
  rw[List.mem_cons,List.mem_cons] at this
  constructor
  ·intro hx
   rcases this.1 (.inr hx) with e|e
   ·rw[e] at hx;exact absurd (hA.1 _ hx) (hir _)
   ·exact e
  ·intro hx
   rcases this.2 (.inr hx) with e|e
   ·rw[e] at hx;exact absurd (hB.1 _ hx) (hir _)
   ·exact e
def frR (b : Int) : List Int->Nat
 | []=>0
 | n::l=>(if 0<n.tmod b then 1 else 0)+frR b l
def frT (b : Int) : List (List Int)->Nat
 | []=>0
 | row::C=>frR b row+frT b C
theorem t2 {q : Int} (h : 0<=q) : q.tdiv 2*2+q.tmod 2=q/\0<=q.tmod 2/\q.tmod 2<=1/\0<=q.tdiv 2:=by
 rw[Int.tdiv_eq_ediv_of_nonneg h,Int.tmod_eq_emod_of_nonneg h];omega
theorem rowN_mono {b : Int} (hb : 2<=b) : ∀ (l : List Int) {q1 q2 : Int},0<=q1->q1<q2->(rowN b l q1).2<(rowN b l q2).2\/((rowN b l q1).2=(rowN b l q2).2/\lx (rowN b l q1).1 (rowN b l q2).1)
 | [],_,_,_,h=>.inl h
 | n::l,q1,q2,h0,h=>by
  have ih:=rowN_mono hb l h0 h
  have p1:=(rowN_q b l h0).1
  have p2:=(rowN_q b l (q:=q2) (by omega)).1
  obtain⟨a1,a2,a3,a4⟩:=t2 p1
  obtain⟨b1,b2,b3,b4⟩:=t2 p2
  show nN b n (rowN b l q1).2<nN b n (rowN b l q2).2\/(nN b n (rowN b l q1).2=nN b n (rowN b l q2).2/\lx (cN b n (rowN b l q1).2::(rowN b l q1).1) (cN b n (rowN b l q2).2::(rowN b l q2).1))
  rcases ih with ih|⟨e,ih⟩
  ·unfold nN cN
   by_cases hf : 0<n.tmod b
   ·simp only[if_pos hf]
    by_cases hq : (rowN b l q1).2.tdiv 2<(rowN b l q2).2.tdiv 2
    ·exact .inl hq
    ·right
     refine⟨by omega,.inl ?_⟩
     have e1 : (rowN b l q1).2.tmod 2=0:=by omega
     have e2 : (rowN b l q2).2.tmod 2=1:=by omega
     rw[e1,e2];omega
   ·simp only[if_neg hf]
    exact .inl ih
  ·right
   rw[e]
   exact⟨rfl,.inr ⟨rfl,ih⟩⟩
theorem tabN_mono {b : Int} (hb : 2<=b) : ∀ (C : List (List Int)) {q1 q2 : Int},0<=q1->q1<q2->(tabN b C q1).2<(tabN b C q2).2\/((tabN b C q1).2=(tabN b C q2).2/\Bf (tabN b C q1).1 (tabN b C q2).1)
 | [],_,_,_,h=>.inl h
 | row::C,q1,q2,h0,h=>by
  have ih:=tabN_mono hb C h0 h
  have p1:=(tabN_q b C h0).1
  show (rowN b row (tabN b C q1).2).2<(rowN b row (tabN b C q2).2).2\/((rowN b row (tabN b C q1).2).2=(rowN b row (tabN b C q2).2).2/\Bf ((rowN b row (tabN b C q1).2).1::(tabN b C q1).1) ((rowN b row (tabN b C q2).2).1::(tabN b C q2).1))
  rcases ih with ih|⟨e,ih⟩
  ·rcases rowN_mono hb row p1 ih with h1|⟨h1,h2⟩
   ·exact .inl h1
   ·exact .inr ⟨h1,.inl h2⟩
  ·right
   rw[e]
   exact⟨rfl,.inr ⟨rfl,ih⟩⟩
theorem rowN_all {b : Int} (hb : 2<=b) : ∀ (l x : List Int) (r : Int),0<=r->(∀ n∈l,0<=n)->x.length=l.length->(∀ j,j<l.length->rd b (x.getD j 0) (l.getD j 0))->∃ q,rowN b l q=(x,r)/\r*2 ^ frR b l<=q/\q<(r+1)*2 ^ frR b l
 | [],[],r,_,_,_,_=>⟨r,rfl,by simp[frR],by simp[frR];omega⟩
 | [],_::_,_,_,_,h,_=>by simp at h
 | _::_,[],_,_,_,h,_=>by simp at h
 | n::l,y::x,r,hr,hnn,hl,hrd=>by
  have h0 : rd b y n:=hrd 0 (by simp)
  have hn:=hnn n (by simp)
  have hpow : (0 : Int)<2 ^ frR b l:=Int.pow_pos (by decide)
  by_cases hf : 0<n.tmod b
  ·have hpos:=lo_mul hb hn
   obtain⟨β,hβ,hy⟩ : ∃ β : Int,(0<=β/\β<=1)/\y=lo b n+β*b:=by
    rcases h0 with e|e
    ·exact⟨0,by omega,by omega⟩
    ·obtain⟨_,_,q3,q4,q5⟩:=lo_dvd hb hn
     rcases q5 with q5|q5
     ·exact⟨0,by omega,by omega⟩
     ·exact⟨1,by omega,by omega⟩
   obtain⟨q,e1,e2,e3⟩:=rowN_all hb l x (2*r+β) (by omega) (λm hm=>hnn m (by simp[hm])) (by simpa using hl) (λj hj=>hrd (j+1) (by simpa using hj))
   have hm : (2*r+β).tmod 2=β:=by rw[Int.tmod_eq_emod_of_nonneg (by omega)];omega
   have hd : (2*r+β).tdiv 2=r:=by rw[Int.tdiv_eq_ediv_of_nonneg (by omega)];omega
   have ef : frR b (n::l)=frR b l+1:=by
    show (if 0<n.tmod b then 1 else 0)+frR b l=_
    rw[if_pos hf];omega
   refine⟨q,?_,?_,?_⟩
   ·show (cN b n (rowN b l q).2::(rowN b l q).1,nN b n (rowN b l q).2)=_
    rw[e1]
    unfold cN nN
    simp only[if_pos hf,hm,hd,hy]
   ·rw[ef,Int.pow_succ]
    have : (2*r)*2 ^ frR b l<=(2*r+β)*2 ^ frR b l:=Int.mul_le_mul_of_nonneg_right (by omega) (Int.le_of_lt hpow)
    have e : r*(2 ^ frR b l*2)=(2*r)*2 ^ frR b l:=by rw[Int.mul_comm (2 ^ frR b l) 2,<- Int.mul_assoc,Int.mul_comm r 2]
    rw[e];omega
   ·rw[ef,Int.pow_succ]
    have : (2*r+β+1)*2 ^ frR b l<=(2*(r+1))*2 ^ frR b l:=Int.mul_le_mul_of_nonneg_right (by omega) (Int.le_of_lt hpow)
    have e : (r+1)*(2 ^ frR b l*2)=(2*(r+1))*2 ^ frR b l:=by rw[Int.mul_comm (2 ^ frR b l) 2,<- Int.mul_assoc,Int.mul_comm (r+1) 2]
    rw[e];omega
  ·have ht : n.tmod b=0:=by
    have:=Int.tmod_nonneg b hn
    omega
   have hdv : b ∣ n:=Int.dvd_of_tmod_eq_zero ht
   have hy : y=n:=rd_mul hb hn hdv h0
   have hlo : lo b n=n:=by unfold lo;omega
   obtain⟨q,e1,e2,e3⟩:=rowN_all hb l x r hr (λm hm=>hnn m (by simp[hm])) (by simpa using hl) (λj hj=>hrd (j+1) (by simpa using hj))
   have ef : frR b (n::l)=frR b l:=by
    show (if 0<n.tmod b then 1 else 0)+frR b l=_
    rw[if_neg hf];omega
   refine⟨q,?_,by rw[ef];exact e2,by rw[ef];exact e3⟩
   show (cN b n (rowN b l q).2::(rowN b l q).1,nN b n (rowN b l q).2)=_
   rw[e1]
   unfold cN nN
   simp only[if_neg hf,hlo,hy]
theorem tabN_all {b : Int} (hb : 2<=b) : ∀ (C N : List (List Int)) (r : Int),0<=r->(∀ l∈C,∀ n∈l,0<=n)->N.length=C.length->(∀ i,i<C.length->(N.getD i []).length=(C.getD i []).length/\∀ j,j<(C.getD i []).length->rd b ((N.getD i []).getD j 0) ((C.getD i []).getD j 0))->∃ q,tabN b C q=(N,r)/\r*2 ^ frT b C<=q/\q<(r+1)*2 ^ frT b C
 | [],[],r,_,_,_,_=>⟨r,rfl,by simp[frT],by simp[frT];omega⟩
 | [],_::_,_,_,_,h,_=>by simp at h
 | _::_,[],_,_,_,h,_=>by simp at h
 | l::C,x::N,r,hr,hnn,hl,h=>by
  obtain⟨h1,h2⟩:=h 0 (by simp)
  obtain⟨q1,e1,e2,e3⟩:=rowN_all hb l x r hr (λn hn=>hnn l (by simp) n hn) h1 h2
  have hp1 : (0 : Int)<2 ^ frR b l:=Int.pow_pos (by decide)
  have hp2 : (0 : Int)<2 ^ frT b C:=Int.pow_pos (by decide)
  have hq1 : 0<=q1:=Int.le_trans (Int.mul_nonneg hr (Int.le_of_lt hp1)) e2
  obtain⟨q2,f1,f2,f3⟩:=tabN_all hb C N q1 hq1 (λl' hl'=>hnn l' (by simp[hl'])) (by simpa using hl) (λi hi=>h (i+1) (by simpa using hi))
  refine⟨q2,?_,?_,?_⟩
  ·show ((rowN b l (tabN b C q2).2).1::(tabN b C q2).1,(rowN b l (tabN b C q2).2).2)=_
   rw[f1]
   simp only[e1]
  ·show r*2 ^ (frR b l+frT b C)<=q2
   rw[Int.pow_add,<- Int.mul_assoc]
   exact Int.le_trans (Int.mul_le_mul_of_nonneg_right e2 (Int.le_of_lt hp2)) f2
  ·show q2<(r+1)*2 ^ (frR b l+frT b C)
   rw[Int.pow_add,<- Int.mul_assoc]
   have : (q1+1)*2 ^ frT b C<=(r+1)*2 ^ frR b l*2 ^ frT b C:=Int.mul_le_mul_of_nonneg_right (by omega) (Int.le_of_lt hp2)
   omega
theorem rowN_rest {b : Int} : ∀ (l : List Int) {q : Int},0<=q->(rowN b l q).2*2 ^ frR b l<=q
 | [],q,_=>by show q*2 ^ 0<=q;simp
 | n::l,q,h=>by
  have ih:=rowN_rest (b:=b) l h
  have p1:=(rowN_q b l h).1
  obtain⟨a1,a2,a3,a4⟩:=t2 p1
  have hpow : (0 : Int)<2 ^ frR b l:=Int.pow_pos (by decide)
  show nN b n (rowN b l q).2*2 ^ ((if 0<n.tmod b then 1 else 0)+frR b l)<=q
  unfold nN
  by_cases hf : 0<n.tmod b
  ·simp only[if_pos hf]
   rw[Nat.add_comm,Int.pow_succ,Int.mul_comm (2 ^ frR b l) 2,<- Int.mul_assoc]
   have : (rowN b l q).2.tdiv 2*2*2 ^ frR b l<=(rowN b l q).2*2 ^ frR b l:=Int.mul_le_mul_of_nonneg_right (by omega) (Int.le_of_lt hpow)
   omega
  ·simp only[if_neg hf,Nat.zero_add];exact ih
theorem tabN_rest {b : Int} : ∀ (C : List (List Int)) {q : Int},0<=q->(tabN b C q).2*2 ^ frT b C<=q
 | [],q,_=>by show q*2 ^ 0<=q;simp
 | row::C,q,h=>by
  have ih:=tabN_rest (b:=b) C h
  have p1:=(tabN_q b C h).1
  have h1:=rowN_rest (b:=b) row p1
  have hpow : (0 : Int)<2 ^ frT b C:=Int.pow_pos (by decide)
  show (rowN b row (tabN b C q).2).2*2 ^ (frR b row+frT b C)<=q
  rw[Int.pow_add,<- Int.mul_assoc]
  have:=Int.mul_le_mul_of_nonneg_right h1 (Int.le_of_lt hpow)
  omega
theorem rnds_bits {T : Tb} (hv : valid T) : rnds T=((List.range (2 ^ frT T.b T.C)).map λk : Nat=>(tabN T.b T.C (k : Int)).1).filter λN=>decide (isr T N):=by
 have hpw : ((2 ^ frT T.b T.C : Nat) : Int)=2 ^ frT T.b T.C:=by simp
 have hr0 : ∀ k : Nat,k<2 ^ frT T.b T.C->(tabN T.b T.C (k : Int)).2=0:=by
  intro k hk
  have h1:=tabN_rest (b:=T.b) T.C (q:=(k : Int)) (by omega)
  have h2:=(tabN_q T.b T.C (q:=(k : Int)) (by omega)).1
  apply Decidable.by_contra
  intro hne
  have hpow : (0 : Int)<2 ^ frT T.b T.C:=Int.pow_pos (by decide)
  have : 1*2 ^ frT T.b T.C<=(tabN T.b T.C (k : Int)).2*2 ^ frT T.b T.C:=Int.mul_le_mul_of_nonneg_right (by omega) (Int.le_of_lt hpow)
  rw[Int.one_mul] at this
  omega
 refine sort_eq (λa b=>Bf_ne) (fol_sort hv) (List.Pairwise.filter _ ?_) (λN=>?_)
 ·rw[List.pairwise_map]
  refine List.Pairwise.imp_of_mem ?_ List.pairwise_lt_range
  intro a c ha hc hac
  rcases tabN_mono hv.1.1 T.C (q1:=(a : Int)) (q2:=(c : Int)) (by omega) (by omega) with h|⟨_,h⟩
  ·rw[hr0 a (List.mem_range.1 ha),hr0 c (List.mem_range.1 hc)] at h
   omega
  ·exact h
 ·rw[List.mem_filter,List.mem_map,decide_eq_true_eq]
  constructor
  ·intro h
   obtain⟨⟨h1,h2⟩,h3⟩:=rnds_mem.1 h
   refine⟨?_,h3⟩
   have hCr : ∀ i,i<T.C.length->(T.C.getD i []).length=cols T:=λi hi=>by rw[gdl hi];exact (hv.2.2.1 _ (List.getElem_mem hi)).1
   obtain⟨q,e1,e2,e3⟩:=tabN_all hv.1.1 T.C N 0 (Int.le_refl _) (λl hl n hn=>((hv.2.2.1 l hl).2 n hn).1) h1 (λi hi=>by
    have hi' : i<N.length:=by omega
    have e:=hCr i hi
    refine⟨by rw[e,gdl hi'];exact h2 _ (List.getElem_mem hi'),λj hj=>?_⟩
    exact rnds_rd h hi (by rw[<- e];exact hj))
   rw[Int.zero_mul] at e2
   rw[Int.zero_add,Int.one_mul] at e3
   refine⟨q.toNat,List.mem_range.2 (by omega),?_⟩
   rw[Int.toNat_of_nonneg e2,e1]
  ·rintro⟨⟨k,hk,rfl⟩,h3⟩
   refine rnds_mem.2 ⟨⟨tabN_len _ _ _,λrow hr=>?_⟩,h3⟩
   obtain⟨i,hi,rfl⟩:=List.mem_iff_getElem.1 hr
   have hi2 : i<T.C.length:=by rw[<- tabN_len T.b T.C (k : Int)];exact hi
   rw[tabN_row T.b T.C (k : Int) i hi hi2]
   exact (hv.2.2.1 _ (List.getElem_mem hi2)).1
end Go.Xe.TRX
-- MOD TR
namespace Go.Xe.TRX
open Go Go.Xe Go.Proofs
open Nat renaming reduceLeDiff ->qA, reduceSub ->qB, reduceAdd ->qC, reduceEqDiff ->qD, reduceLT ->qE
open Int renaming reduceNegSucc ->qF, reduceEq ->qG
open Go.Xe.V renaming seq ->sA, block ->sB, scope ->sC, skip ->sD, close ->sE
open Go.Xe renaming pth ->P
open Go.Xe.Rnd
set_option maxRecDepth 100000
set_option maxHeartbeats 1600000
set_option linter.unusedSimpArgs false
def d55 : FCode:=(.seq (.run (.go (.box 25 (tm 0)) (P 1)::
.go (.move (.con (.int .i64 (.ofNat 0)))) (P 2)::
[])) (.seq (.run (.go (.move (.con (.int .i64 (.ofNat 0)))) (P 3)::
[])) (.seq (.seq (.run (.go (.move (.con (.int .i64 (.ofNat 0)))) (P 4)::
[])) (.block 0 (.loop (.seq (.seq (.run (.go (.move (tm 4)) (P 6)::
.go (.fieldAddr 1 (tm 1)) (P 7)::
.go (.load1 (tm 7)) (P 8)::
.go (.len 0 (tm 8)) (P 9)::
.go (.bin .lss 3 (tm 6) (tm 9)) (P 10)::
[])) (.cond (tm 10) .skip (.exit 0))) (.seq (.block 1 (.seq (.run (.go (.move (.con (.int .i64 (.ofNat 0)))) (P 5)::
[])) (.block 2 (.loop (.seq (.seq (.run (.go (.move (tm 5)) (P 13)::
.go (.fieldAddr 1 (tm 1)) (P 14)::
.go (.load1 (tm 14)) (P 15)::
.go (.move (tm 4)) (P 16)::
.go (.indexAddr none 1 (tm 15) (tm 16)) (P 17)::
.go (.load1 (tm 17)) (P 18)::
.go (.len 0 (tm 18)) (P 19)::
.go (.bin .lss 3 (tm 13) (tm 19)) (P 20)::
[])) (.cond (tm 20) .skip (.exit 2))) (.seq (.block 3 (.seq (.draw 12 (.go (.fieldAddr 1 (tm 1)) (P 23)::
.go (.load1 (tm 23)) (P 24)::
.go (.move (tm 4)) (P 25)::
.go (.indexAddr none 1 (tm 24) (tm 25)) (P 26)::
.go (.load1 (tm 26)) (P 27)::
.go (.move (tm 5)) (P 28)::
.go (.indexAddr none 1 (tm 27) (tm 28)) (P 29)::
.go (.load1 (tm 29)) (P 30)::
.go (.fieldAddr 0 (tm 1)) (P 31)::
.go (.load1 (tm 31)) (P 32)::
.go (.bin .rem 3 (tm 30) (tm 32)) (P 33)::
.go (.bin .gtr 3 (tm 33) (.con (.int .i64 (.ofNat 0)))) (P 34)::
[]) [.ok,.ok,.ok,.ok,.ok,.ok,.ok,.ok,.ok,.ok,.ok,.ok]) (.cond (tm 34) (.run (.go (.move (tm 3)) (P 35)::
.go (.bin .add 3 (tm 35) (.con (.int .i64 (.ofNat 1)))) (P 36)::
.go (.move (tm 36)) (P 3)::
[])) .skip))) (.run (.go (.move (tm 5)) (P 21)::
.go (.bin .add 3 (tm 21) (.con (.int .i64 (.ofNat 1)))) (P 22)::
.go (.move (tm 22)) (P 5)::
[])))))))) (.run (.go (.move (tm 4)) (P 11)::
.go (.bin .add 3 (tm 11) (.con (.int .i64 (.ofNat 1)))) (P 12)::
.go (.move (tm 12)) (P 4)::
[]))))))) (.seq (.run (.go (.move (tm 3)) (P 37)::
.go (.move (tm 37)) (P 2)::
[])) .ret))))
theorem de55 : @compF Try.prog (Gl.none Try.prog) Try.f55 1=.mk d55 (mkTT 38) [(P 0)] [.tmp (P 2)]:=by kernel_rfl
theorem dg55 : Try.prog.funcs[55]?=some Try.f55:=Try.func55
theorem do55 : okF Try.prog Try.f55=true:=by kernel_rfl
def d28 : FCode:=(.seq (.run (.go (.box 25 (tm 0)) (P 1)::
.go (.move (.con (.bool false))) (P 2)::
[])) (.seq (.run (.go (.loadN 3 (tm 1)) (P 3)::
.go (.call (.con (.func (.func 23) ⟨[]⟩ ⟨[]⟩)) [tm 3]) (P 4)::
.go (.bin .neq 29 (tm 4) (.con (.int .i64 (.ofNat 0)))) (P 5)::
.go (.move (tm 5)) (P 6)::
.gd (P 6) false (.loadN 3 (tm 1)) (P 7)::
.gd (P 6) false (.call (.con (.func (.func 55) ⟨[]⟩ ⟨[]⟩)) [tm 7]) (P 8)::
.gd (P 6) false (.bin .leq 3 (tm 8) (.con (.int .i64 (.ofNat 11)))) (P 9)::
.go (.pick (tm 6) (.con (.bool true)) (tm 9)) (P 10)::
.go (.move (tm 10)) (P 2)::
[])) .ret))
theorem de28 : @compF Try.prog (Gl.none Try.prog) Try.f28 1=.mk d28 (mkTT 11) [(P 0)] [.tmp (P 2)]:=by kernel_rfl
theorem dg28 : Try.prog.funcs[28]?=some Try.f28:=Try.func28
theorem do28 : okF Try.prog Try.f28=true:=by kernel_rfl
theorem frR_app (b : Int) : ∀ (l r : List Int),frR b (l++r)=frR b l+frR b r
 | [],r=>(Nat.zero_add _).symm
 | n::l,r=>by
  show _+frR b (l++r)=_+frR b l+frR b r
  rw[frR_app b l r];omega
theorem frT_app (b : Int) : ∀ (C D : List (List Int)),frT b (C++D)=frT b C+frT b D
 | [],r=>(Nat.zero_add _).symm
 | n::l,r=>by
  show _+frT b (l++r)=_+frT b l+frT b r
  rw[frT_app b l r];omega
theorem frR_take {b : Int} {l : List Int} {k : Nat} (h : k<l.length) : frR b (l.take (k+1))=frR b (l.take k)+(if 0<l[k].tmod b then 1 else 0):=by
 rw[tk1 h,frR_app];rfl
theorem frT_take {b : Int} {C : List (List Int)} {k : Nat} (h : k<C.length) : frT b (C.take (k+1))=frT b (C.take k)+frR b C[k]:=by
 rw[tk1n h,frT_app];rfl
theorem frR_le (b : Int) : ∀ l : List Int,frR b l<=l.length
 | []=>Nat.le_refl _
 | n::l=>by
  have:=frR_le b l
  show (if 0<n.tmod b then 1 else 0)+frR b l<=l.length+1
  split<;>omega
theorem frT_le {b : Int} : ∀ {C : List (List Int)},(∀ l∈C,l.length<=4)->frT b C<=C.length*4
 | [],_=>Nat.le_refl _
 | l::C,h=>by
  have h1:=frT_le (b:=b) (C:=C) (λx hx=>h x (by simp[hx]))
  have h2:=frR_le b l
  have h3:=h l (by simp)
  show frR b l+frT b C<=(C.length+1)*4
  omega
theorem f55_ok {H : Heap} {c f : Value} {T : Tb} (h : TV H c f T) (hf : fits T) (hv : valid T) : Gives Try.prog 55 [.agg ⟨[I T.b,c,f]⟩] H (I (frT T.b T.C)):=by
 have hcl : ∀ X,ylen 0 X c=some (I T.C.length):=h.c.len
 have hC5:=hf.1
 have hb:=hv.1
 refine F.entryL rfl dg55 do55 de55 rfl (by kernel_rfl) ?_
 simp only[sets]
 refine V.re [(0,.agg ⟨[I T.b,c,f]⟩)] (N:=38) zE zY ?_
 intro t hF hA
 simp only[Kn,and_true] at hA
 refine zS ?_
 refine V.l0 ?_
 refine V.heap (λX=>Grow H X/\Bx X H.next [I T.b,c,f] 25) ⟨?_,?_⟩ ?_
 ·exact zW
 ·exact zB
 rintro H1 ⟨g1,b1⟩
 refine zS ?_
 refine V.l0 ?_
 refine zS ?_
 refine V.l0 ?_
 refine zS ?_
 refine V.loop (λz t m X=>∃ (k : Nat),k<=T.C.length/\z=T.C.length-k/\m=[]/\X=H1/\Full 38 t/\Kn [(1,PT H.next),(3,I (frT T.b (T.C.take k))),(4,I k)] t) T.C.length ?_ ?_
 ·exact⟨0,by omega,by omega,rfl,rfl,zF,zK⟩
 clear hF hA
 rintro z t m X ⟨k,hk,rfl,rfl,hX,hF,hA⟩
 obtain rfl : H1=X:=hX.symm
 simp only[Kn,and_true] at hA
 refine zS ?_
 have zf:=aI b1.2<|@hcl
 refine V.lz ?_
 refine zS ?_
 refine V.condP zP (λhlt=>?_) (λhlt=>?_)
 ·have hk' : k<T.C.length:=by omega
  obtain⟨p,u,hp,hu⟩:=h.c.at ri hk'
  have hpk:=hp .i64
  obtain⟨hu1,hu2⟩:=hu H1 g1
  have hul:=hu2.len
  have hrow:=hv.2.2.1 _ (List.getElem_mem hk')
  have hrow4:=hf.2.2 _ (List.getElem_mem hk')
  have hfk:=frT_le (b:=T.b) (C:=T.C.take k) (λl hl=>hf.2.2 l (List.mem_of_mem_take hl))
  have htl : (T.C.take k).length=k:=by rw[List.length_take];omega
  rw[htl] at hfk
  obtain⟨l,hl⟩ : ∃ l,l=T.C[k]:=⟨_,rfl⟩
  have hft:=frT_take (b:=T.b) hk'
  rw[<- hl] at hul hrow hrow4 hu2 hft
  refine zS ?_
  refine V.l0 ?_
  refine zS ?_
  refine V.loop (λz t m X=>∃ (j : Nat),j<=l.length/\z=l.length-j/\m=[]/\X=H1/\Full 38 t/\Kn [(1,PT H.next),(3,I (frT T.b (T.C.take k)+frR T.b (l.take j) : Nat)),(4,I k),(5,I j)] t) l.length ?_ ?_
  ·exact⟨0,by omega,by omega,rfl,rfl,zF,zK⟩
  clear hF hA
  rintro z t m X ⟨j,hj,rfl,rfl,hX,hF,hA⟩
  obtain rfl : H1=X:=hX.symm
  simp only[Kn,and_true] at hA
  refine zS ?_
  have zf:=aI b1.2<|aI @hpk<|aI @hu1<|@hul
  refine V.lz ?_
  refine zS ?_
  refine V.condP zP (λhlj=>?_) (λhlj=>?_)
  ·have hj' : j<l.length:=by omega
   obtain⟨w,hw,hww⟩:=hu2.at hj'
   have hw1:=hww H1 (.refl _)
   have hcb:=hrow.2 _ (List.getElem_mem hj')
   have htb:=tmb (a:=l[j]) (b:=T.b) hcb.1 (by omega)
   have hfr:=frR_take (b:=T.b) hj'
   have hfl:=frR_le T.b (l.take j)
   have hll : (l.take j).length=j:=by rw[List.length_take];omega
   refine zS ?_
   have zf:=aI b1.2<|aI @hpk<|aI @hu1<|aI @hw<|@hw1
   refine V.dz ?_ ?_ rfl ?_
   ·exact zM
   ·simp only[dcAll,dcOk,wantD,List.cons_append,List.nil_append,true_and,and_true]
   refine zS ?_
   refine V.condP zP (λhpos=>?_) (λhpos=>?_)
   ·rw[if_pos (by omega)] at hfr
    have e1 : ((frT T.b (T.C.take k)+frR T.b (l.take j) : Nat) : Int)+1=((frT T.b (T.C.take k)+frR T.b (l.take (j+1)) : Nat) : Int):=by omega
    refine zS ?_
    have zf:=@e1
    refine V.lz ?_
    refine zS ?_
    refine V.l0 ?_
    refine V.nil (Or.inl ⟨rfl,l.length-(j+1),by omega,?_⟩)
    exact⟨j+1,hj',rfl,rfl,rfl,zF,zK⟩
   ·rw[if_neg (by omega)] at hfr
    have hfr' : frR T.b (l.take (j+1))=frR T.b (l.take j):=hfr
    rw[<- hfr'] at hA
    refine zS ?_
    refine V.l0 ?_
    refine V.nil (Or.inl ⟨rfl,l.length-(j+1),by omega,?_⟩)
    exact⟨j+1,hj',rfl,rfl,rfl,zF,zK⟩
  ·obtain rfl : j=l.length:=by omega
   rw[List.take_length,<- hft] at hA
   refine V.exit ?_
   refine zX ?_
   refine V.nil (Or.inr ⟨by simp,?_⟩)
   refine zX ?_
   refine zS ?_
   refine V.l0 ?_
   refine V.nil (Or.inl ⟨rfl,T.C.length-(k+1),by omega,?_⟩)
   exact⟨k+1,hk',rfl,rfl,rfl,zF,zK⟩
 ·obtain rfl : k=T.C.length:=by omega
  rw[List.take_length] at hA
  refine V.exit ?_
  refine zX ?_
  refine V.nil (Or.inr ⟨by simp,?_⟩)
  refine zX ?_
  refine zS ?_
  refine V.l0 ?_
  refine zS ?_
  refine V.ret (V.rets rfl (Lv.retG (by simp +contextual (disch:=first|omega|simp only[nx];omega) only[D1,cells_alloc_at,cells_alloc_ne,cells_set_at,cells_set_ne,yres,yres1,yresL,qA,qB,qC,D5,hF,hA,↓reduceIte,qD,qE];rfl) ?_ ?_))
  ·exact g1
  ·rfl
theorem f28_ok {H : Heap} {c f : Value} {T : Tb} (h : TV H c f T) (hs : sh T) : Gives Try.prog 28 [.agg ⟨[I T.b,c,f]⟩] H (.bool (decide (flt T≠0\/frT T.b T.C<=11))):=by
 refine F.entryL rfl dg28 do28 de28 rfl (by kernel_rfl) ?_
 simp only[sets]
 refine V.re [(0,.agg ⟨[I T.b,c,f]⟩)] (N:=11) zE zY ?_
 intro t hF hA
 simp only[Kn,and_true] at hA
 refine zS ?_
 refine V.l0 ?_
 refine V.heap (λX=>Grow H X/\Bx X H.next [I T.b,c,f] 25) ⟨?_,?_⟩ ?_
 ·exact zW
 ·exact zB
 rintro H1 ⟨g1,b1⟩
 refine zS ?_
 refine V.run ?_
 have zf:=b1.2
 refine VI.sz 1 ?_
 simp only[ds]
 refine VI.callA rfl (f23_ok (h.grow g1) hs) zA (λH2 g2=>?_)
 have b2:=b1.grow g2
 have g12:=g1.trans g2
 by_cases h0 : flt T=0
 ·obtain⟨hf,hv⟩:=flt_0.1 h0
  rw[h0]
  have zf:=b2.2
  refine VI.sz 3 ?_
  simp only[ds]
  refine VI.callAT zG rfl (f55_ok (h.grow g12) hf hv) zA (λH3 g3=>?_)
  refine VI.l0 ?_
  refine zS ?_
  refine V.ret (V.rets rfl (Lv.retG (by simp +contextual (disch:=first|omega|simp only[nx];omega) only[D1,cells_alloc_at,cells_alloc_ne,cells_set_at,cells_set_ne,yres,yres1,yresL,qA,qB,qC,D5,hF,hA,↓reduceIte,qD,qE];rfl) ?_ ?_))
  ·exact g12.trans g3
  ·congr 1
   rw[decide_eq_decide]
   constructor
   ·intro hh
    simp at hh ⊢
    omega
   ·intro hh
    simp at hh ⊢
    omega
 ·have zf:=aI b2.2<|@h0
  refine VI.sz 3 ?_
  simp only[ds]
  refine VI.gdF zG ?_
  refine VI.l0 ?_
  refine zS ?_
  refine V.ret (V.rets rfl (Lv.retG (by simp +contextual (disch:=first|omega|simp only[nx];omega) only[D1,cells_alloc_at,cells_alloc_ne,cells_set_at,cells_set_ne,yres,yres1,yresL,qA,qB,qC,D5,hF,hA,↓reduceIte,qD,qE];rfl) ?_ ?_))
  ·exact g12
  ·congr 1
   exact (decide_eq_true (.inl h0)).symm
end Go.Xe.TRX
end
