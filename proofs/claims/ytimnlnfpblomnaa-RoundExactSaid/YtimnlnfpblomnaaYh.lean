/- A table without fixes has a rounding. Conditions: none. -/
import Derived.Test.YtimnlnfpblomnaaRY
import Derived.Test.YtimnlnfpblomnaaZl
import Derived.WideShapes
import Derived.ChangeSame
import Derived.Below
namespace Go.Xe.TRX
open Go Go.Xe Go.Proofs
open Go.Xe.Rnd
def sumR (w : Nat) (f : Nat→Int) : Int:=sm ((List.range w).map f)
theorem sumR_s (w : Nat) (f : Nat→Int) : sumR (w+1) f=sumR w f+f w:=by
 unfold sumR
 rw[List.range_succ,List.map_append,sm_app]
 show _+(f w+0)=_
 rw[Int.add_zero]
theorem sumR_congr {f g : Nat→Int} : ∀ {w : Nat},(∀ j,j<w→f j=g j)→sumR w f=sumR w g
 | 0,_=>rfl
 | w+1,h=>by rw[sumR_s,sumR_s,sumR_congr (fun j hj=>h j (by omega)),h w (by omega)]
theorem sumR_neg (f : Nat→Int) : ∀ w,sumR w (fun j=>-f j)=-sumR w f
 | 0=>rfl
 | w+1=>by rw[sumR_s,sumR_s,sumR_neg f w];omega
theorem sumR_add (f g : Nat→Int) : ∀ w,sumR w (fun j=>f j+g j)=sumR w f+sumR w g
 | 0=>rfl
 | w+1=>by rw[sumR_s,sumR_s,sumR_s,sumR_add f g w];omega
theorem sumR_zero : ∀ w,sumR w (fun _=>0)=0
 | 0=>rfl
 | w+1=>by rw[sumR_s,sumR_zero w];rfl
theorem sumR_swap (a : Nat→Nat→Int) (m : Nat) : ∀ n,sumR n (fun i=>sumR m (a i))=sumR m (fun j=>sumR n (fun i=>a i j))
 | 0=>(sumR_zero m).symm
 | n+1=>by
  rw[sumR_s,sumR_swap a m n]
  have : sumR m (fun j=>sumR (n+1) (fun i=>a i j))=sumR m (fun j=>sumR n (fun i=>a i j)+a n j):=sumR_congr (fun j _=>sumR_s _ _)
  rw[this,sumR_add]
theorem sm_R : ∀ (l : List Int),sm l=sumR l.length (fun j=>l.getD j 0)
 | []=>rfl
 | x::l=>by
  have h : ∀ w,sumR (w+1) (fun j=>(x::l).getD j 0)=x+sumR w (fun j=>l.getD j 0):=by
   intro w
   induction w with
   | zero=>
    rw[sumR_s]
    show 0+x=x+0
    omega
   | succ w ih=>
    rw[sumR_s,ih,sumR_s]
    show x+sumR w _+l.getD w 0=_
    omega
  show x+sm l=sumR (l.length+1) _
  rw[h,sm_R l]
theorem sm_map (f : List Int→Int) (C : List (List Int)) : sm (C.map f)=sumR C.length (fun i=>f (C.getD i [])):=by
 rw[sm_R,List.length_map]
 refine sumR_congr (fun j hj=>?_)
 rw[List.getD_eq_getElem?_getD,List.getElem?_eq_getElem (by rw[List.length_map];exact hj),List.getElem_map,gdl hj]
 rfl
theorem ls_app (p : Nat→Nat) (r : Nat) (d : Nat→Int) (A B : List Nat) : ls (A++B) p r d=ls A p r d+ls B p r d:=by
 unfold ls
 rw[List.map_append,sm_app]
theorem rng_add (a b : Nat) : List.range (a+b)=List.range a++(List.range b).map (a+·):=by
 apply List.ext_getElem
 ·simp
 ·intro i h1 h2
  rw[List.getElem_append]
  split
  ·simp
  ·rename_i h
   simp at h ⊢
   omega
theorem blk {P w j : Nat} (hj : j<w) : (P*w+j)/w=P∧(P*w+j)%w=j:=by
 have hw : 0<w:=by omega
 constructor
 ·rw[Nat.mul_comm,Nat.mul_add_div hw,Nat.div_eq_of_lt hj,Nat.add_zero]
 ·rw[Nat.mul_comm,Nat.mul_add_mod,Nat.mod_eq_of_lt hj]
theorem ls_rows (A : Nat→Nat→Int) {w : Nat} (i : Nat) : ∀ P,ls (List.range (P*w)) (fun k=>k/w) i (fun k=>A (k/w) (k%w))=if i<P then sumR w (A i) else 0
 | 0=>by simp[ls,sm]
 | P+1=>by
  rw[Nat.succ_mul,rng_add,ls_app,ls_rows A i P]
  have e : ls ((List.range w).map (P*w+·)) (fun k=>k/w) i (fun k=>A (k/w) (k%w))=if i=P then sumR w (A P) else 0:=by
   unfold ls
   rw[List.map_map]
   have e1 : sm ((List.range w).map ((fun z=>if z/w=i then A (z/w) (z%w) else 0) ∘ fun x=>P*w+x))=sumR w (fun j=>if i=P then A P j else 0):=by
    show sumR w _=_
    refine sumR_congr (fun j hj=>?_)
    obtain⟨b1,b2⟩:=blk (P:=P) hj
    simp only[Function.comp,b1,b2]
    by_cases h : i=P
    ·rw[if_pos h.symm,if_pos h]
    ·rw[if_neg (fun e=>h e.symm),if_neg h]
   rw[e1]
   by_cases h : i=P
   ·simp only[if_pos h]
   ·simp only[if_neg h];exact sumR_zero w
  rw[e]
  by_cases h : i=P
  ·subst h
   rw[if_neg (by omega),if_pos rfl,if_pos (by omega)];omega
  ·rw[if_neg h]
   by_cases h2 : i<P
   ·rw[if_pos h2,if_pos (by omega)];omega
   ·rw[if_neg h2,if_neg (by omega)];rfl
theorem pick (f : Nat→Int) (j : Nat) : ∀ w,sumR w (fun k=>if k=j then f k else 0)=if j<w then f j else 0
 | 0=>rfl
 | w+1=>by
  rw[sumR_s,pick f j w]
  by_cases h : w=j
  ·subst h
   rw[if_neg (by omega),if_pos rfl,if_pos (by omega)];omega
  ·rw[if_neg h]
   by_cases h2 : j<w
   ·rw[if_pos h2,if_pos (by omega)];omega
   ·rw[if_neg h2,if_neg (by omega)];rfl
theorem ls_cols (A : Nat→Nat→Int) {w : Nat} (j : Nat) : ∀ P,ls (List.range (P*w)) (fun k=>k%w) j (fun k=>A (k/w) (k%w))=if j<w then sumR P (fun i=>A i j) else 0
 | 0=>by
  rw[Nat.zero_mul]
  show (0 : Int)=_
  split<;>rfl
 | P+1=>by
  rw[Nat.succ_mul,rng_add,ls_app,ls_cols A j P]
  have e : ls ((List.range w).map (P*w+·)) (fun k=>k%w) j (fun k=>A (k/w) (k%w))=if j<w then A P j else 0:=by
   unfold ls
   rw[List.map_map,← pick (fun k=>A P k) j w]
   show sumR w _=_
   refine sumR_congr (fun k hk=>?_)
   obtain⟨b1,b2⟩:=blk (P:=P) hk
   simp only[Function.comp,b1,b2]
  rw[e]
  split
  ·rw[sumR_s]
  ·rfl
theorem lo_dvd {b n : Int} (hb : 2≤b) (hn : 0≤n) : b ∣ lo b n∧b ∣ hi b n∧lo b n≤n∧n≤hi b n∧(hi b n=lo b n∨hi b n=lo b n+b):=by
 have h1:=lo_mul hb hn
 have h2:=lo_mul (b:=b) (n:=n+b-1) hb (by omega)
 have d1 : b ∣ lo b n:=Int.dvd_of_emod_eq_zero h1.1
 have d2 : b ∣ hi b n:=by unfold hi;exact Int.dvd_of_emod_eq_zero h2.1
 have e : hi b n=lo b (n+b-1):=rfl
 refine⟨d1,d2,h1.2.1,by omega,?_⟩
 obtain⟨q,hq⟩:=Int.dvd_sub d2 d1
 have g1 : -b<hi b n-lo b n:=by omega
 have g2 : hi b n-lo b n<2*b:=by omega
 rw[hq] at g1 g2
 have q1 : -1<q:=by
  have : b * -1<b*q:=by omega
  exact Int.lt_of_mul_lt_mul_left this (by omega)
 have q2 : q<2:=by
  have : b*q<b*2:=by omega
  exact Int.lt_of_mul_lt_mul_left this (by omega)
 rcases (by omega : q=0∨q=1) with rfl|rfl
 ·left;omega
 ·right;omega
theorem rnds_some {T : Tb} (hf : fits T) (hv : valid T) (hF : T.F=[]) : rnds T≠[]:=by
 obtain⟨n,hn⟩ : ∃ n,n=T.C.length:=⟨_,rfl⟩
 obtain⟨m,hm⟩ : ∃ m,m=cols T:=⟨_,rfl⟩
 obtain⟨a,ha⟩ : ∃ a : Nat→Nat→Int,a=fun i j=>(T.C.getD i []).getD j 0:=⟨_,rfl⟩
 have hb:=hv.1
 have ann : ∀ i j,0≤a i j:=fun i j=>by rw[ha];exact cell_nn hv i j
 have snn : ∀ (f : Nat→Int) w,(∀ j,0≤f j)→0≤sumR w f:=by
  intro f w h
  induction w with
  | zero=>exact Int.le_refl _
  | succ w ih=>rw[sumR_s];have:=h w;omega
 obtain⟨R,hR⟩ : ∃ R : Nat→Int,R=fun i=>sumR m (a i):=⟨_,rfl⟩
 obtain⟨Cc,hCc⟩ : ∃ Cc : Nat→Int,Cc=fun j=>sumR n (fun i=>a i j):=⟨_,rfl⟩
 obtain⟨tot,htot⟩ : ∃ tot,tot=sumR n R:=⟨_,rfl⟩
 have htot2 : tot=sumR m Cc:=by rw[htot,hR,hCc];exact sumR_swap a m n
 have Rnn : ∀ i,0≤R i:=fun i=>by rw[hR];exact snn _ _ (ann i)
 have Cnn : ∀ j,0≤Cc j:=fun j=>by rw[hCc];exact snn _ _ (fun i=>ann i j)
 have tnn : 0≤tot:=by rw[htot];exact snn _ _ Rnn
 obtain⟨A,hA⟩ : ∃ A : Nat→Nat→Int,A=fun i j=>if i<n then (if j<m then a i j else -R i) else (if j<m then -Cc j else tot):=⟨_,rfl⟩
 obtain⟨L,hL⟩ : ∃ L : Nat→Nat→Int,L=fun i j=>if i<n then (if j<m then lo T.b (a i j) else -hi T.b (R i)) else (if j<m then -hi T.b (Cc j) else lo T.b tot):=⟨_,rfl⟩
 obtain⟨U,hU⟩ : ∃ U : Nat→Nat→Int,U=fun i j=>if i<n then (if j<m then hi T.b (a i j) else -lo T.b (R i)) else (if j<m then -lo T.b (Cc j) else hi T.b tot):=⟨_,rfl⟩
 have hAll : ∀ i j,T.b ∣ L i j∧(U i j=L i j∨U i j=L i j+T.b)∧L i j≤A i j∧A i j≤U i j:=by
  intro i j
  rw[hL,hU,hA]
  simp only
  by_cases h1 : i<n
  ·by_cases h2 : j<m
   ·simp only[if_pos h1,if_pos h2]
    obtain⟨q1,q2,q3,q4,q5⟩:=lo_dvd hb.1 (ann i j)
    exact⟨q1,q5,q3,q4⟩
   ·simp only[if_pos h1,if_neg h2]
    obtain⟨q1,q2,q3,q4,q5⟩:=lo_dvd hb.1 (Rnn i)
    exact⟨Int.dvd_neg.2 q2,by omega,by omega,by omega⟩
  ·by_cases h2 : j<m
   ·simp only[if_neg h1,if_pos h2]
    obtain⟨q1,q2,q3,q4,q5⟩:=lo_dvd hb.1 (Cnn j)
    exact⟨Int.dvd_neg.2 q2,by omega,by omega,by omega⟩
   ·simp only[if_neg h1,if_neg h2]
    obtain⟨q1,q2,q3,q4,q5⟩:=lo_dvd hb.1 tnn
    exact⟨q1,q5,q3,q4⟩
 have hrow : ∀ i,i<n+1→sumR (m+1) (A i)=0:=by
  intro i hi
  rw[sumR_s]
  by_cases h1 : i<n
  ·have e1 : sumR m (A i)=R i:=by
    rw[hR]
    refine sumR_congr (fun j hj=>?_)
    rw[hA];simp only[if_pos h1,if_pos hj]
   have e2 : A i m=-R i:=by rw[hA];simp only[if_pos h1,if_neg (Nat.lt_irrefl m)]
   omega
  ·have e1 : sumR m (A i)=-sumR m Cc:=by
    rw[← sumR_neg]
    refine sumR_congr (fun j hj=>?_)
    rw[hA];simp only[if_neg h1,if_pos hj]
   have e2 : A i m=tot:=by rw[hA];simp only[if_neg h1,if_neg (Nat.lt_irrefl m)]
   omega
 have hcol : ∀ j,j<m+1→sumR (n+1) (fun i=>A i j)=0:=by
  intro j hj
  rw[sumR_s]
  by_cases h1 : j<m
  ·have e1 : sumR n (fun i=>A i j)=Cc j:=by
    rw[hCc]
    refine sumR_congr (fun i hi=>?_)
    rw[hA];simp only[if_pos h1,if_pos hi]
   have e2 : A n j=-Cc j:=by rw[hA];simp only[if_pos h1,if_neg (Nat.lt_irrefl n)]
   omega
  ·have e1 : sumR n (fun i=>A i j)=-sumR n R:=by
    rw[← sumR_neg]
    refine sumR_congr (fun i hi=>?_)
    rw[hA];simp only[if_neg h1,if_pos hi]
   have e2 : A n j=tot:=by rw[hA];simp only[if_neg h1,if_neg (Nat.lt_irrefl n)]
   omega
 have hw : 0<m+1:=Nat.succ_pos m
 obtain⟨y,y1,y2,y3⟩:=exist (K:=(n+1)*(m+1)) (N:=(n+1)+(m+1)) (p:=fun k=>k/(m+1)) (g:=fun k=>k%(m+1)) (L:=fun k=>L (k/(m+1)) (k%(m+1))) (U:=fun k=>U (k/(m+1)) (k%(m+1))) (b:=T.b) (by omega)
  (fun k hk=>by have : k/(m+1)<n+1:=Nat.div_lt_of_lt_mul (by rw[Nat.mul_comm];exact hk);omega)
  (fun k _=>by have:=Nat.mod_lt k hw;omega)
  (fun k _=>⟨(hAll _ _).1,(hAll _ _).2.1⟩) (n:=(n+1)*(m+1)) (s:=1) (x:=fun k=>A (k/(m+1)) (k%(m+1))) (by decide) (by
   refine Nat.le_trans (List.length_filter_le _ _) ?_
   simp) (fun k _=>by
   obtain⟨_,_,q3,q4⟩:=hAll (k/(m+1)) (k%(m+1))
   omega) (fun r=>by
   rw[ls_rows A r (n+1)]
   split
   ·rename_i h;exact hrow r h
   ·rfl) (fun r=>by
   rw[ls_cols A r (n+1)]
   split
   ·rename_i h;exact hcol r h
   ·rfl)
 obtain⟨Y,hY⟩ : ∃ Y : Nat→Nat→Int,Y=fun i j=>y (i*(m+1)+j):=⟨_,rfl⟩
 have hyY : y=fun k=>Y (k/(m+1)) (k%(m+1)):=by
  funext k
  rw[hY]
  simp only
  rw[Nat.div_add_mod']
 have hYv : ∀ i j,i<n+1→j<m+1→Y i j=L i j∨Y i j=U i j:=by
  intro i j hi hj
  have hk : i*(m+1)+j<(n+1)*(m+1):=by
   have : (i+1)*(m+1)≤(n+1)*(m+1):=Nat.mul_le_mul_right _ (by omega)
   rw[Nat.succ_mul] at this
   omega
  have:=y1 _ hk
  obtain⟨b1,b2⟩:=blk (P:=i) hj
  simp only[b1,b2] at this
  rw[hY];exact this
 have hYr : ∀ i,i<n+1→sumR (m+1) (Y i)=0:=by
  intro i hi
  have:=y2 i
  rw[hyY,ls_rows Y i (n+1),if_pos hi] at this
  exact this
 have hYc : ∀ j,j<m+1→sumR (n+1) (fun i=>Y i j)=0:=by
  intro j hj
  have:=y3 j
  rw[hyY,ls_cols Y j (n+1),if_pos hj] at this
  exact this
 obtain⟨N,hN⟩ : ∃ N : List (List Int),N=(List.range n).map fun i=>(List.range m).map (Y i):=⟨_,rfl⟩
 have hNl : N.length=n:=by rw[hN];simp
 have hNg : ∀ i,i<n→N.getD i []=(List.range m).map (Y i):=by
  intro i hi
  rw[hN,List.getD_eq_getElem?_getD,List.getElem?_map,List.getElem?_range hi]
  rfl
 have hNd : ∀ i j,i<n→j<m→(N.getD i []).getD j 0=Y i j:=by
  intro i j hi hj
  rw[hNg i hi,List.getD_eq_getElem?_getD,List.getElem?_map,List.getElem?_range hj]
  rfl
 have hCl : ∀ i,i<n→(T.C.getD i []).length=m:=by
  intro i hi
  have h : i<T.C.length:=by omega
  rw[gdl h,hm]
  exact (hv.2.2.1 _ (List.getElem_mem h)).1
 have hin : ∀ i j,i<n→j<m→rd T.b (Y i j) (a i j):=by
  intro i j hi hj
  have:=hYv i j (by omega) (by omega)
  rw[hL,hU] at this
  simp only[if_pos hi,if_pos hj] at this
  exact this
 have hrm : ∀ i,i<n→rd T.b (-Y i m) (R i):=by
  intro i hi
  have:=hYv i m (by omega) (by omega)
  rw[hL,hU] at this
  simp only[if_pos hi,if_neg (Nat.lt_irrefl m)] at this
  unfold rd
  omega
 have hcm : ∀ j,j<m→rd T.b (-Y n j) (Cc j):=by
  intro j hj
  have:=hYv n j (by omega) (by omega)
  rw[hL,hU] at this
  simp only[if_neg (Nat.lt_irrefl n),if_pos hj] at this
  unfold rd
  omega
 have htm : rd T.b (Y n m) tot:=by
  have:=hYv n m (by omega) (by omega)
  rw[hL,hU] at this
  simp only[if_neg (Nat.lt_irrefl n),if_neg (Nat.lt_irrefl m)] at this
  exact this
 have hsr : ∀ i,i<n→sm (N.getD i [])=-Y i m:=by
  intro i hi
  have h1:=hYr i (by omega)
  rw[sumR_s] at h1
  have h2 : sm (N.getD i [])=sumR m (Y i):=by rw[hNg i hi];rfl
  omega
 have hsC : ∀ i,i<n→sm (T.C.getD i [])=R i:=by
  intro i hi
  rw[sm_R,hCl i hi,hR,ha]
 have hNrow : ∀ r∈N,r.length=m:=by
  intro r hr
  rw[hN] at hr
  obtain⟨i,_,rfl⟩:=List.mem_map.1 hr
  simp
 have hCrow : ∀ r∈T.C,r.length=m:=fun r hr=>by rw[hm];exact (hv.2.2.1 r hr).1
 have hc4 : m≤4:=by rw[hm];exact cols_le hf
 have hdN : ∀ j,j<m→due N j=-Y n j:=by
  intro j hj
  have h1:=hYc j (by omega)
  rw[sumR_s] at h1
  have h2 : due N j=sumR n (fun i=>Y i j):=by
   unfold due
   rw[sm_map,hNl]
   exact sumR_congr (fun i hi=>hNd i j hi hj)
  omega
 have hdC : ∀ j,due T.C j=Cc j:=by
  intro j
  unfold due
  rw[sm_map,hCc,ha,hn]
 have hlo0 : lo T.b 0=0:=by unfold lo;simp
 intro he
 have hmem : N∈rnds T:=by
  refine rnds_mem.2 ⟨⟨by rw[hNl,hn],fun r hr=>by rw[hNrow r hr,hm]⟩,fun r hr=>?_,fun j _=>?_,?_⟩
  ·have hr' : r<n:=by omega
   refine⟨fun k hk=>?_,?_,fun k _ x hx=>by rw[hF] at hx;simp at hx⟩
   ·have hk' : k<m:=by rw[hNg r hr'] at hk;simpa using hk
    rw[hNd r k hr' hk']
    have:=hin r k hr' hk'
    rw[ha] at this
    exact this
   ·rw[hsr r hr',hsC r hr']
    exact hrm r hr'
  ·by_cases hj : j<m
   ·rw[hdN j hj,hdC j];exact hcm j hj
   ·rw[due_out hNrow (by omega),due_out hCrow (by omega)]
    exact .inl hlo0.symm
  ·rw[l4_sum (fun r hr=>by rw[hNrow r hr];exact hc4),l4_sum (fun r hr=>by rw[hCrow r hr];exact hc4)]
   have e1 : sm (rsm N)=Y n m:=by
    have h1:=hYc m (by omega)
    rw[sumR_s] at h1
    have h2 : sm (rsm N)=sumR n (fun i=>-Y i m):=by
     unfold rsm
     rw[sm_map,hNl]
     exact sumR_congr (fun i hi=>hsr i hi)
    rw[sumR_neg] at h2
    omega
   have e2 : sm (rsm T.C)=tot:=by
    unfold rsm
    rw[sm_map,htot,← hn]
    exact sumR_congr (fun i hi=>hsC i hi)
   rw[e1,e2];exact htm
 rw[he] at hmem
 simp at hmem
end Go.Xe.TRX
/- What the functions of the layer round come to: the best rounding adds up (RoundAdds). Conditions: none. -/
-- MOD TR
namespace Go.Xe.TRX
open Go Go.Xe Go.Proofs
open Nat renaming reduceLeDiff → qA, reduceSub → qB, reduceAdd → qC, reduceEqDiff → qD, reduceLT → qE
open Int renaming reduceNegSucc → qF, reduceEq → qG
open Go.Xe.V renaming seq → sA, block → sB, scope → sC, skip → sD, close → sE
open Go.Xe renaming pth → P
open Go.Xe.Rnd
set_option maxRecDepth 100000
set_option maxHeartbeats 1600000
set_option linter.unusedSimpArgs false
theorem best_c {T : Tb} (h : rnds T≠[]) : (best T).c=chg T.C (best T).b:=by
 obtain⟨A,B,_,h2,_⟩:=rsf_spec (chg T.C) (rnds T) h
 exact h2
end Go.Xe.TRX
/- What the functions of the layer round come to: a table of multiples has one rounding (RoundExact). Conditions: none. -/
-- MOD TR
namespace Go.Xe.TRX
open Go Go.Xe Go.Proofs
open Nat renaming reduceLeDiff → qA, reduceSub → qB, reduceAdd → qC, reduceEqDiff → qD, reduceLT → qE
open Int renaming reduceNegSucc → qF, reduceEq → qG
open Go.Xe.V renaming seq → sA, block → sB, scope → sC, skip → sD, close → sE
open Go.Xe renaming pth → P
open Go.Xe.Rnd
set_option maxRecDepth 100000
set_option maxHeartbeats 1600000
set_option linter.unusedSimpArgs false
noncomputable def d14 : FCode:=(.seq (.run (.go (.box 25 (tm 0)) (P 1)::
.go (.move (.con (.bool false))) (P 2)::
[])) (.seq (.seq (.run (.go (.loadN 3 (tm 1)) (P 12)::
.go (.call (.con (.func (.func 41) ⟨[]⟩ ⟨[]⟩)) [tm 12]) (P 13)::
.go (.un .not (tm 13)) (P 14)::
[])) (.cond (tm 14) (.seq (.run (.go (.call (.con (.func (.func 17) ⟨[]⟩ ⟨[]⟩)) []) (P 15)::
.go (.move (tm 15)) (P 2)::
[])) .ret) .skip)) (.seq (.run (.go (.fieldAddr 0 (tm 1)) (P 16)::
.go (.load1 (tm 16)) (P 17)::
.go (.build [(.int .i64 (.ofNat 0)),(.slice none 0 0),(.slice none 0 0)] [(0,1,(tm 17))]) (P 18)::
.go (.alloc 25 [(.int .i64 (.ofNat 0)),(.slice none 0 0),(.slice none 0 0)]) (P 3)::
.un (.store 3 (tm 3) (tm 18))::
[])) (.seq (.seq (.run (.go (.move (.con (.int .i64 (.ofNat 0)))) (P 4)::
[])) (.block 0 (.loop (.seq (.seq (.run (.go (.move (tm 4)) (P 19)::
.go (.fieldAddr 1 (tm 1)) (P 20)::
.go (.load1 (tm 20)) (P 21)::
.go (.len 0 (tm 21)) (P 22)::
.go (.bin .lss 3 (tm 19) (tm 22)) (P 23)::
[])) (.cond (tm 23) .skip (.exit 0))) (.seq (.block 1 (.seq (.run (.go (.move (.con (.slice none 0 0))) (P 5)::
[])) (.seq (.seq (.run (.go (.move (.con (.int .i64 (.ofNat 0)))) (P 6)::
[])) (.block 2 (.loop (.seq (.seq (.run (.go (.move (tm 6)) (P 26)::
.go (.fieldAddr 1 (tm 1)) (P 27)::
.go (.load1 (tm 27)) (P 28)::
.go (.move (tm 4)) (P 29)::
.go (.indexAddr none 1 (tm 28) (tm 29)) (P 30)::
.go (.load1 (tm 30)) (P 31)::
.go (.len 0 (tm 31)) (P 32)::
.go (.bin .lss 3 (tm 26) (tm 32)) (P 33)::
[])) (.cond (tm 33) .skip (.exit 2))) (.seq (.block 3 (.draw 24 (.go (.move (tm 5)) (P 36)::
.go (.fieldAddr 1 (tm 1)) (P 37)::
.go (.load1 (tm 37)) (P 38)::
.go (.move (tm 4)) (P 39)::
.go (.indexAddr none 1 (tm 38) (tm 39)) (P 40)::
.go (.load1 (tm 40)) (P 41)::
.go (.move (tm 6)) (P 42)::
.go (.indexAddr none 1 (tm 41) (tm 42)) (P 43)::
.go (.load1 (tm 43)) (P 44)::
.go (.fieldAddr 1 (tm 1)) (P 45)::
.go (.load1 (tm 45)) (P 46)::
.go (.move (tm 4)) (P 47)::
.go (.indexAddr none 1 (tm 46) (tm 47)) (P 48)::
.go (.load1 (tm 48)) (P 49)::
.go (.move (tm 6)) (P 50)::
.go (.indexAddr none 1 (tm 49) (tm 50)) (P 51)::
.go (.load1 (tm 51)) (P 52)::
.go (.fieldAddr 0 (tm 1)) (P 53)::
.go (.load1 (tm 53)) (P 54)::
.go (.bin .rem 3 (tm 52) (tm 54)) (P 55)::
.go (.bin .sub 3 (tm 44) (tm 55)) (P 56)::
.go (.buildSlice 3 1 [(.int .i64 (.ofNat 0))] [(0,1,(tm 56))]) (P 57)::
.go (.append 3 1 8 (tm 36) (tm 57)) (P 58)::
.go (.move (tm 58)) (P 5)::
[]) [.ok,.ok,.ok,.ok,.ok,.ok,.ok,.ok,.ok,.ok,.ok,.ok,.ok,.ok,.ok,.ok,.ok,.ok,.ok,.ok,.ok,.ok,.ok,.ok])) (.run (.go (.move (tm 6)) (P 34)::
.go (.bin .add 3 (tm 34) (.con (.int .i64 (.ofNat 1)))) (P 35)::
.go (.move (tm 35)) (P 6)::
[]))))))) (.run (.go (.fieldAddr 1 (tm 3)) (P 59)::
.go (.load1 (tm 59)) (P 60)::
.go (.move (tm 5)) (P 61)::
.go (.buildSlice 41 1 [(.slice none 0 0)] [(0,1,(tm 61))]) (P 62)::
.go (.append 41 1 24 (tm 60) (tm 62)) (P 63)::
.go (.fieldAddr 1 (tm 3)) (P 64)::
.un (.store 1 (tm 64) (tm 63))::
[]))))) (.run (.go (.move (tm 4)) (P 24)::
.go (.bin .add 3 (tm 24) (.con (.int .i64 (.ofNat 1)))) (P 25)::
.go (.move (tm 25)) (P 4)::
[]))))))) (.seq (.run (.go (.loadN 3 (tm 3)) (P 66)::
.go (.call (.con (.func (.func 19) ⟨[]⟩ ⟨[]⟩)) [tm 66]) (P 67)::
.go (.call (.con (.func (.func 29) ⟨[]⟩ ⟨[]⟩)) [tm 67]) (P 68)::
.go (.move (tm 68)) (P 65)::
.go (.extract (tm 65) 0) (P 69)::
.go (.extract (tm 65) 1) (P 70)::
.go (.extract (tm 65) 2) (P 71)::
.go (.move (tm 69)) (P 7)::
.go (.move (tm 70)) (P 8)::
.go (.move (tm 71)) (P 9)::
[])) (.seq (.run (.go (.loadN 3 (tm 3)) (P 73)::
.go (.call (.con (.func (.func 19) ⟨[]⟩ ⟨[]⟩)) [tm 73]) (P 74)::
.go (.call (.con (.func (.func 30) ⟨[]⟩ ⟨[]⟩)) [tm 74]) (P 75)::
.go (.move (tm 75)) (P 72)::
.go (.extract (tm 72) 0) (P 76)::
.go (.extract (tm 72) 1) (P 77)::
.go (.move (tm 76)) (P 10)::
.go (.move (tm 77)) (P 11)::
[])) (.seq (.run (.go (.move (tm 9)) (P 78)::
.go (.bin .eql 29 (tm 78) (.con (.int .i64 (.ofNat 0)))) (P 79)::
.go (.move (tm 79)) (P 80)::
.gd (P 80) true (.move (tm 8)) (P 81)::
.gd (P 80) true (.bin .eql 3 (tm 81) (.con (.int .i64 (.ofNat 0)))) (P 82)::
.go (.pick (tm 80) (tm 82) (.con (.bool false))) (P 83)::
.go (.move (tm 83)) (P 84)::
.gd (P 84) true (.move (tm 7)) (P 85)::
.gd (P 84) true (.fieldAddr 1 (tm 3)) (P 86)::
.gd (P 84) true (.load1 (tm 86)) (P 87)::
.gd (P 84) true (.call (.con (.func (.func 33) ⟨[]⟩ ⟨[]⟩)) [(tm 85),(tm 87)]) (P 88)::
.go (.pick (tm 84) (tm 88) (.con (.bool false))) (P 89)::
.go (.move (tm 89)) (P 90)::
.gd (P 90) true (.move (tm 11)) (P 91)::
.gd (P 90) true (.bin .eql 29 (tm 91) (.con (.int .i64 (.ofNat 0)))) (P 92)::
.go (.pick (tm 90) (tm 92) (.con (.bool false))) (P 93)::
.go (.move (tm 93)) (P 94)::
.gd (P 94) true (.move (tm 10)) (P 95)::
.gd (P 94) true (.bin .eql 3 (tm 95) (.con (.int .i64 (.ofNat 1)))) (P 96)::
.go (.pick (tm 94) (tm 96) (.con (.bool false))) (P 97)::
.go (.move (tm 97)) (P 98)::
.gd (P 98) true (.call (.con (.func (.func 17) ⟨[]⟩ ⟨[]⟩)) []) (P 99)::
.go (.pick (tm 98) (tm 99) (.con (.bool false))) (P 100)::
.go (.move (tm 100)) (P 2)::
[])) .ret)))))))
theorem de14 : @compF Try.prog (Gl.none Try.prog) Try.f14 1=.mk d14 (mkTT 101) [(P 0)] [.tmp (P 2)]:=by kernel_rfl
theorem dg14 : Try.prog.funcs[14]?=some Try.f14:=Try.func14
theorem do14 : okF Try.prog Try.f14=true:=by kernel_rfl
def mulT (T : Tb) : Tb:=⟨T.b,T.C.map fun l=>l.map (lo T.b),[]⟩
theorem mulT_cols (T : Tb) : cols (mulT T)=cols T:=by
 unfold cols mulT
 cases T.C with
 | nil=>rfl
 | cons a l=>simp
theorem mulT_ok {T : Tb} (hf : fits T) (hv : valid T) : fits (mulT T)∧valid (mulT T):=by
 refine⟨⟨by simpa [mulT] using hf.1,by simp[mulT],fun row hr=>?_⟩,hv.1,by rw[mulT_cols];exact hv.2.1,fun row hr=>?_,fun x hx=>by simp[mulT] at hx⟩
 ·obtain⟨l,hl,rfl⟩:=List.mem_map.1 hr
  rw[List.length_map];exact hf.2.2 l hl
 ·obtain⟨l,hl,rfl⟩:=List.mem_map.1 hr
  have h1:=hv.2.2.1 l hl
  refine⟨by rw[List.length_map,mulT_cols];exact h1.1,fun v hv'=>?_⟩
  obtain⟨n,hn,rfl⟩:=List.mem_map.1 hv'
  have h2:=h1.2 n hn
  have h3:=lo_bd (n:=n) hv.1 (by omega)
  omega
theorem rd_mul {b m x : Int} (hb : 2≤b) (hm : 0≤m) (hd : b ∣ m) (h : rd b x m) : x=m:=by
 obtain⟨q1,q2,q3,q4,q5⟩:=lo_dvd hb hm
 have e1 : lo b m=m:=by
  unfold lo
  rw[Int.tmod_eq_emod_of_nonneg hm,Int.emod_eq_zero_of_dvd hd,Int.sub_zero]
 have e2 : hi b m≤m+b-1:=by
  unfold hi
  exact (lo_mul (b:=b) (n:=m+b-1) hb (by omega)).2.1
 rcases h with rfl|rfl
 ·exact e1
 ·rcases q5 with q5|q5<;>omega
theorem mulT_rnds {T : Tb} (hf : fits T) (hv : valid T) : rnds (mulT T)=[(mulT T).C]:=by
 obtain⟨hf',hv'⟩:=mulT_ok hf hv
 have hall : ∀ N∈rnds (mulT T),N=(mulT T).C:=by
  intro N hN
  obtain⟨⟨h1,h2⟩,_⟩:=rnds_mem.1 hN
  apply List.ext_getElem h1
  intro i k1 k2
  have e1:=h2 _ (List.getElem_mem k1)
  have e2:=(hv'.2.2.1 _ (List.getElem_mem k2)).1
  apply List.ext_getElem (by rw[e1,e2])
  intro j j1 j2
  have hrd:=rnds_cell hN k1 j1 k2 j2
  have hc : ∃ n,0≤n∧((mulT T).C[i])[j]=lo T.b n:=by
   have k3 : i<T.C.length:=by simpa [mulT] using k2
   have j3 : j<(T.C[i]).length:=by simpa [mulT] using j2
   exact⟨(T.C[i])[j],((hv.2.2.1 _ (List.getElem_mem k3)).2 _ (List.getElem_mem j3)).1,by simp[mulT]⟩
  obtain⟨n,hn,e⟩:=hc
  have h3:=lo_dvd hv.1.1 hn
  have h4:=lo_mul hv.1.1 hn
  exact rd_mul hv.1.1 (by rw[e];exact h4.2.2.2) (by rw[e];exact h3.1) hrd
 have hne:=rnds_some hf' hv' rfl
 have hs : (rnds (mulT T)).Pairwise Bf:=fol_sort hv'
 cases hr : rnds (mulT T) with
 | nil=>exact absurd hr hne
 | cons A L=>
  rw[hr] at hall hs
  have hA:=hall A (by simp)
  cases L with
  | nil=>rw[hA]
  | cons B L=>
   have hB:=hall B (by simp)
   have:=(List.pairwise_cons.1 hs).1 B (by simp)
   rw[hA,hB] at this
   exact absurd this (Bf_irr _)
theorem dist_self : ∀ l : List Int,dist l l=0
 | []=>rfl
 | x::l=>by
  have:=dist_self l
  show max (x-x) (x-x)+dist l l=0
  omega
theorem chg_self : ∀ C : List (List Int),chg C C=0
 | []=>rfl
 | x::C=>by
  have:=chg_self C
  have:=dist_self x
  show dist x x+chg C C=0
  omega
theorem mulT_best {T : Tb} (hf : fits T) (hv : valid T) : (best (mulT T)).b=(mulT T).C∧(best (mulT T)).c=0:=by
 have h:=mulT_rnds hf hv
 have hne : rnds (mulT T)≠[]:=by rw[h];simp
 have hm:=best_mem hne
 have hc:=best_c hne
 rw[h,List.mem_singleton] at hm
 rw[hm] at hc
 exact⟨hm,by rw[hc];exact chg_self _⟩
theorem f14_ok {H : Heap} {c f : Value} {T : Tb} (h : TV H c f T) : F Try.prog 14 ⟨[.agg ⟨[I T.b,c,f]⟩]⟩ H (fun w _=>w=.bool true):=by
 have hcl : ∀ X,ylen 0 X c=some (I T.C.length):=h.c.len
 refine F.entryL rfl dg14 do14 de14 rfl (by kernel_rfl) ?_
 simp only[sets]
 refine V.re [(0,.agg ⟨[I T.b,c,f]⟩)] (N:=101) zE zY ?_
 intro t hF hA
 simp only[Kn,and_true] at hA
 refine zS ?_
 refine V.l0 ?_
 refine V.heap (fun X=>Grow H X∧Bx X H.next [I T.b,c,f] 25) ⟨?_,?_⟩ ?_
 ·exact zW
 ·exact zB
 rintro H1 ⟨g1,b1⟩
 have n1:=b1.1
 refine zS ?_
 refine V.run ?_
 have zf:=b1.2
 refine VI.sz 1 ?_
 simp only[ds]
 refine VI.callA rfl (f41_ok (h.grow g1)) zA (fun H2 g2=>?_)
 have b2:=b1.grow g2
 have g12:=g1.trans g2
 have n2:=g2.1
 refine VI.l0 ?_
 refine zS ?_
 refine V.condP zP (fun hs=>?_) (fun hs=>?_)
 ·refine zS ?_
  refine V.run ?_
  refine VI.callA rfl (f17_ok _) zA (fun H3 g3=>?_)
  refine VI.l0 ?_
  refine zS ?_
  refine V.ret (V.rets rfl (Lv.retF (by simp +contextual (disch:=first|omega|simp only[nx];omega) only[D1,cells_alloc_at,cells_alloc_ne,cells_set_at,cells_set_ne,yres,yres1,yresL,qA,qB,qC,D5,hF,hA,↓reduceIte,qD,qE];rfl) ?_))
  rfl
 have hs' : snd T:=Decidable.not_not.1 (by simpa using hs)
 obtain⟨hth,hfl⟩:=hs'
 obtain⟨hf,hv⟩:=flt_0.1 hfl
 have hb:=hv.1
 have hC5:=hf.1
 obtain⟨hf',hv'⟩:=mulT_ok hf hv
 refine zS ?_
 have zf:=b2.2
 refine V.lz ?_
 refine V.heap (fun X=>Grow H2 X∧Bx X H2.next [I T.b,.slice none 0 0,.slice none 0 0] 25) ⟨?_,?_⟩ ?_
 ·exact ((Grow.refl H2).alloc _).set (Nat.le_refl _) _
 ·exact⟨by simp only[Heap.next_set,Heap.next_alloc];omega,cells_set _ _ _ _ _⟩
 rintro H3 ⟨g3,x3⟩
 have n3:=x3.1
 have b3:=b2.grow g3
 have g13:=g12.trans g3
 refine zS ?_
 refine V.l0 ?_
 refine zS ?_
 refine V.loop (fun z t m X=>∃ (r : Nat) (s : Value),r≤T.C.length∧z=T.C.length-r∧m=[]∧GrowS (·=H2.next) H3 X∧Bx X H2.next [I T.b,s,.slice none 0 0] 25∧OwN (From RI H3.next) H3 X 41 s ((mulT T).C.take r)∧Full 101 t∧Kn [(1,PT H.next),(3,PT H2.next),(4,I r)] t) T.C.length ?_ ?_
 ·exact⟨0,_,by omega,by omega,rfl,.refl _,x3,by rw[List.take_zero];exact .nil,zF,zK⟩
 clear hF hA
 rintro z t m X ⟨r,s,hr,rfl,rfl,hg,hx,os,hF,hA⟩
 simp only[Kn,and_true] at hA
 have bX:=b3.growS hg (by omega)
 have mX:=hg.1
 have gX : Grow H X:=⟨by have:=g13.1;omega,fun i hi=>by rw[hg.2 i (by omega) (by omega),g13.2 i hi]⟩
 have hml : (mulT T).C.length=T.C.length:=by simp[mulT]
 refine zS ?_
 have zf:=And.intro bX.2<|@hcl
 refine V.lz ?_
 refine zS ?_
 refine V.condP zP (fun hlt=>?_) (fun hlt=>?_)
 ·have hr' : r<T.C.length:=by omega
  obtain⟨p,u,hp,hu⟩:=h.c.at ri hr'
  have hpk:=hp .i64
  have hrow:=hv.2.2.1 _ (List.getElem_mem hr')
  have hrow4:=hf.2.2 _ (List.getElem_mem hr')
  obtain⟨l,hl⟩ : ∃ l,l=T.C[r]:=⟨_,rfl⟩
  rw[← hl] at hrow hrow4 hu
  refine zS ?_
  refine V.l0 ?_
  refine zS ?_
  refine V.l0 ?_
  refine zS ?_
  refine V.loop (fun z t m Y=>∃ (k : Nat) (v : Value),k≤l.length∧z=l.length-k∧m=[]∧Grow X Y∧Ow X Y 3 v (Li ((l.map (lo T.b)).take k))∧Full 101 t∧Kn [(1,PT H.next),(3,PT H2.next),(4,I r),(5,v),(6,I k)] t) l.length ?_ ?_
  ·exact⟨0,_,by omega,by omega,rfl,.refl _,.nil,zF,zK⟩
  clear hF hA
  rintro z t m Y ⟨k,v,hk,rfl,rfl,hgY,ov,hF,hA⟩
  simp only[Kn,and_true] at hA
  have gY:=gX.trans hgY
  have bY:=bX.grow hgY
  obtain⟨hu1,hu2⟩:=hu Y gY
  have hul:=hu2.len
  have xY:=hx.grow hgY
  have mY:=hgY.1
  refine zS ?_
  have zf:=And.intro bY.2<|And.intro @hpk<|And.intro @hu1<|@hul
  refine V.lz ?_
  refine zS ?_
  refine V.condP zP (fun hlk=>?_) (fun hlk=>?_)
  ·have hk' : k<l.length:=by omega
   obtain⟨w,hw,hww⟩:=hu2.at hk'
   have hw1:=hww Y (.refl _)
   have hcb:=hrow.2 _ (List.getElem_mem hk')
   have htb:=tmb (a:=l[k]) (b:=T.b) hcb.1 (by omega)
   obtain⟨v',Y',e1,o1,k1,_,m1,_⟩:=Ow.pushB (bytes:=8) (r:=[I (l[k]-l[k].tmod T.b)]) hgY.1 ov rfl (by simp) (by rw[Li_len,List.length_take];simp only[List.length_cons,List.length_nil];omega) (by rw[Li_len,List.length_take];simp only[List.length_cons,List.length_nil];omega)
   obtain⟨pv,nv,cv,rfl⟩:=ov.sl.isS
   obtain⟨pv',nv',cv',rfl⟩:=o1.sl.isS
   have e1':=e1
   simp only[List.length_cons,List.length_nil] at e1'
   refine zS ?_
   have zf:=And.intro bY.2<|And.intro @hpk<|And.intro @hu1<|And.intro @hw<|And.intro @hw1<|@e1'
   refine V.dz ?_ ?_ rfl ?_
   ·exact zM
   ·simp only[dcAll,dcOk,wantD,List.cons_append,List.nil_append,true_and,and_true]
   refine zS ?_
   refine V.l0 ?_
   refine V.nil (Or.inl ⟨rfl,l.length-(k+1),by omega,?_⟩)
   refine⟨k+1,_,hk',rfl,rfl,k1.grow hgY (Nat.le_refl _),?_,zF,zK⟩
   have e2 : Li ((l.map (lo T.b)).take (k+1))=Li ((l.map (lo T.b)).take k)++[I (l[k]-l[k].tmod T.b)]:=by
    rw[tk1 (by rw[List.length_map];exact hk'),Li_app,List.getElem_map];rfl
   rw[e2];exact o1
  ·obtain rfl : k=l.length:=by omega
   have e3 : (l.map (lo T.b)).take l.length=l.map (lo T.b):=List.take_of_length_le (by simp)
   rw[e3] at ov
   refine V.exit ?_
   refine zX ?_
   refine V.nil (Or.inr ⟨by simp,?_⟩)
   refine zX ?_
   have osY:=os.keep (ri.from _) hgY
   have hy : From RI H3.next Y v (l.map (lo T.b)):=⟨ow_ri ov,fun i hi=>Nat.le_trans mX (ov.from i hi)⟩
   obtain⟨s',Y2,e1,o2,k2,_,m2,_⟩:=OwN.pushB (ri.from _) (bytes:=24) (Nat.le_trans mX mY) osY hy (os.sepNew (Nat.le_refl _) ov.from) (by rw[List.length_take];omega) (by rw[List.length_take];omega)
   obtain⟨pv,nv,cv,rfl⟩:=ov.sl.isS
   obtain⟨pS,nS,cS,rfl⟩:=osY.nest.isS
   obtain⟨pS2,nS2,cS2,rfl⟩:=o2.nest.isS
   have xA:=(xY.alloc (.cells ⟨[.slice pv nv cv]⟩ 41 true)).2
   have x2:=k2.bx xY (by omega)
   refine zS ?_
   have zf:=And.intro xY.2<|And.intro @xA<|And.intro x2.2<|@e1
   refine V.lz ?_
   refine V.heap (fun Z=>GrowS (·=H2.next) H3 Z∧Bx Z H2.next [I T.b,.slice pS2 nS2 cS2,.slice none 0 0] 25∧OwN (From RI H3.next) H3 Z 41 (.slice pS2 nS2 cS2) ((mulT T).C.take (r+1))) ⟨?_,?_,?_⟩ ?_
   ·refine⟨by have:=k2.1;simp only[Heap.next_set];omega,fun i hi hne=>?_⟩
    rw[Heap.get_set,if_neg hne,k2.2 i hi,hgY.2 i (by omega),hg.2 i hi hne]
   ·exact⟨by simp only[Heap.next_set];exact x2.1,cells_set _ _ _ _ _⟩
   ·have e4 : (mulT T).C.take (r+1)=(mulT T).C.take r++[l.map (lo T.b)]:=by
     rw[tk1n (by rw[hml];exact hr'),hl]
     simp[mulT]
    rw[e4]
    exact o2.loc ri (by simp only[Heap.next_set];exact Nat.le_refl _) (fun i hi=>by rw[Heap.get_set,if_neg (by omega)])
   rintro Z ⟨z1,z2,z3⟩
   refine zS ?_
   refine V.l0 ?_
   refine V.nil (Or.inl ⟨rfl,T.C.length-(r+1),by omega,?_⟩)
   exact⟨r+1,_,by omega,by omega,rfl,z1,z2,z3,zF,zK⟩
 ·obtain rfl : r=T.C.length:=by omega
  have e0 : (mulT T).C.take T.C.length=(mulT T).C:=List.take_of_length_le (by rw[hml];exact Nat.le_refl _)
  rw[e0] at os
  refine V.exit ?_
  refine zX ?_
  refine V.nil (Or.inr ⟨by simp,?_⟩)
  refine zX ?_
  have tvX : TV X s (.slice none 0 0) (mulT T):=⟨os.nest.weak (fun _ _ hh=>hh.1),.nil⟩
  have hsh : sh (mulT T):=⟨by have:=hf'.1;omega,fun row hr=>by have:=hf'.2.2 row hr;omega,by have:=hf'.2.1;omega⟩
  have hfl' : flt (mulT T)=0:=flt_0.2 ⟨hf',hv'⟩
  obtain⟨mb,mc⟩:=mulT_best hf hv
  have mr:=mulT_rnds hf hv
  refine zS ?_
  refine V.run ?_
  have zf:=hx.2
  refine VI.sz 1 ?_
  simp only[ds]
  refine VI.callR zA (f19_ok tvX hsh) zA (fun w5 H5 ⟨g5,c5,f5,hw5,tv5⟩=>?_)
  subst hw5
  refine VI.callR zA (f29_ok tv5 hsh) zA (fun w6 H6 ⟨g6,u,n,e,hw6,hb6⟩=>?_)
  subst hw6
  have g56:=g5.trans g6
  have x6:=hx.grow g56
  have tv6:=tvX.grow g56
  rcases hb6 with⟨h0,_⟩|⟨_,hr0,_⟩|⟨_,_,rfl,rfl,hu⟩
  ·exact absurd hfl' h0
  ·rw[mr] at hr0;simp at hr0
  rw[mb] at hu
  rw[mc]
  obtain⟨pu,nu,cu,rfl⟩:=hu.isS
  have hnest:=hu.nest
  refine VI.l0 ?_
  refine zS ?_
  refine V.run ?_
  have zf:=x6.2
  refine VI.sz 1 ?_
  simp only[ds]
  refine VI.callR zA (f19_ok tv6 hsh) zA (fun w7 H7 ⟨g7,c7,f7,hw7,tv7⟩=>?_)
  subst hw7
  refine VI.callA rfl (f30_ok tv7 hsh) zA (fun H8 g8=>?_)
  rw[if_pos hfl',hfl',mr]
  have g78:=g7.trans g8
  have x8:=x6.grow g78
  have tv8:=tv6.grow g78
  have n8:=hnest.grow ri g78
  refine VI.l0 ?_
  refine zS ?_
  refine V.run ?_
  have hf33:=f33_ok n8 tv8.c (by rw[hml];omega) (fun row hr=>by have:=hf'.2.2 row hr;omega)
  rw[decide_eq_true rfl] at hf33
  obtain⟨pS,nS,cS,rfl⟩:=tv8.c.isS
  have zf:=x8.2
  refine VI.sz 9 ?_
  simp only[ds]
  have zf:=x8.2
  refine VI.sz 1 ?_
  simp only[ds]
  refine VI.callAT zG rfl (hf33) zA (fun H9 g9=>?_)
  refine VI.s0 9 ?_
  simp only[ds]
  refine VI.s0 1 ?_
  simp only[ds]
  refine VI.callAT zG rfl (f17_ok _) zA (fun H10 g10=>?_)
  refine VI.l0 ?_
  refine zS ?_
  refine V.ret (V.rets rfl (Lv.retF (by simp +contextual (disch:=first|omega|simp only[nx];omega) only[D1,cells_alloc_at,cells_alloc_ne,cells_set_at,cells_set_ne,yres,yres1,yresL,qA,qB,qC,D5,hF,hA,↓reduceIte,qD,qE];rfl) ?_))
  rfl
end Go.Xe.TRX
/- Rules of reasoning over the executable reading of the model's code (part Z16): arguments, by what their types allow. Conditions: none; for every program. -/
namespace Go.Xe
open Go Go.RowKit Go.ChangeShapes Go.WideShapes
theorem okWide_agg {P : Program} {w : World} {r : Reach} {base : Nat} {t : TypeId} {v : Value} {fs : Array Field} (ht : P.underlying t=some (.struct fs)) (h : Value.okWide P w r base t v) : ∃ cs,v=.agg cs:=by
 unfold Value.okWide at h
 rw[ht] at h
 obtain⟨cs,h,_⟩:=h
 exact⟨cs,h⟩
end Go.Xe
/- The end of a call that has changed nothing of what was there: what a statement asks of the memory behind it. Conditions: as post_of_same's, but that new memory may be frozen. -/
namespace Go.Xe
open Go Go.RowKit Go.ChangeShapes Go.WideShapes
variable {H : Type} {enc : TypeId×Value→H} {P : Program}
theorem post_of_old {f : Func} {s : ChangeSpec} {apart fresh handsOn again : Bool} {W W' : World} {args : Array Value} {v : Value} {ds gs : List (DataW H)} {before pa pv : List MemPlace}
  (hW : DataW.Whole enc P f.params.toList s.vars apart W args.toList ds gs before)
  (hres : ∀ (b : Nat) (sp : Nat→Bool) (hd : Bool),DataW.TrodAll enc P W' b sp hd f.resultTypes.toList (v.resultList f.resultTypes.size) (s.fn H (ds++gs)).results [])
  (hargs : ∀ sp : Nat→Bool,(∀ p∈before,sp p.block=true)→DataW.TrodAll enc P W' 0 sp true f.params.toList args.toList (s.fn H (ds++gs)).args pa)
  (hvars : ∀ sp : Nat→Bool,(∀ p∈before,sp p.block=true)→DataW.TrodVars enc P W' sp s.vars (s.fn H (ds++gs)).vars pv)
  (hps : before=pa++pv) (hk : W.keptBut W' (·∈before)) (hfz : ∀ a : Addr,a.block<W.heap.size→W'.frozen? a=W.frozen? a)
  (hok : ∀ (j : Nat) (t : TypeId) (r : Value),f.resultTypes[j]?=some t→(v.resultList f.resultTypes.size)[j]?=some r→Value.okWide P W' .any 0 t r) :
  s.post enc P f apart fresh handsOn again W args v W':=by
 have old : ∀ p∈before,p.block<W.heap.size:=fun p hp=>hW.lt p hp
 have hold : ∀ p∈before,(fun b=>decide (b<W.heap.size)) p.block=true:=fun p hp=>by simpa using old p hp
 subst hps
 refine⟨ds,gs,_,[],pa,pv,hW,hres _ _ _,hargs _ hold,hvars _ hold,World.keptBut_mono (fun p hp=>⟨hp,.inr (List.mem_append.1 hp)⟩) hk,fun _=>?_⟩
 obtain⟨_,_,_,_,_,hz,hn⟩:=hW
 refine⟨hok,_,_,([]++pa)++pv,⟨[]++pa,pv,trodAll_append (hargs _ (fun _ _=>rfl)) (hres _ _ _),hvars _ (fun _ _=>rfl),rfl,?_,?_⟩,?_⟩
 ·intro b off hp
  have hp' : MemPlace.cell b off∈pa++pv:=by simpa using hp
  rw[hfz _ (old _ hp')]
  exact hz b off hp'
 ·intro ha
  simpa using hn ha
 ·intro p hp _
  simpa using hp
end Go.Xe
