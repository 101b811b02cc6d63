/- What the functions of the layer seat come to: the largest remainders. Conditions: none. -/
import Derived.Test.YtelfbgmhleneiaaTUM
-- MOD TV
namespace Go.Xe.TVX
open Go Go.Xe Go.Proofs
open Nat renaming reduceLeDiff → qA, reduceSub → qB, reduceAdd → qC, reduceEqDiff → qD, reduceLT → qE
open Int renaming reduceNegSucc → qF, reduceEq → qG
open Go.Xe.V renaming seq → sA, block → sB, scope → sC, skip → sD, close → sE
open Go.Xe renaming pth → P
open Go.Xe.Sea
set_option maxRecDepth 100000
set_option maxHeartbeats 3200000
set_option linter.unusedSimpArgs false
def good (v : Nat→Int) (c : Nat→Int→Q2) (x : Q2) : Prop:=∀ o (u : Int),o<8→0<v o→0≤u→¬ qlt (c o u) x→¬ qlt x (c o u)→qlt (c o (u+1)) (c o u)
def SG (v : Nat→Int) (c : Nat→Int→Q2) (low : Nat→Int) : Prop:=∀ p o t,p<8→0<v p→o<8→0<v o→0≤t→t<low p→good v c (c p t)→qlt (c o (low o)) (c p t)
section
variable {v : Nat→Int} {c : Nat→Int→Q2}
theorem SG_up (ok : ∀ p s,p<8→0<v p→0≤s→qok (c p s)) (dec : ∀ p (a b : Int),p<8→0<v p→0≤a→a≤b→¬ qlt (c p a) (c p b)) {low : Nat→Int} (nn : ∀ p,0≤low p) (h : SG v c low) : SG v c (Sea.up low (tp v (fun p=>c p (low p)) 8)):=by
 obtain⟨T,hT⟩ : ∃ T,T=tp v (fun p=>c p (low p)) 8:=⟨_,rfl⟩
 rw[← hT]
 have memT : ∀ q,q∈T↔q<8∧0<v q∧∀ o,o<8→0<v o→¬ qlt (c q (low q)) (c o (low o)):=fun q=>by rw[hT];exact mem_tp
 have vU : ∀ q,Sea.up low T q=if q∈T then low q+1 else low q:=fun q=>rfl
 intro p o t hp vp ho vo ht htl hg
 have c1:=ok p t hp vp ht
 have c2:=ok o (low o) ho vo (nn o)
 have no:=nn o
 have c3:=ok o (Sea.up low T o) ho vo (by rw[vU];split<;>omega)
 have d1:=dec o (low o) (Sea.up low T o) ho vo no (by rw[vU];split<;>omega)
 by_cases k : t<low p
 ·exact le_qlt c3 c2 c1 d1 (h p o t hp vp ho vo ht k hg)
 ·have hpT : p∈T:=by
   apply Decidable.by_contra
   intro hh
   rw[vU,if_neg hh] at htl
   omega
  have et : t=low p:=by rw[vU,if_pos hpT] at htl;omega
  subst et
  have tpp:=((memT p).1 hpT).2.2
  by_cases hoT : o∈T
  ·have:=hg o (low o) ho vo no (((memT o).1 hoT).2.2 p hp vp) (tpp o ho vo)
   rw[vU,if_pos hoT]
   exact qlt_le (ok o (low o+1) ho vo (by omega)) c2 c1 this (tpp o ho vo)
  ·rw[vU,if_neg hoT]
   have : ∃ q,q<8∧0<v q∧qlt (c o (low o)) (c q (low q)):=by
    apply Decidable.by_contra
    intro hh
    exact hoT ((memT o).2 ⟨ho,vo,fun q hq hvq kk=>hh ⟨q,hq,hvq,kk⟩⟩)
   obtain⟨q,hq,hvq,kk⟩:=this
   exact qlt_le c2 (ok q (low q) hq hvq (nn q)) c1 kk (tpp q hq hvq)
theorem giv_SG (ok : ∀ p s,p<8→0<v p→0≤s→qok (c p s)) (dec : ∀ p (a b : Int),p<8→0<v p→0≤a→a≤b→¬ qlt (c p a) (c p b)) : ∀ (f : Nat) (left : Int) (low : Nat→Int),(∀ p,0≤low p)→SG v c low→SG v c (giv v c f left low).1
 | 0,_,_,_,h=>h
 | f+1,left,low,nn,h=>by
  unfold giv
  split
  ·exact h
  ·split
   ·exact giv_SG ok dec f _ _ (fun p=>by unfold Sea.up;have:=nn p;split<;>omega) (SG_up ok dec nn h)
   ·exact h
end
theorem otc_SG {m S : Int} {v : Nat→Int} (hv : vok v) (hS : 0≤S∧S≤61) : SG v (clq m S v) (otc m S v).1:=
 giv_SG (fun p s hp vp hs=>clq_ok hv hS hp vp hs) (fun p a b hp vp ha hab=>clq_le' hv hS hp vp ha hab) 62 S (fun _=>0) (fun _=>Int.le_refl _) (fun p o t _ _ _ _ h0 ht=>by have : t<0:=ht;omega)
def rbe (S : Int) (v : Nat→Int) (p : Nat) : Int:=sm (fun q=>if 0<v q∧(shr S v p).2<(shr S v q).2 then 1 else 0) 8
def rBE (S : Int) (v : Nat→Int) (p : Nat) : Int:=sm (fun q=>if 0<v q∧(shr S v p).2≤(shr S v q).2 then 1 else 0) 8
def rleft (S : Int) (v : Nat→Int) : Int:=S-sm (fun p=>(shr S v p).1) 8
theorem spread5 {S : Int} {v : Nat→Int} (hv : vok v) (hS : 0≤S∧S≤61) (hv8 : ∀ p,¬ p<8→v p=0) (hN : 0<sm v 8) {p : Nat} (hp : p<8) (vp : 0<v p) :
  (otc 5 S v).1 p=(shr S v p).1+(if rBE S v p≤rleft S v then 1 else 0)∧(otc 5 S v).2 p=(shr S v p).1+(if rbe S v p<rleft S v then 1 else 0):=by
 have F0:=otc_fin (m:=5) hv hS hv8
 have hbd:=Fin.bd F0 hS.1
 have hSG:=otc_SG (m:=5) hv hS
 obtain⟨q1,q2⟩:=shr_sums hv hS
 have q2:=q2 hN
 obtain⟨F,hF⟩:=F0
 obtain⟨A,hA⟩ : ∃ A,A=(otc 5 S v).1:=⟨_,rfl⟩
 obtain⟨B,hB⟩ : ∃ B,B=(otc 5 S v).2:=⟨_,rfl⟩
 rw[← hA,← hB] at hF hbd
 rw[← hA] at F hSG
 rw[← hA,← hB]
 obtain⟨bd1,bd2,_,bd3⟩:=hbd
 have nn:=F.nn
 obtain⟨N,hNN⟩ : ∃ N,N=sm v 8:=⟨_,rfl⟩
 have hN0 : 0<N:=by rw[hNN];exact hN
 obtain⟨sh,hsh⟩ : ∃ sh : Nat→Int,sh=fun p=>(shr S v p).1:=⟨_,rfl⟩
 obtain⟨rm,hrm⟩ : ∃ rm : Nat→Int,rm=fun p=>(shr S v p).2:=⟨_,rfl⟩
 obtain⟨c,hc⟩ : ∃ c,c=clq 5 S v:=⟨_,rfl⟩
 have esh : ∀ p,(shr S v p).1=sh p:=fun p=>by rw[hsh]
 have erm : ∀ p,(shr S v p).2=rm p:=fun p=>by rw[hrm]
 have cv : ∀ p s,c p s=if s<sh p then (1,0) else if s=sh p then (rm p,N) else (0,1):=fun p s=>by
  rw[hc,hsh,hrm,hNN];unfold clq;rw[if_pos rfl]
 rw[← hc] at F hF hSG
 have bsh : ∀ q,q<8→0≤sh q∧0≤rm q:=fun q hq=>by
  have:=shr_bd hv hS hq
  rw[esh,erm] at this
  omega
 have zsh : ∀ q,¬ 0<v q→sh q=0∧rm q=0∧A q=0:=fun q hq=>by
  have h0 : v q=0:=by
   by_cases k : q<8
   ·have:=(hv q k).1;omega
   ·exact hv8 q k
  have e : shr S v q=(0,0):=by unfold shr;rw[if_pos h0]
  rw[← esh,← erm,e]
  exact⟨rfl,rfl,F.adm q (fun k=>hq k.2)⟩
 have eshi : ∀ q,q<8→shi S v q=sh q+if 0<rm q then 1 else 0:=fun q hq=>by
  have:=(bsh q hq).2
  unfold shi
  rw[esh,erm]
  congr 1
  split<;>split<;>omega
 have rl : ∀ a b : Int,qlt (a,N) (b,N)↔a<b:=fun a b=>by
  rw[qlt_nz (by simp only;omega)]
  exact⟨fun k=>Int.lt_of_mul_lt_mul_right k (by omega),fun k=>Int.mul_lt_mul_of_pos_right k hN0⟩
 have r0 : ∀ b : Int,qlt (0,1) (b,N)↔0<b:=fun b=>by
  rw[qlt_nz (by simp)]
  simp only
  omega
 have ri : ∀ a : Int,0≤a→qlt (a,N) (1,0):=fun a ha=>qlt_nzz (by simp only;omega) rfl ⟨ha,by simp only;omega,by simp only;omega⟩ ⟨by simp,by simp,by simp⟩
 have r1 : qlt (0,1) (1,0):=qlt_nzz (by simp) rfl ⟨by simp,by simp,by simp⟩ ⟨by simp,by simp,by simp⟩
 have cI : ∀ p s,s<sh p→c p s=(1,0):=fun p s k=>by rw[cv,if_pos k]
 have cE : ∀ p s,s=sh p→c p s=(rm p,N):=fun p s k=>by rw[cv,if_neg (by omega),if_pos k]
 have cG : ∀ p s,sh p<s→c p s=(0,1):=fun p s k=>by rw[cv,if_neg (by omega),if_neg (by omega)]
 have hgood : ∀ q,q<8→0<rm q→good v c (c q (sh q)):=by
  intro q hq hr o u ho vo hu k1 k2
  rw[cE q _ rfl] at k1 k2
  rcases Int.lt_trichotomy u (sh o) with k|k|k
  ·rw[cI o u k] at k2
   exact absurd (ri _ (by omega)) k2
  ·rw[cE o u k,cG o (u+1) (by omega)]
   rw[cE o u k,rl] at k1
   exact (r0 _).2 (by omega)
  ·rw[cG o u k] at k1
   exact absurd ((r0 _).2 hr) k1
 -- nobody has less than the share
 have hlow : ∀ q,q<8→sh q≤A q:=by
  intro q hq
  apply Decidable.by_contra
  intro hh
  have vq : 0<v q:=Decidable.by_contra fun k=>by have:=zsh q k;omega
  have cq:=cI q (A q) (by omega)
  have hle : ∀ o,o<8→A o≤sh o:=by
   intro o ho
   apply Decidable.by_contra
   intro k
   have vo : 0<v o:=Decidable.by_contra fun k2=>by have:=zsh o k2;omega
   have bo:=bsh o ho
   refine F.weak o q (A o-1) ho vo hq vq (by omega) (by omega) ?_
   rw[cq]
   by_cases k2 : A o-1=sh o
   ·rw[cE o _ k2];exact ri _ bo.2
   ·rw[cG o _ (by omega)];exact r1
  have hlt : sm A 8<sm sh 8:=sm_lt hle hq (by omega)
  have q1' : sm sh 8≤S:=by rw[hsh];exact q1
  rcases hF with⟨h,_⟩|⟨_,e,_⟩|⟨_,e1,e2,eB⟩
  ·exact h q hq vq
  ·omega
  ·have h1 : sm (Sea.up A (tp v (fun p=>c p (A p)) 8)) 8≤sm sh 8:=by
    refine sm_le fun o ho=>?_
    unfold Sea.up
    split
    ·rename_i hT
     have:=(mem_tp.1 hT).2.2 q hq vq
     rw[cq] at this
     apply Decidable.by_contra
     intro k
     have ao : A o=sh o:=by have:=hle o ho;omega
     rw[cE o _ ao] at this
     exact this (ri _ (bsh o ho).2)
    ·exact hle o ho
   rw[sm_up tp_nodup (fun q hq=>(mem_tp.1 hq).1)] at h1
   omega
 -- nobody has more than the share rounded up
 have hfull : (∀ o,o<8→0<v o→0<rm o→sh o+1≤A o)→∀ o,o<8→shi S v o≤A o:=by
  intro h o ho
  rw[eshi o ho]
  by_cases k : 0<rm o
  ·rw[if_pos k]
   exact h o ho (Decidable.by_contra fun k2=>by have:=zsh o k2;omega) k
  ·rw[if_neg k]
   have:=hlow o ho;omega
 have hup : ∀ q,q<8→A q≤shi S v q:=by
  intro q hq
  apply Decidable.by_contra
  intro hh
  have vq : 0<v q:=Decidable.by_contra fun k=>by
   have:=zsh q k
   rw[eshi q hq,if_neg (by omega)] at hh
   omega
  have bq:=bsh q hq
  have hz:=hfull (fun o ho vo ro=>by
   apply Decidable.by_contra
   intro k
   have w:=F.weak q o (shi S v q) hq vq ho vo (by rw[eshi q hq];split<;>omega) (by omega)
   have lo:=hlow o ho
   rw[cE o (A o) (by omega)] at w
   apply w
   rw[eshi q hq]
   by_cases k2 : 0<rm q
   ·rw[if_pos k2,cG q _ (by omega)]
    exact (r0 _).2 ro
   ·rw[if_neg k2,cE q _ (by omega),rl]
    omega)
  have:=sm_lt (s:=fun p=>shi S v p) (t:=A) hz hq (by omega)
  omega
 have hD : ∀ q,q<8→A q=sh q∨(A q=sh q+1∧0<rm q):=fun q hq=>by
  have h1:=hlow q hq
  have h2:=hup q hq
  rw[eshi q hq] at h2
  split at h2<;>omega
 have notfull : sm A 8<S→∃ o,o<8∧0<v o∧0<rm o∧A o=sh o:=fun h=>by
  apply Decidable.by_contra
  intro k
  have:=sm_le (s:=fun p=>shi S v p) (t:=A) (n:=8) (hfull (fun o ho vo ro=>by
   rcases hD o ho with k2|k2
   ·exact absurd ⟨o,ho,vo,ro,k2⟩ k
   ·omega))
  omega
 -- who has one more beats whoever has not
 have beat : ∀ q o,q<8→o<8→0<v o→A q=sh q+1→A o=sh o→rm o<rm q:=by
  intro q o hq ho vo e1 e2
  have vq : 0<v q:=Decidable.by_contra fun k=>by have:=zsh q k;omega
  have hr : 0<rm q:=by rcases hD q hq with k|k;omega;exact k.2
  have:=hSG q o (sh q) hq vq ho vo (bsh q hq).1 (by omega) (hgood q hq hr)
  rw[cE q _ rfl,cE o _ e2,rl] at this
  exact this
 have eD : sm (fun q=>A q-sh q) 8+sm sh 8=sm A 8:=by
  rw[← sm_add]
  exact sm_cong fun q _=>by omega
 have hl : rleft S v=S-sm sh 8:=by unfold rleft;rw[hsh]
 have hbe : rbe S v p=sm (fun q=>if 0<v q∧rm p<rm q then 1 else 0) 8:=by unfold rbe;rw[hrm]
 have hBE : rBE S v p=sm (fun q=>if 0<v q∧rm p≤rm q then 1 else 0) 8:=by unfold rBE;rw[hrm]
 have hlt : rbe S v p<rBE S v p:=by
  rw[hbe,hBE]
  refine sm_lt (p:=p) (fun q _=>?_) hp ?_
  ·by_cases k : 0<v q∧rm p<rm q
   ·rw[if_pos k,if_pos ⟨k.1,by omega⟩];omega
   ·rw[if_neg k];split<;>omega
  ·rw[if_neg (by omega),if_pos ⟨vp,Int.le_refl _⟩];omega
 rw[esh]
 rcases hD p hp with eA|⟨eA,hrp⟩
 ·-- it has its share
  have hDbe : sm (fun q=>A q-sh q) 8≤rbe S v p:=by
   rw[hbe]
   refine sm_le fun q hq=>?_
   rcases hD q hq with k|⟨k,kr⟩
   ·split<;>omega
   ·rw[if_pos ⟨Decidable.by_contra fun k2=>by have:=zsh q k2;omega,beat q p hq hp vp k eA⟩];omega
  rcases hF with⟨h,_⟩|⟨_,e,eB⟩|⟨_,e1,e2,eB⟩
  ·exact absurd vp (h p hp)
  ·rw[eB,if_neg (by omega),if_neg (by omega)]
   exact⟨by omega,by omega⟩
  ·obtain⟨T,hT⟩ : ∃ T,T=tp v (fun p=>c p (A p)) 8:=⟨_,rfl⟩
   rw[← hT] at e2 eB
   have memT : ∀ q,q∈T↔q<8∧0<v q∧∀ o,o<8→0<v o→¬ qlt (c q (A q)) (c o (A o)):=fun q=>by rw[hT];exact mem_tp
   have sB : sm B 8=sm A 8+T.length:=by
    rw[eB]
    exact sm_up (by rw[hT];exact tp_nodup) (fun q hq=>((memT q).1 hq).1)
   have vB : ∀ q,B q=if q∈T then A q+1 else A q:=fun q=>by rw[eB];rfl
   obtain⟨o,ho,vo,ro,ao⟩:=notfull e1
   have hTs : ∀ q,q∈T→A q=sh q:=fun q hq=>by
    obtain⟨h8,_,top⟩:=(memT q).1 hq
    rcases hD q h8 with k|⟨k,_⟩
    ·exact k
    ·have:=top o ho vo
     rw[cG q _ (by omega),cE o _ ao] at this
     exact absurd ((r0 _).2 ro) this
   have eBs : sm (fun q=>B q-sh q) 8+sm sh 8=sm B 8:=by
    rw[← sm_add]
    exact sm_cong fun q _=>by omega
   by_cases hpT : p∈T
   ·have top:=((memT p).1 hpT).2.2
    have h1 : rbe S v p≤sm (fun q=>A q-sh q) 8:=by
     rw[hbe]
     refine sm_le fun q hq=>?_
     rcases hD q hq with k|⟨k,kr⟩
     ·have : ¬ (0<v q∧rm p<rm q):=fun hh=>by
       have:=top q hq hh.1
       rw[cE p _ eA,cE q _ k,rl] at this
       exact this hh.2
      rw[if_neg this];omega
     ·split<;>omega
    have h2 : sm (fun q=>B q-sh q) 8≤rBE S v p:=by
     rw[hBE]
     refine sm_le fun q hq=>?_
     rw[vB]
     by_cases hqT : q∈T
     ·have hq2:=(memT q).1 hqT
      have:=hq2.2.2 p hp vp
      rw[cE p _ eA,cE q _ (hTs q hqT),rl] at this
      rw[if_pos hqT,if_pos ⟨hq2.2.1,by omega⟩]
      have:=hTs q hqT
      omega
     ·rw[if_neg hqT]
      rcases hD q hq with k|⟨k,kr⟩
      ·split<;>omega
      ·have:=beat q p hq hp vp k eA
       rw[if_pos ⟨Decidable.by_contra fun k2=>by have:=zsh q k2;omega,by omega⟩];omega
    rw[vB,if_pos hpT,if_neg (by omega),if_pos (by omega)]
    exact⟨by omega,by omega⟩
   ·have : ∃ q,q<8∧0<v q∧qlt (c p (A p)) (c q (A q)):=by
     apply Decidable.by_contra
     intro hh
     exact hpT ((memT p).2 ⟨hp,vp,fun q hq hvq kk=>hh ⟨q,hq,hvq,kk⟩⟩)
    obtain⟨x,hx,vx,kk⟩:=this
    rw[cE p _ eA] at kk
    have ex : A x=sh x:=by
     rcases hD x hx with k|⟨k,_⟩
     ·exact k
     ·rw[cG x _ (by omega),qlt_nz (by simp)] at kk
      simp only at kk
      have:=(bsh p hp).2
      omega
    rw[cE x _ ex,rl] at kk
    have h2 : sm (fun q=>B q-sh q) 8≤rbe S v p:=by
     rw[hbe]
     refine sm_le fun q hq=>?_
     rw[vB]
     by_cases hqT : q∈T
     ·have hq2:=(memT q).1 hqT
      have:=hq2.2.2 x hx vx
      rw[cE x _ ex,cE q _ (hTs q hqT),rl] at this
      rw[if_pos hqT,if_pos ⟨hq2.2.1,by omega⟩]
      have:=hTs q hqT
      omega
     ·rw[if_neg hqT]
      rcases hD q hq with k|⟨k,kr⟩
      ·split<;>omega
      ·have:=beat q p hq hp vp k eA
       rw[if_pos ⟨Decidable.by_contra fun k2=>by have:=zsh q k2;omega,by omega⟩];omega
    rw[vB,if_neg hpT,if_neg (by omega),if_neg (by omega)]
    exact⟨by omega,by omega⟩
 ·-- it has one more
  have h1 : rBE S v p≤sm (fun q=>A q-sh q) 8:=by
   rw[hBE]
   refine sm_le fun q hq=>?_
   rcases hD q hq with k|⟨k,kr⟩
   ·have : ¬ (0<v q∧rm p≤rm q):=fun hh=>by
     have:=beat p q hp hq hh.1 eA k
     omega
    rw[if_neg this];omega
   ·split<;>omega
  rcases hF with⟨h,_⟩|⟨_,e,eB⟩|⟨_,e1,e2,eB⟩
  ·exact absurd vp (h p hp)
  ·rw[eB,if_pos (by omega),if_pos (by omega)]
   exact⟨by omega,by omega⟩
  ·have hpT : ¬ p∈tp v (fun p=>c p (A p)) 8:=fun hh=>by
    obtain⟨o,ho,vo,ro,ao⟩:=notfull e1
    have:=(mem_tp.1 hh).2.2 o ho vo
    rw[cG p _ (by omega),cE o _ ao] at this
    exact this ((r0 _).2 ro)
   have vB : B p=A p:=by rw[eB];unfold Sea.up;rw[if_neg hpT]
   rw[vB,if_pos (by omega),if_pos (by omega)]
   exact⟨by omega,by omega⟩
end Go.Xe.TVX
/- What the functions of the layer seat come to: Remainders. Conditions: none. -/
-- MOD TV
namespace Go.Xe.TVX
open Go Go.Xe Go.Proofs
open Nat renaming reduceLeDiff → qA, reduceSub → qB, reduceAdd → qC, reduceEqDiff → qD, reduceLT → qE
open Int renaming reduceNegSucc → qF, reduceEq → qG
open Go.Xe.V renaming seq → sA, block → sB, scope → sC, skip → sD, close → sE
open Go.Xe renaming pth → P
open Go.Xe.Sea
set_option maxRecDepth 100000
set_option maxHeartbeats 3200000
set_option linter.unusedSimpArgs false
end Go.Xe.TVX
/- What the functions of the layer seat come to: SeatGives. Conditions: none. -/
-- MOD TV
-- NOCODE 23
namespace Go.Xe.TVX
open Go Go.Xe Go.Proofs
open Nat renaming reduceLeDiff → qA, reduceSub → qB, reduceAdd → qC, reduceEqDiff → qD, reduceLT → qE
open Int renaming reduceNegSucc → qF, reduceEq → qG
open Go.Xe.V renaming seq → sA, block → sB, scope → sC, skip → sD, close → sE
open Go.Xe renaming pth → P
open Go.Xe.Sea
set_option maxRecDepth 100000
set_option maxHeartbeats 3200000
set_option linter.unusedSimpArgs false
noncomputable def d3 : FCode:=(.seq (.run (.go (.box 23 (tm 0)) (P 2)::
.go (.move (.con (.bool false))) (P 4)::
[])) (.seq (.seq (.run (.go (.move (tm 1)) (P 11)::
.go (.len 0 (tm 11)) (P 12)::
.go (.bin .gtr 3 (tm 12) (.con (.int .i64 (.ofNat 11)))) (P 13)::
[])) (.cond (tm 13) (.seq (.run (.go (.call (.con (.func (.func 20) ⟨[]⟩ ⟨[]⟩)) []) (P 14)::
.go (.move (tm 14)) (P 4)::
[])) .ret) .skip)) (.seq (.run (.go (.loadN 3 (tm 2)) (P 15)::
.go (.call (.con (.func (.func 22) ⟨[]⟩ ⟨[]⟩)) [tm 15]) (P 16)::
.go (.call (.con (.func (.func 21) ⟨[]⟩ ⟨[]⟩)) [tm 16]) (P 17)::
.go (.move (tm 17)) (P 5)::
[])) (.seq (.run (.go (.loadN 3 (tm 2)) (P 19)::
.go (.call (.con (.func (.func 22) ⟨[]⟩ ⟨[]⟩)) [tm 19]) (P 20)::
.go (.move (tm 1)) (P 21)::
.go (.call (.con (.func (.func 24) ⟨[]⟩ ⟨[]⟩)) [tm 21]) (P 22)::
.go (.call (.con (.func (.func 23) ⟨[]⟩ ⟨[]⟩)) [(tm 20),(tm 22)]) (P 23)::
.go (.move (tm 23)) (P 18)::
.go (.extract (tm 18) 0) (P 24)::
.go (.extract (tm 18) 1) (P 25)::
.go (.move (tm 24)) (P 6)::
.go (.move (tm 25)) (P 7)::
[])) (.seq (.run (.go (.loadN 3 (tm 2)) (P 26)::
.go (.move (tm 1)) (P 27)::
.go (.call (.con (.func (.func 25) ⟨[]⟩ ⟨[]⟩)) [(tm 26),(tm 27)]) (P 28)::
.go (.move (tm 28)) (P 8)::
[])) (.seq (.seq (.run (.go (.move (tm 5)) (P 29)::
.go (.loadN 3 (tm 2)) (P 30)::
.go (.call (.con (.func (.func 26) ⟨[]⟩ ⟨[]⟩)) [tm 30]) (P 31)::
.go (.bin .neq 26 (tm 29) (tm 31)) (P 32)::
[])) (.cond (tm 32) (.seq (.run (.go (.move (.con (.bool false))) (P 4)::
[])) .ret) .skip)) (.seq (.seq (.run (.go (.move (tm 8)) (P 33)::
.go (.bin .neq 26 (tm 33) (.con (.int .i64 (.ofNat 0)))) (P 34)::
[])) (.cond (tm 34) (.seq (.run (.go (.move (tm 7)) (P 35)::
.go (.move (tm 8)) (P 36)::
.go (.bin .eql 26 (tm 35) (tm 36)) (P 37)::
.go (.move (tm 37)) (P 38)::
.gd (P 38) true (.move (tm 6)) (P 39)::
.gd (P 38) true (.len 0 (tm 39)) (P 40)::
.gd (P 38) true (.bin .eql 3 (tm 40) (.con (.int .i64 (.ofNat 0)))) (P 41)::
.go (.pick (tm 38) (tm 41) (.con (.bool false))) (P 42)::
.go (.move (tm 42)) (P 43)::
.gd (P 43) true (.call (.con (.func (.func 20) ⟨[]⟩ ⟨[]⟩)) []) (P 44)::
.go (.pick (tm 43) (tm 44) (.con (.bool false))) (P 45)::
.go (.move (tm 45)) (P 4)::
[])) .ret) .skip)) (.seq (.run (.go (.loadN 3 (tm 2)) (P 47)::
.go (.move (tm 1)) (P 48)::
.go (.call (.con (.func (.func 27) ⟨[]⟩ ⟨[]⟩)) [(tm 47),(tm 48)]) (P 49)::
.go (.move (tm 49)) (P 46)::
.go (.extract (tm 46) 0) (P 50)::
.go (.extract (tm 46) 1) (P 51)::
.go (.move (tm 50)) (P 9)::
.go (.move (tm 51)) (P 10)::
[])) (.seq (.seq (.run (.go (.move (tm 10)) (P 52)::
.go (.un .not (tm 52)) (P 53)::
[])) (.cond (tm 53) (.seq (.run (.go (.move (tm 7)) (P 54)::
.go (.bin .eql 26 (tm 54) (.con (.int .i64 (.ofNat 10)))) (P 55)::
.go (.move (tm 55)) (P 56)::
.gd (P 56) true (.move (tm 6)) (P 57)::
.gd (P 56) true (.len 0 (tm 57)) (P 58)::
.gd (P 56) true (.bin .eql 3 (tm 58) (.con (.int .i64 (.ofNat 0)))) (P 59)::
.go (.pick (tm 56) (tm 59) (.con (.bool false))) (P 60)::
.go (.move (tm 60)) (P 61)::
.gd (P 61) true (.call (.con (.func (.func 20) ⟨[]⟩ ⟨[]⟩)) []) (P 62)::
.go (.pick (tm 61) (tm 62) (.con (.bool false))) (P 63)::
.go (.move (tm 63)) (P 4)::
[])) .ret) .skip)) (.seq (.run (.go (.move (tm 7)) (P 64)::
.go (.bin .eql 26 (tm 64) (.con (.int .i64 (.ofNat 0)))) (P 65)::
.go (.move (tm 65)) (P 66)::
.gd (P 66) true (.move (tm 6)) (P 67)::
.gd (P 66) true (.move (tm 9)) (P 68)::
.gd (P 66) true (.call (.con (.func (.func 28) ⟨[]⟩ ⟨[]⟩)) [(tm 67),(tm 68)]) (P 69)::
.go (.pick (tm 66) (tm 69) (.con (.bool false))) (P 70)::
.go (.move (tm 70)) (P 71)::
.gd (P 71) true (.call (.con (.func (.func 20) ⟨[]⟩ ⟨[]⟩)) []) (P 72)::
.go (.pick (tm 71) (tm 72) (.con (.bool false))) (P 73)::
.go (.move (tm 73)) (P 4)::
[])) .ret))))))))))
def RSL (m S L : Int) (l : List Int) (X : Heap) (w : Value) : Prop:=(sure m S (vl L l)∧∃ y,w=.tuple ⟨[y,.bool true]⟩∧LS X y (fl l.length (otc m S (vl L l)).1))∨(¬ sure m S (vl L l)∧w=.tuple ⟨[.slice none 0 0,.bool false]⟩)
end Go.Xe.TVX
/- What the functions of the layer seat come to: SeatProves. Conditions: none. -/
-- MOD TV
namespace Go.Xe.TVX
open Go Go.Xe Go.Proofs
open Nat renaming reduceLeDiff → qA, reduceSub → qB, reduceAdd → qC, reduceEqDiff → qD, reduceLT → qE
open Int renaming reduceNegSucc → qF, reduceEq → qG
open Go.Xe.V renaming seq → sA, block → sB, scope → sC, skip → sD, close → sE
open Go.Xe renaming pth → P
open Go.Xe.Sea
set_option maxRecDepth 100000
set_option maxHeartbeats 3200000
set_option linter.unusedSimpArgs false
section
variable {m S : Int} {v : Nat→Int}
theorem fact5 (hv : vok v) (hS : 0≤S∧S≤61) (hv8 : ∀ p,¬ p<8→v p=0) (hN : 0<sm v 8) {p : Nat} (hp : p<8) (vp : 0<v p) :
  ((otc 5 S v).1 p=(shr S v p).1∨((otc 5 S v).1 p=(shr S v p).1+1∧0<(shr S v p).2))∧((otc 5 S v).2 p=(shr S v p).1∨((otc 5 S v).2 p=(shr S v p).1+1∧0<(shr S v p).2)):=by
 obtain⟨hA,hB⟩:=spread5 hv hS hv8 hN hp vp
 obtain⟨K,hK⟩ : ∃ K,K=sm (fun q=>if 0<(shr S v q).2 then (1 : Int) else 0) 8:=⟨_,rfl⟩
 have q2:=(shr_sums hv hS).2 hN
 have zr : ∀ q,0<(shr S v q).2→v q≠0:=fun q h k=>by unfold shr at h;rw[if_pos k] at h;simp at h
 have bs : ∀ q,q<8→0≤(shr S v q).2:=fun q hq=>(shr_bd hv hS hq).2.1
 have eK : sm (fun q=>shi S v q) 8=sm (fun q=>(shr S v q).1) 8+K:=by
  rw[hK,← sm_add]
  refine sm_cong fun q hq=>?_
  have:=bs q hq
  unfold shi
  split<;>split<;>omega
 have hl : rleft S v≤K:=by unfold rleft;omega
 have pos : ∀ q,q<8→0<(shr S v q).2→0<v q:=fun q hq h=>by
  have:=zr q h
  have:=(hv q hq).1
  omega
 constructor
 ·split at hA
  ·rename_i h
   refine .inr ⟨hA,Decidable.by_contra fun k=>?_⟩
   have : K<rBE S v p:=by
    rw[hK]
    unfold rBE
    refine sm_lt (p:=p) (fun q hq=>?_) hp ?_
    ·by_cases k2 : 0<(shr S v q).2
     ·rw[if_pos k2,if_pos ⟨pos q hq k2,by omega⟩];omega
     ·rw[if_neg k2];split<;>omega
    ·rw[if_neg k,if_pos ⟨vp,Int.le_refl _⟩];omega
   omega
  ·exact .inl (by omega)
 ·split at hB
  ·rename_i h
   refine .inr ⟨hB,Decidable.by_contra fun k=>?_⟩
   have : K≤rbe S v p:=by
    rw[hK]
    unfold rbe
    refine sm_le (fun q hq=>?_)
    by_cases k2 : 0<(shr S v q).2
    ·rw[if_pos k2,if_pos ⟨pos q hq k2,by omega⟩];omega
    ·rw[if_neg k2];split<;>omega
   omega
  ·exact .inl (by omega)
theorem rl5 {N : Int} (hN : 0<N) (a b : Int) : qlt (a,N) (b,N)↔a<b:=by
 rw[qlt_nz (by simp only;omega)]
 exact⟨fun k=>Int.lt_of_mul_lt_mul_right k (by omega),fun k=>Int.mul_lt_mul_of_pos_right k hN⟩
theorem r05 {N : Int} (b : Int) : qlt (0,1) (b,N)↔0<b:=by
 rw[qlt_nz (by simp)]
 simp only
 omega
theorem cl5 {p : Nat} {s : Int} : clq 5 S v p s=if s<(shr S v p).1 then (1,0) else if s=(shr S v p).1 then ((shr S v p).2,sm v 8) else (0,1):=by
 unfold clq;rw[if_pos rfl]
theorem sharp (hv : vok v) (hS : 0≤S∧S≤61) (hv8 : ∀ p,¬ p<8→v p=0) (hN : 0<sm v 8) {p q : Nat} (hp : p<8) (vp : 0<v p) (hq : q<8) (vq : 0<v q) (h : 0<(otc m S v).1 p) : qlt (clq m S v q ((otc m S v).1 q)) (clq m S v p ((otc m S v).1 p-1)):=by
 by_cases h5 : m=5
 ·subst h5
  have bp:=shr_bd hv hS hp
  have bq:=shr_bd hv hS hq
  have fq:=(fact5 hv hS hv8 hN hq vq).1
  have fin : ∀ a : Int,0≤a→qlt (a,sm v 8) (1,0):=fun a ha=>qlt_nzz (by simp only;omega) rfl ⟨ha,by simp only;omega,by simp only;omega⟩ ⟨by simp,by simp,by simp⟩
  rcases (fact5 hv hS hv8 hN hp vp).1 with e|⟨e,r⟩
  ·have e2 : clq 5 S v p ((otc 5 S v).1 p-1)=(1,0):=by rw[cl5,if_pos (by omega)]
   rw[e2]
   rcases fq with k|⟨k,_⟩
   ·rw[cl5,if_neg (by omega),if_pos k];exact fin _ bq.2.1
   ·rw[cl5,if_neg (by omega),if_neg (by omega)];exact qlt_nzz (by simp) rfl ⟨by simp,by simp,by simp⟩ ⟨by simp,by simp,by simp⟩
  ·have e2 : clq 5 S v p ((otc 5 S v).1 p-1)=((shr S v p).2,sm v 8):=by rw[cl5,if_neg (by omega),if_pos (by omega)]
   rw[e2]
   rcases fq with k|⟨k,_⟩
   ·rw[cl5,if_neg (by omega),if_pos k,rl5 hN]
    apply Decidable.by_contra
    intro hh
    have hA:=(spread5 hv hS hv8 hN hp vp).1
    have hA':=(spread5 hv hS hv8 hN hq vq).1
    have h1 : rBE S v q≤rBE S v p:=by
     unfold rBE
     refine sm_le fun o _=>?_
     by_cases k2 : 0<v o∧(shr S v q).2≤(shr S v o).2
     ·rw[if_pos k2,if_pos ⟨k2.1,by omega⟩];omega
     ·rw[if_neg k2];split<;>omega
    have h2 : rBE S v p≤rleft S v:=by
     apply Decidable.by_contra
     intro k2
     rw[if_neg k2] at hA
     omega
    rw[if_pos (by omega)] at hA'
    omega
   ·rw[cl5,if_neg (by omega),if_neg (by omega),r05]
    exact r
 ·have F:=(otc_fin (m:=m) hv hS hv8).1
  exact F.strict (fun p t h ht=>clq_str h5 h ht) p q _ hp vp hq vq (by omega) (by omega)
theorem is_res (hv : vok v) (hS : 0≤S∧S≤61) (hv8 : ∀ p,¬ p<8→v p=0) {s : Nat→Int} (hs : ∀ p,p<8→0≤s p) :
  RES m S v s↔(∀ p,p<8→(otc m S v).1 p≤s p∧s p≤(otc m S v).2 p)∧(sm s 8=S∨¬ 0<sm v 8):=by
 have F0:=otc_fin (m:=m) hv hS hv8
 have hbd:=Fin.bd F0 hS.1
 have hsb:=sm_bd hv
 have ok : ∀ q (t : Int),q<8→0<v q→0≤t→qok (clq m S v q t):=fun q t hq hvq ht=>clq_ok hv hS hq hvq ht
 have dec : ∀ q (a b : Int),q<8→0<v q→0≤a→a≤b→¬ qlt (clq m S v q a) (clq m S v q b):=fun q a b hq hvq ha hab=>clq_le' hv hS hq hvq ha hab
 by_cases hN : 0<sm v 8
 rotate_left
 ·have hno : ∀ p,p<8→¬ 0<v p:=fun p hp hh=>hN ((sm_pos' hv).2 ⟨p,hp,hh⟩)
  have eA:=sure_none hno F0
  have eB : (otc m S v).2=fun _=>0:=by
   rcases F0.2 with⟨_,_,e⟩|⟨⟨p,h1,h2⟩,_⟩|⟨⟨p,h1,h2⟩,_⟩
   ·rw[e,eA]
   ·exact absurd h2 (hno p h1)
   ·exact absurd h2 (hno p h1)
  rw[eA,eB]
  constructor
  ·intro R
   refine⟨fun p hp=>?_,.inr hN⟩
   have h1:=R.1.1 p hp
   have h2:=hs p hp
   have h3:=(hv p hp).1
   have h4:=hno p hp
   dsimp only
   refine⟨h2,Decidable.by_contra fun k=>h1 ⟨by omega,by omega⟩⟩
  ·rintro⟨h,_⟩
   have hz : ∀ p,p<8→s p=0:=fun p hp=>by have:=h p hp;dsimp only at this;omega
   refine⟨⟨fun p hp k=>by have:=hz p hp;omega,?_⟩,fun p q hp vp=>absurd vp (hno p hp)⟩
   have : sm s 8=sm (fun _=>0) 8:=sm_cong fun p hp=>hz p hp
   rw[this,sm_0]
   unfold due
   rw[if_pos (by omega)]
 have hdue : due S v=S:=by unfold due;rw[if_neg (by omega)]
 have shp:=fun (p q : Nat) hp vp hq vq h=>sharp (m:=m) (p:=p) (q:=q) hv hS hv8 hN hp vp hq vq h
 obtain⟨F,hF⟩:=F0
 obtain⟨A,hA⟩ : ∃ A,A=(otc m S v).1:=⟨_,rfl⟩
 obtain⟨B,hB⟩ : ∃ B,B=(otc m S v).2:=⟨_,rfl⟩
 rw[← hA,← hB] at hF hbd
 rw[← hA] at F shp
 rw[← hA,← hB]
 obtain⟨bd1,bd2,_,bd3⟩:=hbd
 have nn:=F.nn
 have zA : ∀ q,¬ 0<v q→A q=0:=fun q hq=>F.adm q (fun k=>hq k.2)
 have hB1 : ∀ q,B q=A q∨(B q=A q+1∧q<8∧0<v q∧(∀ o,o<8→0<v o→¬ qlt (clq m S v q (A q)) (clq m S v o (A o)))):=fun q=>by
  rcases hF with⟨_,_,e⟩|⟨_,_,e⟩|⟨_,_,_,e⟩
  ·exact .inl (by rw[e])
  ·exact .inl (by rw[e])
  ·by_cases k : q∈tp v (fun p=>clq m S v p (A p)) 8
   ·refine .inr ⟨by rw[e];unfold Sea.up;rw[if_pos k],mem_tp.1 k⟩
   ·exact .inl (by rw[e];unfold Sea.up;rw[if_neg k])
 constructor
 ·rintro⟨⟨r1,r2⟩,r3⟩
  rw[hdue] at r2
  have vpos : ∀ q,q<8→0<s q→0<v q:=fun q hq k=>by
   have:=r1 q hq
   have:=(hv q hq).1
   apply Decidable.by_contra
   intro k2
   exact r1 q hq ⟨k,by omega⟩
  have lowS : ∀ p,p<8→A p≤s p:=by
   intro p hp
   apply Decidable.by_contra
   intro hh
   have s0:=hs p hp
   have vp : 0<v p:=Decidable.by_contra fun k=>by have:=zA p k;omega
   have : ∃ q,q<8∧A q<s q:=by
    apply Decidable.by_contra
    intro k
    have:=sm_lt (s:=s) (t:=A) (p:=p) (n:=8) (fun q hq=>Decidable.by_contra fun k2=>k ⟨q,hq,by omega⟩) hp (by omega)
    omega
   obtain⟨q,hq,hl⟩:=this
   have n0:=nn q
   have vq:=vpos q hq (by omega)
   refine r3 p q hp vp hq vq (by omega) ?_
   have c1:=ok q (s q-1) hq vq (by omega)
   have c2:=ok q (A q) hq vq n0
   have c3:=ok p (A p-1) hp vp (by omega)
   have c4:=ok p (s p) hp vp s0
   exact qlt_le c1 c3 c4 (le_qlt c1 c2 c3 (dec q (A q) (s q-1) hq vq n0 (by omega)) (shp p q hp vp hq vq (by omega))) (dec p (s p) (A p-1) hp vp s0 (by omega))
  refine⟨fun q hq=>⟨lowS q hq,?_⟩,.inl r2⟩
  apply Decidable.by_contra
  intro hh
  have n0:=nn q
  have lq:=(bd2 q).1
  have vq:=vpos q hq (by omega)
  have : ∃ x,x<8∧s x<B x:=by
   apply Decidable.by_contra
   intro k
   have h1:=sm_lt (s:=B) (t:=s) (p:=q) (n:=8) (fun x hx=>Decidable.by_contra fun k2=>k ⟨x,hx,by omega⟩) hq (by omega)
   have h2 : S≤sm B 8:=by
    rcases hF with⟨h,_⟩|⟨_,e,eB⟩|⟨_,e1,e2,eB⟩
    ·exact absurd vq (h q hq)
    ·rw[eB];omega
    ·rw[eB,sm_up tp_nodup (fun q hq=>(mem_tp.1 hq).1)];omega
   omega
  obtain⟨x,hx,hl⟩:=this
  have lx:=lowS x hx
  rcases hB1 x with k|⟨k,_,vx,top⟩
  ·omega
  have ex : s x=A x:=by omega
  have cx:=ok x (A x) hx vx (nn x)
  have c1:=ok q (s q-1) hq vq (by omega)
  have c2:=ok q (A q) hq vq n0
  refine r3 x q hx vx hq vq (by omega) ?_
  rw[ex]
  rcases hB1 q with k2|⟨k2,_,_,topq⟩
  ·-- q is none of the tops
   have nt : ¬ ∀ o,o<8→0<v o→¬ qlt (clq m S v q (A q)) (clq m S v o (A o)):=by
    intro hall
    rcases hF with⟨h,_⟩|⟨_,e,eB⟩|⟨_,_,_,eB⟩
    ·exact h q hq vq
    ·rw[eB] at k;omega
    ·have : q∈tp v (fun p=>clq m S v p (A p)) 8:=mem_tp.2 ⟨hq,vq,hall⟩
     rw[eB] at k2
     unfold Sea.up at k2
     rw[if_pos this] at k2
     omega
   have : ∃ o,o<8∧0<v o∧qlt (clq m S v q (A q)) (clq m S v o (A o)):=by
    apply Decidable.by_contra
    intro hh2
    exact nt (fun o ho hvo kk=>hh2 ⟨o,ho,hvo,kk⟩)
   obtain⟨o,ho,vo,kk⟩:=this
   exact le_qlt c1 c2 cx (dec q (A q) (s q-1) hq vq n0 (by omega)) (qlt_le c2 (ok o (A o) ho vo (nn o)) cx kk (top o ho vo))
  ·-- q is one of them and has two more
   have c5:=ok q (A q+1) hq vq (by omega)
   have d1:=dec q (A q+1) (s q-1) hq vq (by omega) (by omega)
   have d2 : qlt (clq m S v q (A q+1)) (clq m S v x (A x)):=by
    by_cases h5 : m=5
    ·subst h5
     have fq:=fact5 hv hS hv8 hN hq vq
     have fx:=fact5 hv hS hv8 hN hx vx
     rw[← hA,← hB] at fq fx
     have aq : A q=(shr S v q).1:=by rcases fq with⟨f1|f1,f2|f2⟩<;>omega
     have ax : A x=(shr S v x).1∧0<(shr S v x).2:=by rcases fx with⟨f1|f1,f2|f2⟩<;>omega
     have e1 : clq 5 S v q (A q+1)=(0,1):=by rw[cl5,if_neg (by omega),if_neg (by omega)]
     have e2 : clq 5 S v x (A x)=((shr S v x).2,sm v 8):=by rw[cl5,if_neg (by omega),if_pos (by omega)]
     rw[e1,e2,r05]
     exact ax.2
    ·exact qlt_le c5 c2 cx (clq_str h5 vq n0) (top q hq vq)
   exact le_qlt c1 c5 cx d1 d2
 ·rintro⟨hab,hsum⟩
  have hsum : sm s 8=S:=hsum.elim id (fun k=>absurd hN k)
  refine⟨⟨fun p hp k=>?_,by rw[hdue];exact hsum⟩,fun p q hp vp hq vq hsq hh=>?_⟩
  ·have h1:=(hab p hp).2
   have nv : ¬ 0<v p:=by omega
   have h2:=zA p nv
   rcases hB1 p with k2|⟨_,_,vp,_⟩
   ·omega
   ·exact nv vp
  ·have np:=nn p
   have nq:=nn q
   have ap:=(hab p hp).1
   have aq:=(hab q hq)
   have c1:=ok q (s q-1) hq vq (by omega)
   have c2:=ok p (s p) hp vp (by omega)
   have c3:=ok p (A p) hp vp np
   have d1:=dec p (A p) (s p) hp vp np ap
   have d2 : qlt (clq m S v q (s q-1)) (clq m S v p (A p)):=qlt_le c1 c2 c3 hh d1
   by_cases k : s q=A q
   ·rw[k] at d2 hsq
    exact F.weak q p (A q-1) hq vq hp vp (by omega) (by omega) d2
   ·rcases hB1 q with k2|⟨k2,_,_,topq⟩
    ·omega
    ·have : s q-1=A q:=by omega
     rw[this] at d2
     exact topq p hp vp d2
end
end Go.Xe.TVX
