/- What the functions of the layer seat come to: the largest remainders. Conditions: none. -/
import Derived.Test.YtelfbgmhleneiaaTUM
-- MOD TV
namespace Go.Xe.TVX
open Go Go.Xe Go.Proofs
open Nat renaming reduceLeDiff → qA, reduceSub → qB, reduceAdd → qC, reduceEqDiff → qD, reduceLT → qE
open Int renaming reduceNegSucc → qF, reduceEq → qG
open Go.Xe.V renaming seq → sA, block → sB, scope → sC, skip → sD, close → sE
open Go.Xe renaming pth → P
open Go.Xe.Sea
set_option maxRecDepth 100000
set_option maxHeartbeats 3200000
set_option linter.unusedSimpArgs false
def good (v : Nat→Int) (c : Nat→Int→Q2) (x : Q2) : Prop:=∀ o (u : Int),o<8→0<v o→0≤u→¬ qlt (c o u) x→¬ qlt x (c o u)→qlt (c o (u+1)) (c o u)
def SG (v : Nat→Int) (c : Nat→Int→Q2) (low : Nat→Int) : Prop:=∀ p o t,p<8→0<v p→o<8→0<v o→0≤t→t<low p→good v c (c p t)→qlt (c o (low o)) (c p t)
section
variable {v : Nat→Int} {c : Nat→Int→Q2}
theorem SG_up (ok : ∀ p s,p<8→0<v p→0≤s→qok (c p s)) (dec : ∀ p (a b : Int),p<8→0<v p→0≤a→a≤b→¬ qlt (c p a) (c p b)) {low : Nat→Int} (nn : ∀ p,0≤low p) (h : SG v c low) : SG v c (Sea.up low (tp v (fun p=>c p (low p)) 8)):=by
 obtain⟨T,hT⟩ : ∃ T,T=tp v (fun p=>c p (low p)) 8:=⟨_,rfl⟩
 rw[← hT]
 have memT : ∀ q,q∈T↔q<8∧0<v q∧∀ o,o<8→0<v o→¬ qlt (c q (low q)) (c o (low o)):=fun q=>by rw[hT];exact mem_tp
 have vU : ∀ q,Sea.up low T q=if q∈T then low q+1 else low q:=fun q=>rfl
 intro p o t hp vp ho vo ht htl hg
 have c1:=ok p t hp vp ht
 have c2:=ok o (low o) ho vo (nn o)
 have no:=nn o
 have c3:=ok o (Sea.up low T o) ho vo (by rw[vU];split<;>omega)
 have d1:=dec o (low o) (Sea.up low T o) ho vo no (by rw[vU];split<;>omega)
 by_cases k : t<low p
 ·exact le_qlt c3 c2 c1 d1 (h p o t hp vp ho vo ht k hg)
 ·have hpT : p∈T:=by
   apply Decidable.by_contra
   intro hh
   rw[vU,if_neg hh] at htl
   omega
  have et : t=low p:=by rw[vU,if_pos hpT] at htl;omega
  subst et
  have tpp:=((memT p).1 hpT).2.2
  by_cases hoT : o∈T
  ·have:=hg o (low o) ho vo no (((memT o).1 hoT).2.2 p hp vp) (tpp o ho vo)
   rw[vU,if_pos hoT]
   exact qlt_le (ok o (low o+1) ho vo (by omega)) c2 c1 this (tpp o ho vo)
  ·rw[vU,if_neg hoT]
   have : ∃ q,q<8∧0<v q∧qlt (c o (low o)) (c q (low q)):=by
    apply Decidable.by_contra
    intro hh
    exact hoT ((memT o).2 ⟨ho,vo,fun q hq hvq kk=>hh ⟨q,hq,hvq,kk⟩⟩)
   obtain⟨q,hq,hvq,kk⟩:=this
   exact qlt_le c2 (ok q (low q) hq hvq (nn q)) c1 kk (tpp q hq hvq)
theorem giv_SG (ok : ∀ p s,p<8→0<v p→0≤s→qok (c p s)) (dec : ∀ p (a b : Int),p<8→0<v p→0≤a→a≤b→¬ qlt (c p a) (c p b)) : ∀ (f : Nat) (left : Int) (low : Nat→Int),(∀ p,0≤low p)→SG v c low→SG v c (giv v c f left low).1
 | 0,_,_,_,h=>h
 | f+1,left,low,nn,h=>by
  unfold giv
  split
  ·exact h
  ·split
   ·exact giv_SG ok dec f _ _ (fun p=>by unfold Sea.up;have:=nn p;split<;>omega) (SG_up ok dec nn h)
   ·exact h
end
theorem otc_SG {m S : Int} {v : Nat→Int} (hv : vok v) (hS : 0≤S∧S≤61) : SG v (clq m S v) (otc m S v).1:=
 giv_SG (fun p s hp vp hs=>clq_ok hv hS hp vp hs) (fun p a b hp vp ha hab=>clq_le' hv hS hp vp ha hab) 62 S (fun _=>0) (fun _=>Int.le_refl _) (fun p o t _ _ _ _ h0 ht=>by have : t<0:=ht;omega)
def rbe (S : Int) (v : Nat→Int) (p : Nat) : Int:=sm (fun q=>if 0<v q∧(shr S v p).2<(shr S v q).2 then 1 else 0) 8
def rBE (S : Int) (v : Nat→Int) (p : Nat) : Int:=sm (fun q=>if 0<v q∧(shr S v p).2≤(shr S v q).2 then 1 else 0) 8
def rleft (S : Int) (v : Nat→Int) : Int:=S-sm (fun p=>(shr S v p).1) 8
theorem spread5 {S : Int} {v : Nat→Int} (hv : vok v) (hS : 0≤S∧S≤61) (hv8 : ∀ p,¬ p<8→v p=0) (hN : 0<sm v 8) {p : Nat} (hp : p<8) (vp : 0<v p) :
  (otc 5 S v).1 p=(shr S v p).1+(if rBE S v p≤rleft S v then 1 else 0)∧(otc 5 S v).2 p=(shr S v p).1+(if rbe S v p<rleft S v then 1 else 0):=by
 have F0:=otc_fin (m:=5) hv hS hv8
 have hbd:=Fin.bd F0 hS.1
 have hSG:=otc_SG (m:=5) hv hS
 obtain⟨q1,q2⟩:=shr_sums hv hS
 have q2:=q2 hN
 obtain⟨F,hF⟩:=F0
 obtain⟨A,hA⟩ : ∃ A,A=(otc 5 S v).1:=⟨_,rfl⟩
 obtain⟨B,hB⟩ : ∃ B,B=(otc 5 S v).2:=⟨_,rfl⟩
 rw[← hA,← hB] at hF hbd
 rw[← hA] at F hSG
 rw[← hA,← hB]
 obtain⟨bd1,bd2,_,bd3⟩:=hbd
 have nn:=F.nn
 obtain⟨N,hNN⟩ : ∃ N,N=sm v 8:=⟨_,rfl⟩
 have hN0 : 0<N:=by rw[hNN];exact hN
 obtain⟨sh,hsh⟩ : ∃ sh : Nat→Int,sh=fun p=>(shr S v p).1:=⟨_,rfl⟩
 obtain⟨rm,hrm⟩ : ∃ rm : Nat→Int,rm=fun p=>(shr S v p).2:=⟨_,rfl⟩
 obtain⟨c,hc⟩ : ∃ c,c=clq 5 S v:=⟨_,rfl⟩
 have esh : ∀ p,(shr S v p).1=sh p:=fun p=>by rw[hsh]
 have erm : ∀ p,(shr S v p).2=rm p:=fun p=>by rw[hrm]
 have cv : ∀ p s,c p s=if s<sh p then (1,0) else if s=sh p then (rm p,N) else (0,1):=fun p s=>by
  rw[hc,hsh,hrm,hNN];unfold clq;rw[if_pos rfl]
 rw[← hc] at F hF hSG
 have bsh : ∀ q,q<8→0≤sh q∧0≤rm q:=fun q hq=>by
  have:=shr_bd hv hS hq
  rw[esh,erm] at this
  omega
 have zsh : ∀ q,¬ 0<v q→sh q=0∧rm q=0∧A q=0:=fun q hq=>by
  have h0 : v q=0:=by
   by_cases k : q<8
   ·have:=(hv q k).1;omega
   ·exact hv8 q k
  have e : shr S v q=(0,0):=by unfold shr;rw[if_pos h0]
  rw[← esh,← erm,e]
  exact⟨rfl,rfl,F.adm q (fun k=>hq k.2)⟩
 have eshi : ∀ q,q<8→shi S v q=sh q+if 0<rm q then 1 else 0:=fun q hq=>by
  have:=(bsh q hq).2
  unfold shi
  rw[esh,erm]
  congr 1
  split<;>split<;>omega
 have rl : ∀ a b : Int,qlt (a,N) (b,N)↔a<b:=fun a b=>by
  rw[qlt_nz (by simp only;omega)]
  exact⟨fun k=>Int.lt_of_mul_lt_mul_right k (by omega),fun k=>Int.mul_lt_mul_of_pos_right k hN0⟩
 have r0 : ∀ b : Int,qlt (0,1) (b,N)↔0<b:=fun b=>by
  rw[qlt_nz (by simp)]
  simp only
  omega
 have ri : ∀ a : Int,0≤a→qlt (a,N) (1,0):=fun a ha=>qlt_nzz (by simp only;omega) rfl ⟨ha,by simp only;omega,by simp only;omega⟩ ⟨by simp,by simp,by simp⟩
 have r1 : qlt (0,1) (1,0):=qlt_nzz (by simp) rfl ⟨by simp,by simp,by simp⟩ ⟨by simp,by simp,by simp⟩
 have cI : ∀ p s,s<sh p→c p s=(1,0):=fun p s k=>by rw[cv,if_pos k]
 have cE : ∀ p s,s=sh p→c p s=(rm p,N):=fun p s k=>by rw[cv,if_neg (by omega),if_pos k]
 have cG : ∀ p s,sh p<s→c p s=(0,1):=fun p s k=>by rw[cv,if_neg (by omega),if_neg (by omega)]
 have hgood : ∀ q,q<8→0<rm q→good v c (c q (sh q)):=by
  intro q hq hr o u ho vo hu k1 k2
  rw[cE q _ rfl] at k1 k2
  rcases Int.lt_trichotomy u (sh o) with k|k|k
  ·rw[cI o u k] at k2
   exact absurd (ri _ (by omega)) k2
  ·rw[cE o u k,cG o (u+1) (by omega)]
   rw[cE o u k,rl] at k1
   exact (r0 _).2 (by omega)
  ·rw[cG o u k] at k1
   exact absurd ((r0 _).2 hr) k1
 -- nobody has less than the share
 have hlow : ∀ q,q<8→sh q≤A q:=by
  intro q hq
  apply Decidable.by_contra
  intro hh
  have vq : 0<v q:=Decidable.by_contra fun k=>by have:=zsh q k;omega
  have cq:=cI q (A q) (by omega)
  have hle : ∀ o,o<8→A o≤sh o:=by
   intro o ho
   apply Decidable.by_contra
   intro k
   have vo : 0<v o:=Decidable.by_contra fun k2=>by have:=zsh o k2;omega
   have bo:=bsh o ho
   refine F.weak o q (A o-1) ho vo hq vq (by omega) (by omega) ?_
   rw[cq]
   by_cases k2 : A o-1=sh o
   ·rw[cE o _ k2];exact ri _ bo.2
   ·rw[cG o _ (by omega)];exact r1
  have hlt : sm A 8<sm sh 8:=sm_lt hle hq (by omega)
  have q1' : sm sh 8≤S:=by rw[hsh];exact q1
  rcases hF with⟨h,_⟩|⟨_,e,_⟩|⟨_,e1,e2,eB⟩
  ·exact h q hq vq
  ·omega
  ·have h1 : sm (Sea.up A (tp v (fun p=>c p (A p)) 8)) 8≤sm sh 8:=by
    refine sm_le fun o ho=>?_
    unfold Sea.up
    split
    ·rename_i hT
     have:=(mem_tp.1 hT).2.2 q hq vq
     rw[cq] at this
     apply Decidable.by_contra
     intro k
     have ao : A o=sh o:=by have:=hle o ho;omega
     rw[cE o _ ao] at this
     exact this (ri _ (bsh o ho).2)
    ·exact hle o ho
   rw[sm_up tp_nodup (fun q hq=>(mem_tp.1 hq).1)] at h1
   omega
 -- nobody has more than the share rounded up
 have hfull : (∀ o,o<8→0<v o→0<rm o→sh o+1≤A o)→∀ o,o<8→shi S v o≤A o:=by
  intro h o ho
  rw[eshi o ho]
  by_cases k : 0<rm o
  ·rw[if_pos k]
   exact h o ho (Decidable.by_contra fun k2=>by have:=zsh o k2;omega) k
  ·rw[if_neg k]
   have:=hlow o ho;omega
 have hup : ∀ q,q<8→A q≤shi S v q:=by
  intro q hq
  apply Decidable.by_contra
  intro hh
  have vq : 0<v q:=Decidable.by_contra fun k=>by
   have:=zsh q k
   rw[eshi q hq,if_neg (by omega)] at hh
   omega
  have bq:=bsh q hq
  have hz:=hfull (fun o ho vo ro=>by
   apply Decidable.by_contra
   intro k
   have w:=F.weak q o (shi S v q) hq vq ho vo (by rw[eshi q hq];split<;>omega) (by omega)
   have lo:=hlow o ho
   rw[cE o (A o) (by omega)] at w
   apply w
   rw[eshi q hq]
   by_cases k2 : 0<rm q
   ·rw[if_pos k2,cG q _ (by omega)]
    exact (r0 _).2 ro
   ·rw[if_neg k2,cE q _ (by omega),rl]
    omega)
  have:=sm_lt (s:=fun p=>shi S v p) (t:=A) hz hq (by omega)
  omega
 have hD : ∀ q,q<8→A q=sh q∨(A q=sh q+1∧0<rm q):=fun q hq=>by
  have h1:=hlow q hq
  have h2:=hup q hq
  rw[eshi q hq] at h2
  split at h2<;>omega
 have notfull : sm A 8<S→∃ o,o<8∧0<v o∧0<rm o∧A o=sh o:=fun h=>by
  apply Decidable.by_contra
  intro k
  have:=sm_le (s:=fun p=>shi S v p) (t:=A) (n:=8) (hfull (fun o ho vo ro=>by
   rcases hD o ho with k2|k2
   ·exact absurd ⟨o,ho,vo,ro,k2⟩ k
   ·omega))
  omega
 -- who has one more beats whoever has not
 have beat : ∀ q o,q<8→o<8→0<v o→A q=sh q+1→A o=sh o→rm o<rm q:=by
  intro q o hq ho vo e1 e2
  have vq : 0<v q:=Decidable.by_contra fun k=>by have:=zsh q k;omega
  have hr : 0<rm q:=by rcases hD q hq with k|k;omega;exact k.2
  have:=hSG q o (sh q) hq vq ho vo (bsh q hq).1 (by omega) (hgood q hq hr)
  rw[cE q _ rfl,cE o _ e2,rl] at this
  exact this
 have eD : sm (fun q=>A q-sh q) 8+sm sh 8=sm A 8:=by
  rw[← sm_add]
  exact sm_cong fun q _=>by omega
 have hl : rleft S v=S-sm sh 8:=by unfold rleft;rw[hsh]
 have hbe : rbe S v p=sm (fun q=>if 0<v q∧rm p<rm q then 1 else 0) 8:=by unfold rbe;rw[hrm]
 have hBE : rBE S v p=sm (fun q=>if 0<v q∧rm p≤rm q then 1 else 0) 8:=by unfold rBE;rw[hrm]
 have hlt : rbe S v p<rBE S v p:=by
  rw[hbe,hBE]
  refine sm_lt (p:=p) (fun q _=>?_) hp ?_
  ·by_cases k : 0<v q∧rm p<rm q
   ·rw[if_pos k,if_pos ⟨k.1,by omega⟩];omega
   ·rw[if_neg k];split<;>omega
  ·rw[if_neg (by omega),if_pos ⟨vp,Int.le_refl _⟩];omega
 rw[esh]
 rcases hD p hp with eA|⟨eA,hrp⟩
 ·-- it has its share
  have hDbe : sm (fun q=>A q-sh q) 8≤rbe S v p:=by
   rw[hbe]
   refine sm_le fun q hq=>?_
   rcases hD q hq with k|⟨k,kr⟩
   ·split<;>omega
   ·rw[if_pos ⟨Decidable.by_contra fun k2=>by have:=zsh q k2;omega,beat q p hq hp vp k eA⟩];omega
  rcases hF with⟨h,_⟩|⟨_,e,eB⟩|⟨_,e1,e2,eB⟩
  ·exact absurd vp (h p hp)
  ·rw[eB,if_neg (by omega),if_neg (by omega)]
   exact⟨by omega,by omega⟩
  ·obtain⟨T,hT⟩ : ∃ T,T=tp v (fun p=>c p (A p)) 8:=⟨_,rfl⟩
   rw[← hT] at e2 eB
   have memT : ∀ q,q∈T↔q<8∧0<v q∧∀ o,o<8→0<v o→¬ qlt (c q (A q)) (c o (A o)):=fun q=>by rw[hT];exact mem_tp
   have sB : sm B 8=sm A 8+T.length:=by
    rw[eB]
    exact sm_up (by rw[hT];exact tp_nodup) (fun q hq=>((memT q).1 hq).1)
   have vB : ∀ q,B q=if q∈T then A q+1 else A q:=fun q=>by rw[eB];rfl
   obtain⟨o,ho,vo,ro,ao⟩:=notfull e1
   have hTs : ∀ q,q∈T→A q=sh q:=fun q hq=>by
    obtain⟨h8,_,top⟩:=(memT q).1 hq
    rcases hD q h8 with k|⟨k,_⟩
    ·exact k
    ·have:=top o ho vo
     rw[cG q _ (by omega),cE o _ ao] at this
     exact absurd ((r0 _).2 ro) this
   have eBs : sm (fun q=>B q-sh q) 8+sm sh 8=sm B 8:=by
    rw[← sm_add]
    exact sm_cong fun q _=>by omega
   by_cases hpT : p∈T
   ·have top:=((memT p).1 hpT).2.2
    have h1 : rbe S v p≤sm (fun q=>A q-sh q) 8:=by
     rw[hbe]
     refine sm_le fun q hq=>?_
     rcases hD q hq with k|⟨k,kr⟩
     ·have : ¬ (0<v q∧rm p<rm q):=fun hh=>by
       have:=top q hq hh.1
       rw[cE p _ eA,cE q _ k,rl] at this
       exact this hh.2
      rw[if_neg this];omega
     ·split<;>omega
    have h2 : sm (fun q=>B q-sh q) 8≤rBE S v p:=by
     rw[hBE]
     refine sm_le fun q hq=>?_
     rw[vB]
     by_cases hqT : q∈T
     ·have hq2:=(memT q).1 hqT
      have:=hq2.2.2 p hp vp
      rw[cE p _ eA,cE q _ (hTs q hqT),rl] at this
      rw[if_pos hqT,if_pos ⟨hq2.2.1,by omega⟩]
      have:=hTs q hqT
      omega
     ·rw[if_neg hqT]
      rcases hD q hq with k|⟨k,kr⟩
      ·split<;>omega
      ·have:=beat q p hq hp vp k eA
       rw[if_pos ⟨Decidable.by_contra fun k2=>by have:=zsh q k2;omega,by omega⟩];omega
    rw[vB,if_pos hpT,if_neg (by omega),if_pos (by omega)]
    exact⟨by omega,by omega⟩
   ·have : ∃ q,q<8∧0<v q∧qlt (c p (A p)) (c q (A q)):=by
     apply Decidable.by_contra
     intro hh
     exact hpT ((memT p).2 ⟨hp,vp,fun q hq hvq kk=>hh ⟨q,hq,hvq,kk⟩⟩)
    obtain⟨x,hx,vx,kk⟩:=this
    rw[cE p _ eA] at kk
    have ex : A x=sh x:=by
     rcases hD x hx with k|⟨k,_⟩
     ·exact k
     ·rw[cG x _ (by omega),qlt_nz (by simp)] at kk
      simp only at kk
      have:=(bsh p hp).2
      omega
    rw[cE x _ ex,rl] at kk
    have h2 : sm (fun q=>B q-sh q) 8≤rbe S v p:=by
     rw[hbe]
     refine sm_le fun q hq=>?_
     rw[vB]
     by_cases hqT : q∈T
     ·have hq2:=(memT q).1 hqT
      have:=hq2.2.2 x hx vx
      rw[cE x _ ex,cE q _ (hTs q hqT),rl] at this
      rw[if_pos hqT,if_pos ⟨hq2.2.1,by omega⟩]
      have:=hTs q hqT
      omega
     ·rw[if_neg hqT]
      rcases hD q hq with k|⟨k,kr⟩
      ·split<;>omega
      ·have:=beat q p hq hp vp k eA
       rw[if_pos ⟨Decidable.by_contra fun k2=>by have:=zsh q k2;omega,by omega⟩];omega
    rw[vB,if_neg hpT,if_neg (by omega),if_neg (by omega)]
    exact⟨by omega,by omega⟩
 ·-- it has one more
  have h1 : rBE S v p≤sm (fun q=>A q-sh q) 8:=by
   rw[hBE]
   refine sm_le fun q hq=>?_
   rcases hD q hq with k|⟨k,kr⟩
   ·have : ¬ (0<v q∧rm p≤rm q):=fun hh=>by
     have:=beat p q hp hq hh.1 eA k
     omega
    rw[if_neg this];omega
   ·split<;>omega
  rcases hF with⟨h,_⟩|⟨_,e,eB⟩|⟨_,e1,e2,eB⟩
  ·exact absurd vp (h p hp)
  ·rw[eB,if_pos (by omega),if_pos (by omega)]
   exact⟨by omega,by omega⟩
  ·have hpT : ¬ p∈tp v (fun p=>c p (A p)) 8:=fun hh=>by
    obtain⟨o,ho,vo,ro,ao⟩:=notfull e1
    have:=(mem_tp.1 hh).2.2 o ho vo
    rw[cG p _ (by omega),cE o _ ao] at this
    exact this ((r0 _).2 ro)
   have vB : B p=A p:=by rw[eB];unfold Sea.up;rw[if_neg hpT]
   rw[vB,if_pos (by omega),if_pos (by omega)]
   exact⟨by omega,by omega⟩
end Go.Xe.TVX
