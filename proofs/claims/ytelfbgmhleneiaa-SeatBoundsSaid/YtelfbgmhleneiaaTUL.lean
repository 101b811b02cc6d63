/- What the functions of the layer seat come to: SeatClaims. Conditions: none. -/
import Derived.Test.YtelfbgmhleneiaaTUG
import Derived.Test.YtelfbgmhleneiaaWc
-- MOD TV
namespace Go.Xe.TVX
open Go Go.Xe Go.Proofs
open Nat renaming reduceLeDiff → qA, reduceSub → qB, reduceAdd → qC, reduceEqDiff → qD, reduceLT → qE
open Int renaming reduceNegSucc → qF, reduceEq → qG
open Go.Xe.V renaming seq → sA, block → sB, scope → sC, skip → sD, close → sE
open Go.Xe renaming pth → P
open Go.Xe.Sea
set_option maxRecDepth 100000
set_option maxHeartbeats 3200000
set_option linter.unusedSimpArgs false
end Go.Xe.TVX
/- What the functions of the layer seat come to: SeatClaims. Conditions: none. -/
-- MOD TV
namespace Go.Xe.TVX
open Go Go.Xe Go.Proofs
open Nat renaming reduceLeDiff → qA, reduceSub → qB, reduceAdd → qC, reduceEqDiff → qD, reduceLT → qE
open Int renaming reduceNegSucc → qF, reduceEq → qG
open Go.Xe.V renaming seq → sA, block → sB, scope → sC, skip → sD, close → sE
open Go.Xe renaming pth → P
open Go.Xe.Sea
set_option maxRecDepth 100000
set_option maxHeartbeats 3200000
set_option linter.unusedSimpArgs false
theorem vl_pos {L : Int} {l : List Int} {p : Nat} : 0<vl L l p↔adm L (gl0 l p):=by
 unfold vl vts
 split
 ·rename_i h
  exact⟨fun _=>h,fun _=>by have:=h.1;omega⟩
 ·rename_i h
  exact⟨fun k=>by omega,fun k=>absurd k h⟩
theorem vl_eq {L : Int} {l : List Int} {p : Nat} (h : 0<vl L l p) : gl0 l p=vl L l p:=by
 have:=vl_pos.1 h
 unfold vl vts
 rw[if_pos this]
end Go.Xe.TVX
/- What the functions of the layer seat come to: the places of the parties. Conditions: none. -/
-- MOD TV
namespace Go.Xe.TVX
open Go Go.Xe Go.Proofs
open Nat renaming reduceLeDiff → qA, reduceSub → qB, reduceAdd → qC, reduceEqDiff → qD, reduceLT → qE
open Int renaming reduceNegSucc → qF, reduceEq → qG
open Go.Xe.V renaming seq → sA, block → sB, scope → sC, skip → sD, close → sE
open Go.Xe renaming pth → P
open Go.Xe.Sea
set_option maxRecDepth 100000
set_option maxHeartbeats 3200000
set_option linter.unusedSimpArgs false
structure Pm (σ τ : Nat→Nat) : Prop where
 l : ∀ p,τ (σ p)=p
 r : ∀ p,σ (τ p)=p
 b : ∀ p,p<8→σ p<8
 c : ∀ p,p<8→τ p<8
section
variable {σ τ : Nat→Nat} {v : Nat→Int}
theorem Pm.inj (h : Pm σ τ) {a b : Nat} (e : σ a=σ b) : a=b:=by
 have:=congrArg τ e
 rwa [h.l,h.l] at this
theorem Pm.iff (h : Pm σ τ) {p : Nat} : σ p<8↔p<8:=⟨fun k=>by have:=h.c _ k;rwa [h.l] at this,h.b p⟩
theorem Pm.nodup (h : Pm σ τ) {l : List Nat} (hn : l.Nodup) : (l.map σ).Nodup:=
 List.pairwise_map.2 (List.Pairwise.imp (fun hne he=>hne (h.inj he)) hn)
theorem Pm.range (h : Pm σ τ) : ((List.range 8).map σ).Perm (List.range 8):=by
 refine (List.perm_ext_iff_of_nodup (h.nodup List.nodup_range) List.nodup_range).2 fun a=>?_
 rw[List.mem_map,List.mem_range]
 constructor
 ·rintro⟨p,hp,rfl⟩
  exact h.b p (List.mem_range.1 hp)
 ·intro ha
  exact⟨τ a,List.mem_range.2 (h.c a ha),h.r a⟩
theorem Pm.tp (h : Pm σ τ) (v : Nat→Int) (q : Nat→Q2) : (∀ p,p∈Sea.tp (fun p=>v (σ p)) (fun p=>q (σ p)) 8↔σ p∈Sea.tp v q 8)∧(Sea.tp (fun p=>v (σ p)) (fun p=>q (σ p)) 8).length=(Sea.tp v q 8).length:=by
 have hm : ∀ p,p∈Sea.tp (fun p=>v (σ p)) (fun p=>q (σ p)) 8↔σ p∈Sea.tp v q 8:=by
  intro p
  rw[mem_tp,mem_tp,h.iff]
  refine and_congr Iff.rfl (and_congr Iff.rfl ⟨fun k o ho hv=>?_,fun k o ho hv=>k (σ o) (h.b o ho) hv⟩)
  have:=k (τ o) (h.c o ho)
  rw[h.r] at this
  exact this hv
 refine⟨hm,?_⟩
 have p : ((Sea.tp (fun p=>v (σ p)) (fun p=>q (σ p)) 8).map σ).Perm (Sea.tp v q 8):=by
  refine (List.perm_ext_iff_of_nodup (h.nodup tp_nodup) tp_nodup).2 fun a=>?_
  rw[List.mem_map]
  constructor
  ·rintro⟨p,hp,rfl⟩
   exact (hm p).1 hp
  ·intro ha
   refine⟨τ a,(hm _).2 ?_,h.r a⟩
   rw[h.r];exact ha
 have:=p.length_eq
 rwa [List.length_map] at this
theorem Pm.up (h : Pm σ τ) (v : Nat→Int) (q : Nat→Q2) (low : Nat→Int) : Sea.up (fun p=>low (σ p)) (Sea.tp (fun p=>v (σ p)) (fun p=>q (σ p)) 8)=fun p=>Sea.up low (Sea.tp v q 8) (σ p):=by
 funext p
 unfold Sea.up
 have:=(h.tp v q).1 p
 by_cases k : σ p∈Sea.tp v q 8
 ·rw[if_pos k,if_pos (this.2 k)]
 ·rw[if_neg k,if_neg (fun hh=>k (this.1 hh))]
end
end Go.Xe.TVX
/- What the functions of the layer seat come to: SeatOrder. Conditions: none. -/
-- MOD TV
namespace Go.Xe.TVX
open Go Go.Xe Go.Proofs
open Nat renaming reduceLeDiff → qA, reduceSub → qB, reduceAdd → qC, reduceEqDiff → qD, reduceLT → qE
open Int renaming reduceNegSucc → qF, reduceEq → qG
open Go.Xe.V renaming seq → sA, block → sB, scope → sC, skip → sD, close → sE
open Go.Xe renaming pth → P
open Go.Xe.Sea
set_option maxRecDepth 100000
set_option maxHeartbeats 3200000
set_option linter.unusedSimpArgs false
def sg (n k p : Nat) : Nat:=if p<n then (if p+k<n then p+k else p+k-n) else p
end Go.Xe.TVX
/- What the functions of the layer seat come to: all claims in one row. Conditions: none. -/
-- MOD TV
namespace Go.Xe.TVX
open Go Go.Xe Go.Proofs
open Nat renaming reduceLeDiff → qA, reduceSub → qB, reduceAdd → qC, reduceEqDiff → qD, reduceLT → qE
open Int renaming reduceNegSucc → qF, reduceEq → qG
open Go.Xe.V renaming seq → sA, block → sB, scope → sC, skip → sD, close → sE
open Go.Xe renaming pth → P
open Go.Xe.Sea
set_option maxRecDepth 100000
set_option maxHeartbeats 3200000
set_option linter.unusedSimpArgs false
section
open Classical
noncomputable def cn (P : Nat→Prop) (n : Nat) : Int:=sm (fun t=>if P t then 1 else 0) n
theorem cn_s {P : Nat→Prop} {n : Nat} : cn P (n+1)=cn P n+if P n then 1 else 0:=rfl
theorem cn_le {P : Nat→Prop} {b : Int} (hb : 0≤b) : ∀ {n : Nat},(∀ t,t<n→P t→(t : Int)<b)→cn P n≤b∧cn P n≤n
 | 0,_=>⟨hb,Int.le_refl _⟩
 | n+1,h=>by
  have ih:=cn_le (P:=P) (b:=b) hb (n:=n) (fun t ht=>h t (by omega))
  rw[cn_s]
  by_cases k : P n
  ·have hn:=h n (by omega) k
   rw[if_pos k]
   omega
  ·rw[if_neg k]
   omega
theorem cn_ge {P : Nat→Prop} {b : Int} : ∀ {n : Nat},(∀ t : Nat,t<n→(t : Int)<b→P t)→b≤cn P n∨(n : Int)≤cn P n
 | 0,_=>.inr (Int.le_refl _)
 | n+1,h=>by
  have ih:=cn_ge (P:=P) (b:=b) (n:=n) (fun t ht=>h t (by omega))
  rw[cn_s]
  by_cases k : P n
  ·rw[if_pos k]
   rcases ih with ih|ih
   ·exact .inl (by omega)
   ·exact .inr (by omega)
  ·rw[if_neg k]
   have : ¬ (n : Int)<b:=fun hh=>k (h n (by omega) hh)
   rcases ih with ih|ih
   ·exact .inl (by omega)
   ·exact .inl (by omega)
theorem cn_eq {P : Nat→Prop} {b : Int} {n : Nat} (hb : 0≤b∧b≤n) (h : ∀ t : Nat,t<n→(P t↔(t : Int)<b)) : cn P n=b:=by
 have h1:=(cn_le (P:=P) hb.1 (n:=n) (fun t ht k=>(h t ht).1 k)).1
 have h2:=cn_ge (P:=P) (b:=b) (n:=n) (fun t ht k=>(h t ht).2 k)
 omega
noncomputable def ck (v : Nat→Int) (n : Nat) (P : Nat→Nat→Prop) : Int:=sm (fun q=>if 0<v q then cn (P q) n else 0) 8
theorem ck_le {v f : Nat→Int} {n : Nat} {P : Nat→Nat→Prop} (hf : ∀ q,0≤f q) (h : ∀ q t,q<8→0<v q→t<n→P q t→(t : Int)<f q) : ck v n P≤sm f 8:=
 sm_le fun q hq=>by
  have:=hf q
  by_cases k : 0<v q
  ·rw[if_pos k]
   exact (cn_le (P:=P q) this (n:=n) (fun t ht=>h q t hq k ht)).1
  ·rw[if_neg k];exact this
theorem ck_ge {v f : Nat→Int} {n : Nat} {P : Nat→Nat→Prop} (hf : ∀ q,f q≤n) (hz : ∀ q,¬ 0<v q→f q≤0) (h : ∀ q t,q<8→0<v q→t<n→(t : Int)<f q→P q t) : sm f 8≤ck v n P:=
 sm_le fun q hq=>by
  by_cases k : 0<v q
  ·rw[if_pos k]
   have:=hf q
   rcases cn_ge (P:=P q) (b:=f q) (n:=n) (fun t ht=>h q t hq k ht) with h|h<;>omega
  ·rw[if_neg k];exact hz q k
theorem spread {m S : Int} {v : Nat→Int} {n : Nat} (hn : S=n) (h5 : m≠5) (hv : vok v) (hS : 0≤S∧S≤61) (hv8 : ∀ p,¬ p<8→v p=0) {p s : Nat} (hp : p<8) (vp : 0<v p) (hs : s<n) :
  (ck v n (fun q t=>¬ qlt (clq m S v q t) (clq m S v p s))≤S↔(s : Int)<(otc m S v).1 p)∧(ck v n (fun q t=>qlt (clq m S v p s) (clq m S v q t))<S↔(s : Int)<(otc m S v).2 p):=by
 have F0:=otc_fin (m:=m) hv hS hv8
 have hbd:=Fin.bd F0 hS.1
 obtain⟨F,hF⟩:=F0
 have str : ∀ p t,0<v p→0≤t→qlt (clq m S v p (t+1)) (clq m S v p t):=fun p t h ht=>clq_str h5 h ht
 have ok : ∀ q (t : Int),q<8→0<v q→0≤t→qok (clq m S v q t):=fun q t hq hvq ht=>clq_ok hv hS hq hvq ht
 have dec : ∀ q (a b : Int),q<8→0<v q→0≤a→a≤b→¬ qlt (clq m S v q a) (clq m S v q b):=fun q a b hq hvq ha hab=>clq_le' hv hS hq hvq ha hab
 have sdec : ∀ q (a b : Int),q<8→0<v q→0≤a→a<b→qlt (clq m S v q b) (clq m S v q a):=fun q a b hq hvq ha hab=>
  le_qlt (ok q b hq hvq (by omega)) (ok q (a+1) hq hvq (by omega)) (ok q a hq hvq ha) (dec q (a+1) b hq hvq (by omega) (by omega)) (str q a hvq ha)
 obtain⟨A,hA⟩ : ∃ A,A=(otc m S v).1:=⟨_,rfl⟩
 obtain⟨B,hB⟩ : ∃ B,B=(otc m S v).2:=⟨_,rfl⟩
 rw[← hA,← hB] at hF hbd
 rw[← hA] at F
 rw[← hA,← hB]
 obtain⟨bd1,bd2,_,bd3⟩:=hbd
 have nn:=F.nn
 have zA : ∀ q,¬ 0<v q→A q=0:=fun q hq=>F.adm q (fun k=>hq k.2)
 -- a claim with a seat beats each next one
 have win : ∀ q o (t u : Int),q<8→0<v q→o<8→0<v o→0≤t→t<A q→A o≤u→qlt (clq m S v o u) (clq m S v q t):=fun q o t u hq hvq ho hvo h0 ht hu=>
  le_qlt (ok o u ho hvo (by have:=nn o;omega)) (ok o (A o) ho hvo (nn o)) (ok q t hq hvq h0) (dec o (A o) u ho hvo (nn o) hu) (F.strict str q o t hq hvq ho hvo h0 ht)
 have asy : ∀ q o (t u : Int),q<8→0<v q→o<8→0<v o→0≤t→0≤u→qlt (clq m S v q t) (clq m S v o u)→¬ qlt (clq m S v o u) (clq m S v q t):=fun q o t u hq hvq ho hvo h0 hu=>qlt_asymm (ok q t hq hvq h0) (ok o u ho hvo hu)
 by_cases hlt : (s : Int)<A p
 ·-- it has a seat in each result
  have a1 : ck v n (fun q t=>¬ qlt (clq m S v q t) (clq m S v p s))≤sm A 8:=ck_le nn (fun q t hq hvq _ hh=>Decidable.by_contra fun k=>hh (win p q s t hp vp hq hvq (by omega) hlt (by omega)))
  have a2 : ck v n (fun q t=>qlt (clq m S v p s) (clq m S v q t))≤sm (fun q=>if q=p then (s : Int) else A q) 8:=by
   refine ck_le (fun q=>by split;omega;exact nn q) (fun q t hq hvq _ hh=>?_)
   skip
   split
   ·rename_i e
    subst e
    exact Decidable.by_contra fun k=>dec q s t hq hvq (by omega) (by omega) hh
   ·exact Decidable.by_contra fun k=>asy _ _ _ _ hp vp hq hvq (by omega) (by omega) hh (win p q s t hp vp hq hvq (by omega) hlt (by omega))
  have a3 : sm (fun q=>if q=p then (s : Int) else A q) 8<sm A 8:=sm_lt (p:=p) (fun q hq=>by split;rename_i e;rw[e];omega;omega) hp (by rw[if_pos rfl];exact hlt)
  have b2:=(bd2 p).1
  exact⟨iff_of_true (by omega) hlt,iff_of_true (by omega) (by omega)⟩
 ·have hself : ∀ t : Nat,t≤s→¬ qlt (clq m S v p t) (clq m S v p s):=fun t ht=>dec p t s hp vp (by omega) (by omega)
  rcases hF with⟨h,_⟩|⟨_,e,eB⟩|⟨_,e1,e2,eB⟩
  ·exact absurd vp (h p hp)
  ·-- all seats are given
   rw[eB]
   have a1 : sm (fun q=>if q=p then (s : Int)+1 else A q) 8≤ck v n (fun q t=>¬ qlt (clq m S v q t) (clq m S v p s)):=by
    refine ck_ge (fun q=>by split;omega;have:=(bd1 q).2;omega) (fun q hq=>by split;rename_i e;rw[e] at hq;exact absurd vp hq;rw[zA q hq];omega) (fun q t hq hvq _ ht=>?_)
    skip
    split at ht
    ·rename_i e
     subst e
     exact hself t (by omega)
    ·exact asy _ _ _ _ hp vp hq hvq (by omega) (by omega) (win q p t s hq hvq hp vp (by omega) ht (by omega))
   have a2 : sm A 8<sm (fun q=>if q=p then (s : Int)+1 else A q) 8:=sm_lt (p:=p) (fun q hq=>by split;rename_i e;rw[e];omega;omega) hp (by rw[if_pos rfl];omega)
   have a3 : sm A 8≤ck v n (fun q t=>qlt (clq m S v p s) (clq m S v q t)):=
    ck_ge (fun q=>by have:=(bd1 q).2;omega) (fun q hq=>by rw[zA q hq];omega) (fun q t hq hvq _ ht=>win q p t s hq hvq hp vp (by omega) ht (by omega))
   exact⟨iff_of_false (by omega) hlt,iff_of_false (by omega) hlt⟩
  ·-- some have equal claims to the last seats
   obtain⟨T,hT⟩ : ∃ T,T=tp v (fun p=>clq m S v p (A p)) 8:=⟨_,rfl⟩
   rw[← hT] at e2 eB
   have memT : ∀ q,q∈T↔q<8∧0<v q∧∀ o,o<8→0<v o→¬ qlt (clq m S v q (A q)) (clq m S v o (A o)):=fun q=>by rw[hT];exact mem_tp
   have sB : sm B 8=sm A 8+T.length:=by
    rw[eB]
    exact sm_up (by rw[hT];exact tp_nodup) (fun q hq=>((memT q).1 hq).1)
   have vB : ∀ q,B q=if q∈T then A q+1 else A q:=fun q=>by rw[eB];rfl
   have lA : ∀ q,A q<S:=fun q=>by
    by_cases hq : q<8
    ·have:=sm_each nn hq
     omega
    ·rw[F.adm q (fun k=>hq k.1)]
     have:=bd1 0
     have:=(bd1 0).1
     have h8:=sm_le (s:=fun _=>0) (t:=A) (n:=8) (fun p _=>nn p)
     rw[sm_0] at h8
     omega
   have lB : ∀ q,B q≤n:=fun q=>by
    have:=lA q
    rw[vB];split<;>omega
   have zB : ∀ q,¬ 0<v q→B q≤0:=fun q hq=>by
    rw[vB,if_neg (fun k=>hq ((memT q).1 k).2.1),zA q hq];omega
   by_cases hin : p∈T∧(s : Int)=A p
   ·obtain⟨hpT,hsA⟩:=hin
    obtain⟨_,_,top⟩:=(memT p).1 hpT
    have a1 : sm B 8≤ck v n (fun q t=>¬ qlt (clq m S v q t) (clq m S v p s)):=by
     refine ck_ge lB zB (fun q t hq hvq _ ht=>?_)
     rw[vB] at ht
     by_cases k : (t : Int)<A q
     ·exact asy _ _ _ _ hp vp hq hvq (by omega) (by omega) (win q p t s hq hvq hp vp (by omega) k (by omega))
     ·split at ht
      ·rename_i hqT
       have : (t : Int)=A q:=by omega
       rw[this,hsA]
       exact ((memT q).1 hqT).2.2 p hp vp
      ·omega
    have a2 : ck v n (fun q t=>qlt (clq m S v p s) (clq m S v q t))≤sm A 8:=by
     refine ck_le nn (fun q t hq hvq _ hh=>Decidable.by_contra fun k=>?_)
     rw[hsA] at hh
     have c1:=ok p (A p) hp vp (nn p)
     have c2:=ok q (A q) hq hvq (nn q)
     have c3:=ok q t hq hvq (by omega)
     exact top q hq hvq (qlt_le c1 c3 c2 hh (dec q (A q) t hq hvq (nn q) (by omega)))
    have hBp : B p=A p+1:=by rw[vB,if_pos hpT]
    exact⟨iff_of_false (by omega) hlt,iff_of_true (by omega) (by omega)⟩
   ·have a1 : sm B 8≤ck v n (fun q t=>qlt (clq m S v p s) (clq m S v q t)):=by
     refine ck_ge lB zB (fun q t hq hvq _ ht=>?_)
     rw[vB] at ht
     by_cases k : (t : Int)<A q
     ·exact win q p t s hq hvq hp vp (by omega) k (by omega)
     ·split at ht
      ·rename_i hqT
       have e : (t : Int)=A q:=by omega
       rw[e]
       have tq:=((memT q).1 hqT).2.2
       have c1:=ok p s hp vp (by omega)
       have c2:=ok p (A p) hp vp (nn p)
       have c3:=ok q (A q) hq hvq (nn q)
       by_cases hpT : p∈T
       ·have hsA : A p<s:=by
         have : ¬ (s : Int)=A p:=fun k=>hin ⟨hpT,k⟩
         omega
        exact qlt_le c1 c2 c3 (sdec p (A p) s hp vp (nn p) hsA) (tq p hp vp)
       ·have : ∃ o,o<8∧0<v o∧qlt (clq m S v p (A p)) (clq m S v o (A o)):=by
         apply Decidable.by_contra
         intro hh
         exact hpT ((memT p).2 ⟨hp,vp,fun o ho hvo kk=>hh ⟨o,ho,hvo,kk⟩⟩)
        obtain⟨o,ho,hvo,kk⟩:=this
        have c4:=ok o (A o) ho hvo (nn o)
        have d1:=qlt_le c2 c4 c3 kk (tq o ho hvo)
        exact le_qlt c1 c2 c3 (dec p (A p) s hp vp (nn p) (by omega)) d1
      ·omega
    have a2 : ck v n (fun q t=>qlt (clq m S v p s) (clq m S v q t))≤ck v n (fun q t=>¬ qlt (clq m S v q t) (clq m S v p s)):=
     sm_le fun q hq=>by
      by_cases k : 0<v q
      ·rw[if_pos k,if_pos k]
       refine sm_le fun t _=>?_
       by_cases k2 : qlt (clq m S v p s) (clq m S v q t)
       ·rw[if_pos k2,if_pos (asy _ _ _ _ hp vp hq k (by omega) (by omega) k2)];omega
       ·rw[if_neg k2];split<;>omega
      ·rw[if_neg k,if_neg k];omega
    have hBp : ¬ (s : Int)<B p:=by
     rw[vB]
     split
     ·rename_i hpT
      have : ¬ (s : Int)=A p:=fun k=>hin ⟨hpT,k⟩
      omega
     ·exact hlt
    exact⟨iff_of_false (by omega) hlt,iff_of_false (by omega) hBp⟩
end
end Go.Xe.TVX
