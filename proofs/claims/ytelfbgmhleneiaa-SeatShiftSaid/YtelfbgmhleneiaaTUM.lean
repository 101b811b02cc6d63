/- What the functions of the layer seat come to: ProveSeats, and SeatAll. Conditions: none. -/
import Derived.Test.YtelfbgmhleneiaaTUC
import Derived.Test.YtelfbgmhleneiaaWc
-- MOD TV
namespace Go.Xe.TVX
open Go Go.Xe Go.Proofs
open Nat renaming reduceLeDiff → qA, reduceSub → qB, reduceAdd → qC, reduceEqDiff → qD, reduceLT → qE
open Int renaming reduceNegSucc → qF, reduceEq → qG
open Go.Xe.V renaming seq → sA, block → sB, scope → sC, skip → sD, close → sE
open Go.Xe renaming pth → P
open Go.Xe.Sea
set_option maxRecDepth 100000
set_option maxHeartbeats 3200000
set_option linter.unusedSimpArgs false
def RES (m S : Int) (v s : Nat→Int) : Prop:=gal S v s∧∀ p q,p<8→0<v p→q<8→0<v q→0<s q→¬ qlt (clq m S v q (s q-1)) (clq m S v p (s p))
theorem fu_max {m S : Int} {v s : Nat→Int} (hv : vok v) (hS : 0≤S∧S≤61) (hs : ∀ p,p<8→0≤s p) : ∀ {k : Nat},k≤(adl v 8).length→qok (fu m S v s k)∧(∀ j,j<k→¬ qlt (fu m S v s k) (lw (clq m S v (pix v j) (s (pix v j)))))∧(fu m S v s k=(0,1)∨∃ j,j<k∧fu m S v s k=lw (clq m S v (pix v j) (s (pix v j))))
 | 0,_=>⟨⟨by simp[fu],by simp[fu],by simp[fu]⟩,fun j hj=>by omega,.inl rfl⟩
 | k+1,hk=>by
  obtain⟨h1,h2,h3⟩:=fu_max (m:=m) hv hS hs (show k≤(adl v 8).length by omega)
  have hok : ∀ j,j<k+1→qok (lw (clq m S v (pix v j) (s (pix v j)))):=fun j hj=>by
   obtain⟨_,hp8,hpv,_⟩:=pix_at (v:=v) (k:=j) (by omega)
   exact (lw_ok (clq_ok (m:=m) hv hS hp8 hpv (hs _ hp8))).1
  unfold fu
  split
  ·rename_i hl
   refine⟨hok k (by omega),fun j hj=>?_,.inr ⟨k,by omega,rfl⟩⟩
   rcases Nat.lt_succ_iff_lt_or_eq.1 hj with hj'|rfl
   ·exact fun hh=>h2 j hj' (qlt_tr h1 (hok k (by omega)) (hok j hj) hl hh)
   ·exact qlt_irr _
  ·rename_i hl
   refine⟨h1,fun j hj=>?_,?_⟩
   ·rcases Nat.lt_succ_iff_lt_or_eq.1 hj with hj'|rfl
    ·exact h2 j hj'
    ·exact hl
   ·rcases h3 with h3|⟨j,hj,h3⟩
    ·exact .inl h3
    ·exact .inr ⟨j,by omega,h3⟩
theorem la_min {m S : Int} {v s : Nat→Int} (hv : vok v) (hS : 0≤S∧S≤61) : ∀ {k : Nat},k≤(adl v 8).length→qok (la m S v s k)∧(∀ j,j<k→0<s (pix v j)→¬ qlt (lw (clq m S v (pix v j) (s (pix v j)-1))) (la m S v s k))∧(la m S v s k=(100000000,0)∨∃ j,j<k∧0<s (pix v j)∧la m S v s k=lw (clq m S v (pix v j) (s (pix v j)-1)))
 | 0,_=>⟨⟨by simp[la],by simp[la],by simp[la]⟩,fun j hj=>by omega,.inl rfl⟩
 | k+1,hk=>by
  obtain⟨h1,h2,h3⟩:=la_min (m:=m) (s:=s) hv hS (show k≤(adl v 8).length by omega)
  have hok : ∀ j,j<k+1→0<s (pix v j)→qok (lw (clq m S v (pix v j) (s (pix v j)-1))):=fun j hj hp=>by
   obtain⟨_,hp8,hpv,_⟩:=pix_at (v:=v) (k:=j) (by omega)
   exact (lw_ok (clq_ok (m:=m) hv hS hp8 hpv (by omega))).1
  unfold la
  split
  ·rename_i hpos
   split
   ·rename_i hl
    refine⟨h1,fun j hj hp=>?_,?_⟩
    ·rcases Nat.lt_succ_iff_lt_or_eq.1 hj with hj'|rfl
     ·exact h2 j hj' hp
     ·exact qlt_asymm h1 (hok j (by omega) hp) hl
    ·rcases h3 with h3|⟨j,hj,h3⟩
     ·exact .inl h3
     ·exact .inr ⟨j,by omega,h3⟩
   ·rename_i hl
    refine⟨hok k (by omega) hpos,fun j hj hp=>?_,.inr ⟨k,by omega,hpos,rfl⟩⟩
    rcases Nat.lt_succ_iff_lt_or_eq.1 hj with hj'|rfl
    ·exact fun hh=>hl (le_qlt h1 (hok j hj hp) (hok k (by omega) hpos) (h2 j hj' hp) hh)
    ·exact qlt_irr _
  ·rename_i hpos
   refine⟨h1,fun j hj hp=>?_,?_⟩
   ·rcases Nat.lt_succ_iff_lt_or_eq.1 hj with hj'|rfl
    ·exact h2 j hj' hp
    ·exact absurd hp hpos
   ·rcases h3 with h3|⟨j,hj,h3⟩
    ·exact .inl h3
    ·exact .inr ⟨j,by omega,h3⟩
theorem pix_of {v : Nat→Int} {p : Nat} (hp : p<8) (h : 0<v p) : ∃ j,j<(adl v 8).length∧pix v j=p:=by
 have e:=adl_at hp h
 refine⟨_,(List.getElem?_eq_some_iff.1 e).1,?_⟩
 unfold pix
 rw[List.getD_eq_getElem?_getD,e];rfl
theorem jr_iff {m S : Int} {v s : Nat→Int} (hv : vok v) (hS : 0≤S∧S≤61) (hs : ∀ p,p<8→0≤s p∧s p≤100) : jr m S v s↔RES m S v s:=by
 obtain⟨f1,f2,f3⟩:=fu_max (m:=m) hv hS (fun p hp=>(hs p hp).1) (Nat.le_refl (adl v 8).length)
 obtain⟨l1,l2,l3⟩:=la_min (m:=m) (s:=s) hv hS (Nat.le_refl (adl v 8).length)
 obtain⟨⟨qf,_⟩,⟨ql,_⟩⟩:=fu_qb (m:=m) hv hS hs (Nat.le_refl (adl v 8).length)
 unfold jr
 by_cases hg : gal S v s
 ·by_cases hd : due S v=0
  ·rw[if_neg (fun hh=>hh.2 hd)]
   refine⟨fun _=>⟨hg,fun p q _ _ hq _ hsq=>?_⟩,fun h=>h.1⟩
   exfalso
   have h0:=hg.2
   rw[hd] at h0
   have:=sm_lt (s:=fun _=>0) (t:=s) (n:=8) (p:=q) (fun i hi=>(hs i hi).1) hq hsq
   rw[sm_0] at this
   omega
  ·rw[if_pos ⟨hg,hd⟩]
   constructor
   ·intro h
    refine⟨hg,fun p q hp hvp hq hvq hsq hh=>?_⟩
    obtain⟨i,hi,rfl⟩:=pix_of hp hvp
    obtain⟨j,hj,rfl⟩:=pix_of hq hvq
    have o1:=clq_ok (m:=m) hv hS hp hvp (hs _ hp).1
    have o2:=clq_ok (m:=m) hv hS hq hvq (s:=s (pix v j)-1) (by omega)
    have k1:=(lw_lt o2 o1).2 hh
    have k2:=le_qlt l1 (lw_ok o2).1 (lw_ok o1).1 (l2 j hj hsq) k1
    exact h (qlt_le l1 (lw_ok o1).1 f1 k2 (f2 i hi))
   ·rintro⟨_,h⟩ hh
    rcases f3 with f3|⟨i,hi,f3⟩
    ·rw[f3] at hh
     unfold qlt at hh
     rw[if_neg (by simp)] at hh
     simp only at hh
     omega
    ·obtain⟨_,hp,hvp,_⟩:=pix_at (v:=v) hi
     have o1:=clq_ok (m:=m) hv hS hp hvp (hs _ hp).1
     rcases l3 with l3|⟨j,hj,hsq,l3⟩
     ·rw[l3] at hh
      by_cases hz : (fu m S v s (adl v 8).length).2=0
      ·rw[qlt_z rfl hz] at hh
       simp only at hh;omega
      ·exact qlt_zn rfl hz ⟨by simp,by simp,by simp⟩ f1 hh
     ·obtain⟨_,hq,hvq,_⟩:=pix_at (v:=v) hj
      have o2:=clq_ok (m:=m) hv hS hq hvq (s:=s (pix v j)-1) (by omega)
      rw[f3,l3,lw_lt o2 o1] at hh
      exact h _ _ hp hvp hq hvq hsq hh
 ·rw[if_neg (fun hh=>hg hh.1)]
  exact⟨fun h=>absurd h hg,fun h=>absurd h.1 hg⟩
def PRV (m S L : Int) (l st : List Int) : Prop:=flt m S L l=0∧st.length=l.length∧(∀ x∈st,0≤x∧x≤S)∧jr m S (vl L l) (gl0 st)
instance (m S L : Int) (l st : List Int) : Decidable (PRV m S L l st):=by unfold PRV;infer_instance
end Go.Xe.TVX
/- What the functions of the layer seat come to: SeatAll. Conditions: none. -/
-- MOD TV
namespace Go.Xe.TVX
open Go Go.Xe Go.Proofs
open Nat renaming reduceLeDiff → qA, reduceSub → qB, reduceAdd → qC, reduceEqDiff → qD, reduceLT → qE
open Int renaming reduceNegSucc → qF, reduceEq → qG
open Go.Xe.V renaming seq → sA, block → sB, scope → sC, skip → sD, close → sE
open Go.Xe renaming pth → P
open Go.Xe.Sea
set_option maxRecDepth 100000
set_option maxHeartbeats 3200000
set_option linter.unusedSimpArgs false
theorem otc_res {m S : Int} {v : Nat→Int} (hv : vok v) (hS : 0≤S∧S≤61) (hv8 : ∀ p,¬ p<8→v p=0) (hs : sure m S v) : RES m S v (otc m S v).1:=by
 have F:=otc_fin (m:=m) hv hS hv8
 have n0:=F.1.nn
 refine⟨⟨fun p hp hh=>?_,?_⟩,fun p q hp hvp hq hvq hsq=>F.1.weak q p _ hq hvq hp hvp (by omega) (by omega)⟩
 ·have:=F.1.adm p (fun k=>by have:=k.2;omega)
  omega
 ·unfold due
  rcases sure_sum hv hS hv8 hs with⟨hsome,e⟩|⟨hn,e⟩
  ·have:=(sm_pos' hv).2 hsome
   rw[if_neg (by omega)];exact e
  ·have hz : sm v 8=0:=by
    have h1:=sm_bd hv
    apply Decidable.by_contra
    intro hh
    obtain⟨p,hp,h2⟩:=(sm_pos' hv).1 (by omega)
    exact hn p hp h2
   rw[if_pos hz,e,sm_0]
end Go.Xe.TVX
/- What the functions of the layer seat come to: claims. Conditions: none. -/
-- MOD TV
namespace Go.Xe.TVX
open Go Go.Xe Go.Proofs
open Nat renaming reduceLeDiff → qA, reduceSub → qB, reduceAdd → qC, reduceEqDiff → qD, reduceLT → qE
open Int renaming reduceNegSucc → qF, reduceEq → qG
open Go.Xe.V renaming seq → sA, block → sB, scope → sC, skip → sD, close → sE
open Go.Xe renaming pth → P
open Go.Xe.Sea
set_option maxRecDepth 100000
set_option maxHeartbeats 3200000
set_option linter.unusedSimpArgs false
end Go.Xe.TVX
/- What the functions of the layer seat come to: SeatClaims. Conditions: none. -/
-- MOD TV
namespace Go.Xe.TVX
open Go Go.Xe Go.Proofs
open Nat renaming reduceLeDiff → qA, reduceSub → qB, reduceAdd → qC, reduceEqDiff → qD, reduceLT → qE
open Int renaming reduceNegSucc → qF, reduceEq → qG
open Go.Xe.V renaming seq → sA, block → sB, scope → sC, skip → sD, close → sE
open Go.Xe renaming pth → P
open Go.Xe.Sea
set_option maxRecDepth 100000
set_option maxHeartbeats 3200000
set_option linter.unusedSimpArgs false
end Go.Xe.TVX
/- What the functions of the layer seat come to: SeatClaims. Conditions: none. -/
-- MOD TV
namespace Go.Xe.TVX
open Go Go.Xe Go.Proofs
open Nat renaming reduceLeDiff → qA, reduceSub → qB, reduceAdd → qC, reduceEqDiff → qD, reduceLT → qE
open Int renaming reduceNegSucc → qF, reduceEq → qG
open Go.Xe.V renaming seq → sA, block → sB, scope → sC, skip → sD, close → sE
open Go.Xe renaming pth → P
open Go.Xe.Sea
set_option maxRecDepth 100000
set_option maxHeartbeats 3200000
set_option linter.unusedSimpArgs false
end Go.Xe.TVX
/- What the functions of the layer seat come to: the places of the parties. Conditions: none. -/
-- MOD TV
namespace Go.Xe.TVX
open Go Go.Xe Go.Proofs
open Nat renaming reduceLeDiff → qA, reduceSub → qB, reduceAdd → qC, reduceEqDiff → qD, reduceLT → qE
open Int renaming reduceNegSucc → qF, reduceEq → qG
open Go.Xe.V renaming seq → sA, block → sB, scope → sC, skip → sD, close → sE
open Go.Xe renaming pth → P
open Go.Xe.Sea
set_option maxRecDepth 100000
set_option maxHeartbeats 3200000
set_option linter.unusedSimpArgs false
structure Pm (σ τ : Nat→Nat) : Prop where
 l : ∀ p,τ (σ p)=p
 r : ∀ p,σ (τ p)=p
 b : ∀ p,p<8→σ p<8
 c : ∀ p,p<8→τ p<8
section
variable {σ τ : Nat→Nat} {v : Nat→Int}
theorem Pm.inj (h : Pm σ τ) {a b : Nat} (e : σ a=σ b) : a=b:=by
 have:=congrArg τ e
 rwa [h.l,h.l] at this
theorem Pm.iff (h : Pm σ τ) {p : Nat} : σ p<8↔p<8:=⟨fun k=>by have:=h.c _ k;rwa [h.l] at this,h.b p⟩
theorem Pm.nodup (h : Pm σ τ) {l : List Nat} (hn : l.Nodup) : (l.map σ).Nodup:=
 List.pairwise_map.2 (List.Pairwise.imp (fun hne he=>hne (h.inj he)) hn)
theorem Pm.range (h : Pm σ τ) : ((List.range 8).map σ).Perm (List.range 8):=by
 refine (List.perm_ext_iff_of_nodup (h.nodup List.nodup_range) List.nodup_range).2 fun a=>?_
 rw[List.mem_map,List.mem_range]
 constructor
 ·rintro⟨p,hp,rfl⟩
  exact h.b p (List.mem_range.1 hp)
 ·intro ha
  exact⟨τ a,List.mem_range.2 (h.c a ha),h.r a⟩
theorem Pm.tp (h : Pm σ τ) (v : Nat→Int) (q : Nat→Q2) : (∀ p,p∈Sea.tp (fun p=>v (σ p)) (fun p=>q (σ p)) 8↔σ p∈Sea.tp v q 8)∧(Sea.tp (fun p=>v (σ p)) (fun p=>q (σ p)) 8).length=(Sea.tp v q 8).length:=by
 have hm : ∀ p,p∈Sea.tp (fun p=>v (σ p)) (fun p=>q (σ p)) 8↔σ p∈Sea.tp v q 8:=by
  intro p
  rw[mem_tp,mem_tp,h.iff]
  refine and_congr Iff.rfl (and_congr Iff.rfl ⟨fun k o ho hv=>?_,fun k o ho hv=>k (σ o) (h.b o ho) hv⟩)
  have:=k (τ o) (h.c o ho)
  rw[h.r] at this
  exact this hv
 refine⟨hm,?_⟩
 have p : ((Sea.tp (fun p=>v (σ p)) (fun p=>q (σ p)) 8).map σ).Perm (Sea.tp v q 8):=by
  refine (List.perm_ext_iff_of_nodup (h.nodup tp_nodup) tp_nodup).2 fun a=>?_
  rw[List.mem_map]
  constructor
  ·rintro⟨p,hp,rfl⟩
   exact (hm p).1 hp
  ·intro ha
   refine⟨τ a,(hm _).2 ?_,h.r a⟩
   rw[h.r];exact ha
 have:=p.length_eq
 rwa [List.length_map] at this
theorem Pm.up (h : Pm σ τ) (v : Nat→Int) (q : Nat→Q2) (low : Nat→Int) : Sea.up (fun p=>low (σ p)) (Sea.tp (fun p=>v (σ p)) (fun p=>q (σ p)) 8)=fun p=>Sea.up low (Sea.tp v q 8) (σ p):=by
 funext p
 unfold Sea.up
 have:=(h.tp v q).1 p
 by_cases k : σ p∈Sea.tp v q 8
 ·rw[if_pos k,if_pos (this.2 k)]
 ·rw[if_neg k,if_neg (fun hh=>k (this.1 hh))]
end
end Go.Xe.TVX
/- What the functions of the layer seat come to: SeatOrder. Conditions: none. -/
-- MOD TV
namespace Go.Xe.TVX
open Go Go.Xe Go.Proofs
open Nat renaming reduceLeDiff → qA, reduceSub → qB, reduceAdd → qC, reduceEqDiff → qD, reduceLT → qE
open Int renaming reduceNegSucc → qF, reduceEq → qG
open Go.Xe.V renaming seq → sA, block → sB, scope → sC, skip → sD, close → sE
open Go.Xe renaming pth → P
open Go.Xe.Sea
set_option maxRecDepth 100000
set_option maxHeartbeats 3200000
set_option linter.unusedSimpArgs false
def sg (n k p : Nat) : Nat:=if p<n then (if p+k<n then p+k else p+k-n) else p
end Go.Xe.TVX
/- What the functions of the layer seat come to: all claims in one row. Conditions: none. -/
-- MOD TV
namespace Go.Xe.TVX
open Go Go.Xe Go.Proofs
open Nat renaming reduceLeDiff → qA, reduceSub → qB, reduceAdd → qC, reduceEqDiff → qD, reduceLT → qE
open Int renaming reduceNegSucc → qF, reduceEq → qG
open Go.Xe.V renaming seq → sA, block → sB, scope → sC, skip → sD, close → sE
open Go.Xe renaming pth → P
open Go.Xe.Sea
set_option maxRecDepth 100000
set_option maxHeartbeats 3200000
set_option linter.unusedSimpArgs false
section
open Classical
noncomputable def cn (P : Nat→Prop) (n : Nat) : Int:=sm (fun t=>if P t then 1 else 0) n
theorem cn_s {P : Nat→Prop} {n : Nat} : cn P (n+1)=cn P n+if P n then 1 else 0:=rfl
theorem cn_le {P : Nat→Prop} {b : Int} (hb : 0≤b) : ∀ {n : Nat},(∀ t,t<n→P t→(t : Int)<b)→cn P n≤b∧cn P n≤n
 | 0,_=>⟨hb,Int.le_refl _⟩
 | n+1,h=>by
  have ih:=cn_le (P:=P) (b:=b) hb (n:=n) (fun t ht=>h t (by omega))
  rw[cn_s]
  by_cases k : P n
  ·have hn:=h n (by omega) k
   rw[if_pos k]
   omega
  ·rw[if_neg k]
   omega
theorem cn_ge {P : Nat→Prop} {b : Int} : ∀ {n : Nat},(∀ t : Nat,t<n→(t : Int)<b→P t)→b≤cn P n∨(n : Int)≤cn P n
 | 0,_=>.inr (Int.le_refl _)
 | n+1,h=>by
  have ih:=cn_ge (P:=P) (b:=b) (n:=n) (fun t ht=>h t (by omega))
  rw[cn_s]
  by_cases k : P n
  ·rw[if_pos k]
   rcases ih with ih|ih
   ·exact .inl (by omega)
   ·exact .inr (by omega)
  ·rw[if_neg k]
   have : ¬ (n : Int)<b:=fun hh=>k (h n (by omega) hh)
   rcases ih with ih|ih
   ·exact .inl (by omega)
   ·exact .inl (by omega)
noncomputable def ck (v : Nat→Int) (n : Nat) (P : Nat→Nat→Prop) : Int:=sm (fun q=>if 0<v q then cn (P q) n else 0) 8
theorem ck_le {v f : Nat→Int} {n : Nat} {P : Nat→Nat→Prop} (hf : ∀ q,0≤f q) (h : ∀ q t,q<8→0<v q→t<n→P q t→(t : Int)<f q) : ck v n P≤sm f 8:=
 sm_le fun q hq=>by
  have:=hf q
  by_cases k : 0<v q
  ·rw[if_pos k]
   exact (cn_le (P:=P q) this (n:=n) (fun t ht=>h q t hq k ht)).1
  ·rw[if_neg k];exact this
theorem ck_ge {v f : Nat→Int} {n : Nat} {P : Nat→Nat→Prop} (hf : ∀ q,f q≤n) (hz : ∀ q,¬ 0<v q→f q≤0) (h : ∀ q t,q<8→0<v q→t<n→(t : Int)<f q→P q t) : sm f 8≤ck v n P:=
 sm_le fun q hq=>by
  by_cases k : 0<v q
  ·rw[if_pos k]
   have:=hf q
   rcases cn_ge (P:=P q) (b:=f q) (n:=n) (fun t ht=>h q t hq k ht) with h|h<;>omega
  ·rw[if_neg k];exact hz q k
theorem spread {m S : Int} {v : Nat→Int} {n : Nat} (hn : S=n) (h5 : m≠5) (hv : vok v) (hS : 0≤S∧S≤61) (hv8 : ∀ p,¬ p<8→v p=0) {p s : Nat} (hp : p<8) (vp : 0<v p) (hs : s<n) :
  (ck v n (fun q t=>¬ qlt (clq m S v q t) (clq m S v p s))≤S↔(s : Int)<(otc m S v).1 p)∧(ck v n (fun q t=>qlt (clq m S v p s) (clq m S v q t))<S↔(s : Int)<(otc m S v).2 p):=by
 have F0:=otc_fin (m:=m) hv hS hv8
 have hbd:=Fin.bd F0 hS.1
 obtain⟨F,hF⟩:=F0
 have str : ∀ p t,0<v p→0≤t→qlt (clq m S v p (t+1)) (clq m S v p t):=fun p t h ht=>clq_str h5 h ht
 have ok : ∀ q (t : Int),q<8→0<v q→0≤t→qok (clq m S v q t):=fun q t hq hvq ht=>clq_ok hv hS hq hvq ht
 have dec : ∀ q (a b : Int),q<8→0<v q→0≤a→a≤b→¬ qlt (clq m S v q a) (clq m S v q b):=fun q a b hq hvq ha hab=>clq_le' hv hS hq hvq ha hab
 have sdec : ∀ q (a b : Int),q<8→0<v q→0≤a→a<b→qlt (clq m S v q b) (clq m S v q a):=fun q a b hq hvq ha hab=>
  le_qlt (ok q b hq hvq (by omega)) (ok q (a+1) hq hvq (by omega)) (ok q a hq hvq ha) (dec q (a+1) b hq hvq (by omega) (by omega)) (str q a hvq ha)
 obtain⟨A,hA⟩ : ∃ A,A=(otc m S v).1:=⟨_,rfl⟩
 obtain⟨B,hB⟩ : ∃ B,B=(otc m S v).2:=⟨_,rfl⟩
 rw[← hA,← hB] at hF hbd
 rw[← hA] at F
 rw[← hA,← hB]
 obtain⟨bd1,bd2,_,bd3⟩:=hbd
 have nn:=F.nn
 have zA : ∀ q,¬ 0<v q→A q=0:=fun q hq=>F.adm q (fun k=>hq k.2)
 -- a claim with a seat beats each next one
 have win : ∀ q o (t u : Int),q<8→0<v q→o<8→0<v o→0≤t→t<A q→A o≤u→qlt (clq m S v o u) (clq m S v q t):=fun q o t u hq hvq ho hvo h0 ht hu=>
  le_qlt (ok o u ho hvo (by have:=nn o;omega)) (ok o (A o) ho hvo (nn o)) (ok q t hq hvq h0) (dec o (A o) u ho hvo (nn o) hu) (F.strict str q o t hq hvq ho hvo h0 ht)
 have asy : ∀ q o (t u : Int),q<8→0<v q→o<8→0<v o→0≤t→0≤u→qlt (clq m S v q t) (clq m S v o u)→¬ qlt (clq m S v o u) (clq m S v q t):=fun q o t u hq hvq ho hvo h0 hu=>qlt_asymm (ok q t hq hvq h0) (ok o u ho hvo hu)
 by_cases hlt : (s : Int)<A p
 ·-- it has a seat in each result
  have a1 : ck v n (fun q t=>¬ qlt (clq m S v q t) (clq m S v p s))≤sm A 8:=ck_le nn (fun q t hq hvq _ hh=>Decidable.by_contra fun k=>hh (win p q s t hp vp hq hvq (by omega) hlt (by omega)))
  have a2 : ck v n (fun q t=>qlt (clq m S v p s) (clq m S v q t))≤sm (fun q=>if q=p then (s : Int) else A q) 8:=by
   refine ck_le (fun q=>by split;omega;exact nn q) (fun q t hq hvq _ hh=>?_)
   skip
   split
   ·rename_i e
    subst e
    exact Decidable.by_contra fun k=>dec q s t hq hvq (by omega) (by omega) hh
   ·exact Decidable.by_contra fun k=>asy _ _ _ _ hp vp hq hvq (by omega) (by omega) hh (win p q s t hp vp hq hvq (by omega) hlt (by omega))
  have a3 : sm (fun q=>if q=p then (s : Int) else A q) 8<sm A 8:=sm_lt (p:=p) (fun q hq=>by split;rename_i e;rw[e];omega;omega) hp (by rw[if_pos rfl];exact hlt)
  have b2:=(bd2 p).1
  exact⟨iff_of_true (by omega) hlt,iff_of_true (by omega) (by omega)⟩
 ·have hself : ∀ t : Nat,t≤s→¬ qlt (clq m S v p t) (clq m S v p s):=fun t ht=>dec p t s hp vp (by omega) (by omega)
  rcases hF with⟨h,_⟩|⟨_,e,eB⟩|⟨_,e1,e2,eB⟩
  ·exact absurd vp (h p hp)
  ·-- all seats are given
   rw[eB]
   have a1 : sm (fun q=>if q=p then (s : Int)+1 else A q) 8≤ck v n (fun q t=>¬ qlt (clq m S v q t) (clq m S v p s)):=by
    refine ck_ge (fun q=>by split;omega;have:=(bd1 q).2;omega) (fun q hq=>by split;rename_i e;rw[e] at hq;exact absurd vp hq;rw[zA q hq];omega) (fun q t hq hvq _ ht=>?_)
    skip
    split at ht
    ·rename_i e
     subst e
     exact hself t (by omega)
    ·exact asy _ _ _ _ hp vp hq hvq (by omega) (by omega) (win q p t s hq hvq hp vp (by omega) ht (by omega))
   have a2 : sm A 8<sm (fun q=>if q=p then (s : Int)+1 else A q) 8:=sm_lt (p:=p) (fun q hq=>by split;rename_i e;rw[e];omega;omega) hp (by rw[if_pos rfl];omega)
   have a3 : sm A 8≤ck v n (fun q t=>qlt (clq m S v p s) (clq m S v q t)):=
    ck_ge (fun q=>by have:=(bd1 q).2;omega) (fun q hq=>by rw[zA q hq];omega) (fun q t hq hvq _ ht=>win q p t s hq hvq hp vp (by omega) ht (by omega))
   exact⟨iff_of_false (by omega) hlt,iff_of_false (by omega) hlt⟩
  ·-- some have equal claims to the last seats
   obtain⟨T,hT⟩ : ∃ T,T=tp v (fun p=>clq m S v p (A p)) 8:=⟨_,rfl⟩
   rw[← hT] at e2 eB
   have memT : ∀ q,q∈T↔q<8∧0<v q∧∀ o,o<8→0<v o→¬ qlt (clq m S v q (A q)) (clq m S v o (A o)):=fun q=>by rw[hT];exact mem_tp
   have sB : sm B 8=sm A 8+T.length:=by
    rw[eB]
    exact sm_up (by rw[hT];exact tp_nodup) (fun q hq=>((memT q).1 hq).1)
   have vB : ∀ q,B q=if q∈T then A q+1 else A q:=fun q=>by rw[eB];rfl
   have lA : ∀ q,A q<S:=fun q=>by
    by_cases hq : q<8
    ·have:=sm_each nn hq
     omega
    ·rw[F.adm q (fun k=>hq k.1)]
     have:=bd1 0
     have:=(bd1 0).1
     have h8:=sm_le (s:=fun _=>0) (t:=A) (n:=8) (fun p _=>nn p)
     rw[sm_0] at h8
     omega
   have lB : ∀ q,B q≤n:=fun q=>by
    have:=lA q
    rw[vB];split<;>omega
   have zB : ∀ q,¬ 0<v q→B q≤0:=fun q hq=>by
    rw[vB,if_neg (fun k=>hq ((memT q).1 k).2.1),zA q hq];omega
   by_cases hin : p∈T∧(s : Int)=A p
   ·obtain⟨hpT,hsA⟩:=hin
    obtain⟨_,_,top⟩:=(memT p).1 hpT
    have a1 : sm B 8≤ck v n (fun q t=>¬ qlt (clq m S v q t) (clq m S v p s)):=by
     refine ck_ge lB zB (fun q t hq hvq _ ht=>?_)
     rw[vB] at ht
     by_cases k : (t : Int)<A q
     ·exact asy _ _ _ _ hp vp hq hvq (by omega) (by omega) (win q p t s hq hvq hp vp (by omega) k (by omega))
     ·split at ht
      ·rename_i hqT
       have : (t : Int)=A q:=by omega
       rw[this,hsA]
       exact ((memT q).1 hqT).2.2 p hp vp
      ·omega
    have a2 : ck v n (fun q t=>qlt (clq m S v p s) (clq m S v q t))≤sm A 8:=by
     refine ck_le nn (fun q t hq hvq _ hh=>Decidable.by_contra fun k=>?_)
     rw[hsA] at hh
     have c1:=ok p (A p) hp vp (nn p)
     have c2:=ok q (A q) hq hvq (nn q)
     have c3:=ok q t hq hvq (by omega)
     exact top q hq hvq (qlt_le c1 c3 c2 hh (dec q (A q) t hq hvq (nn q) (by omega)))
    have hBp : B p=A p+1:=by rw[vB,if_pos hpT]
    exact⟨iff_of_false (by omega) hlt,iff_of_true (by omega) (by omega)⟩
   ·have a1 : sm B 8≤ck v n (fun q t=>qlt (clq m S v p s) (clq m S v q t)):=by
     refine ck_ge lB zB (fun q t hq hvq _ ht=>?_)
     rw[vB] at ht
     by_cases k : (t : Int)<A q
     ·exact win q p t s hq hvq hp vp (by omega) k (by omega)
     ·split at ht
      ·rename_i hqT
       have e : (t : Int)=A q:=by omega
       rw[e]
       have tq:=((memT q).1 hqT).2.2
       have c1:=ok p s hp vp (by omega)
       have c2:=ok p (A p) hp vp (nn p)
       have c3:=ok q (A q) hq hvq (nn q)
       by_cases hpT : p∈T
       ·have hsA : A p<s:=by
         have : ¬ (s : Int)=A p:=fun k=>hin ⟨hpT,k⟩
         omega
        exact qlt_le c1 c2 c3 (sdec p (A p) s hp vp (nn p) hsA) (tq p hp vp)
       ·have : ∃ o,o<8∧0<v o∧qlt (clq m S v p (A p)) (clq m S v o (A o)):=by
         apply Decidable.by_contra
         intro hh
         exact hpT ((memT p).2 ⟨hp,vp,fun o ho hvo kk=>hh ⟨o,ho,hvo,kk⟩⟩)
        obtain⟨o,ho,hvo,kk⟩:=this
        have c4:=ok o (A o) ho hvo (nn o)
        have d1:=qlt_le c2 c4 c3 kk (tq o ho hvo)
        exact le_qlt c1 c2 c3 (dec p (A p) s hp vp (nn p) (by omega)) d1
      ·omega
    have a2 : ck v n (fun q t=>qlt (clq m S v p s) (clq m S v q t))≤ck v n (fun q t=>¬ qlt (clq m S v q t) (clq m S v p s)):=
     sm_le fun q hq=>by
      by_cases k : 0<v q
      ·rw[if_pos k,if_pos k]
       refine sm_le fun t _=>?_
       by_cases k2 : qlt (clq m S v p s) (clq m S v q t)
       ·rw[if_pos k2,if_pos (asy _ _ _ _ hp vp hq k (by omega) (by omega) k2)];omega
       ·rw[if_neg k2];split<;>omega
      ·rw[if_neg k,if_neg k];omega
    have hBp : ¬ (s : Int)<B p:=by
     rw[vB]
     split
     ·rename_i hpT
      have : ¬ (s : Int)=A p:=fun k=>hin ⟨hpT,k⟩
      omega
     ·exact hlt
    exact⟨iff_of_false (by omega) hlt,iff_of_false (by omega) hBp⟩
end
end Go.Xe.TVX
/- What the functions of the layer seat come to: Spread. Conditions: none. -/
-- MOD TV
namespace Go.Xe.TVX
open Go Go.Xe Go.Proofs
open Nat renaming reduceLeDiff → qA, reduceSub → qB, reduceAdd → qC, reduceEqDiff → qD, reduceLT → qE
open Int renaming reduceNegSucc → qF, reduceEq → qG
open Go.Xe.V renaming seq → sA, block → sB, scope → sC, skip → sD, close → sE
open Go.Xe renaming pth → P
open Go.Xe.Sea
set_option maxRecDepth 100000
set_option maxHeartbeats 3200000
set_option linter.unusedSimpArgs false
section
open Classical
theorem cn_nn (P : Nat→Prop) : ∀ n,0≤cn P n∧cn P n≤n
 | 0=>⟨Int.le_refl _,Int.le_refl _⟩
 | n+1=>by
  have:=cn_nn P n
  rw[cn_s]
  split<;>omega
end
end Go.Xe.TVX
