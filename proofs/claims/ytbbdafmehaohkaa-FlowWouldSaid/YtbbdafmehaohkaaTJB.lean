/- Sizes that a truth has: what the bounds of all cells mean. Conditions: none. -/
import Derived.Test.YtbbdafmehaohkaaTHN
-- MOD TF
namespace Go.Xe.TFX
open Go Go.Xe Go.Proofs
open Nat renaming reduceLeDiff → qA, reduceSub → qB, reduceAdd → qC, reduceEqDiff → qD, reduceLT → qE
open Int renaming reduceNegSucc → qF, reduceEq → qG
open Go.Xe.V renaming seq → sA, block → sB, scope → sC, skip → sD, close → sE
open Go.Xe renaming pth → P
open Go.Xe.Flw
set_option maxRecDepth 100000
set_option maxHeartbeats 3200000
set_option linter.unusedSimpArgs false
def pt (s : Int×Int→Int) : Sf:=fun z=>some (s z,s z)
def isIn (n : Int) (r : R2) : Prop:=r.1≤n∧n≤r.2
structure Tru (T : Tb) (u : Nat→Bool) (s : Int×Int→Int) : Prop where
 b : ∀ c (h : c<T.B.length),isIn (s ((c : Int),-1)) T.B[c]
 own : ∀ x y,x<T.C.length→y<grp T→isIn (s ((x : Int),(y : Int))) (cns T u x y)
 car : ∀ x y,x<T.C.length→y<grp T→isIn (s ((x : Int),(y : Int))) (cra T (pt s) x y)
def In (s : Int×Int→Int) (f : Sf) : Prop:=∀ z v,f z=some v→isIn (s z) v
theorem src_at {T : Tb} {x y : Nat} (hv : val T) (hx : x<T.C.length) (hy : y<grp T) {s : Int×Int} (hs : s∈src x y (grp T)) : isRate (rtt T s.2)∧∃ k : Nat,k+1=x∧((s=((k : Int),-1)∧k<T.B.length∧y=0)∨∃ g : Nat,s=((k : Int),(g : Int))∧g<grp T∧(y=g+1∨(y=g∧g+1=grp T))):=by
 obtain⟨v1,v2,v3,v4,v5,v6,v7,v8⟩:=hv
 have hz : 1≤x∧s.1=((x-1 : Nat) : Int)∧(s.2=(y : Int)-1∨(s.2=(y : Int)∧y+1=grp T)):=by
  unfold src at hs
  split at hs
  ·simp at hs
  ·have : 1≤x:=by omega
   split at hs
   ·rcases List.mem_cons.1 hs with rfl|hs
    ·exact⟨this,by simp only;omega,.inl rfl⟩
    ·rw[List.mem_singleton.1 hs];exact⟨this,by simp only;omega,.inr ⟨rfl,by omega⟩⟩
   ·rw[List.mem_singleton.1 hs];exact⟨this,by simp only;omega,.inl rfl⟩
 obtain⟨z1,z2,z3⟩:=hz
 obtain⟨a,b⟩:=s
 simp only at z2 z3 ⊢
 subst z2
 refine⟨?_,x-1,by omega,?_⟩
 ·unfold rtt
  rw[gd (by omega)]
  exact v7 _ (List.getElem_mem _)
 ·by_cases hb1 : b=-1
  ·subst hb1
   exact .inl ⟨rfl,by omega,by omega⟩
  ·obtain⟨g',rfl⟩ : ∃ g' : Nat,b=(g' : Int):=⟨b.toNat,by omega⟩
   exact .inr ⟨g',rfl,by omega,by omega⟩
theorem cra_mono {T : Tb} {f g : Sf} {x y : Nat} (h : ∀ s∈src x y (grp T),isRate (rtt T s.2)∧(va0 g s).1≤(va0 f s).1∧(va0 f s).2≤(va0 g s).2) : (cra T g x y).1≤(cra T f x y).1∧(cra T f x y).2≤(cra T g x y).2:=by
 have hm : ∀ s∈src x y (grp T),few (rtt T s.2) (va0 g s).1≤few (rtt T s.2) (va0 f s).1∧mst (rtt T s.2) (va0 f s).2≤mst (rtt T s.2) (va0 g s).2:=fun s hs=>by
  obtain⟨a,b,c⟩:=h s hs
  exact⟨few_mono a b,mst_mono a c⟩
 clear h
 unfold cra car
 by_cases hx : (x : Int)=0
 ·rw[if_pos hx,if_pos hx]
  exact⟨Int.le_refl _,Int.le_refl _⟩
 ·rw[if_neg hx,if_neg hx]
  unfold pso
  unfold src at hm ⊢
  rw[if_neg hx] at hm ⊢
  by_cases hy : (y : Int)=(grp T : Int)-1
  ·rw[if_pos hy] at hm ⊢
   have f1:=hm _ (List.mem_cons_self ..)
   have f2:=hm _ (List.mem_cons_of_mem _ (List.mem_singleton.2 rfl))
   simp only[List.map_cons,List.map_nil,tt,List.foldl_cons,List.foldl_nil,add2,sv,va0,rtt] at f1 f2 ⊢
   omega
  ·rw[if_neg hy] at hm ⊢
   have f1:=hm _ (List.mem_singleton.2 rfl)
   simp only[List.map_cons,List.map_nil,tt,List.foldl_cons,List.foldl_nil,add2,sv,va0,rtt] at f1 ⊢
   omega
theorem cra_congr {T : Tb} {f g : Sf} {x y : Nat} (h : ∀ s∈src x y (grp T),f s=g s) : cra T f x y=cra T g x y:=by
 unfold cra
 have : pso T f x y=pso T g x y:=by
  unfold pso
  exact List.map_congr_left (fun s hs=>by rw[h s hs])
 rw[this]
theorem va0_pt (s : Int×Int→Int) (z : Int×Int) : va0 (pt s) z=(s z,s z):=rfl
theorem va0_some {f : Sf} {z : Int×Int} {v : R2} (h : f z=some v) : va0 f z=v:=by unfold va0;rw[h];rfl
theorem tru_fw {T : Tb} {u : Nat→Bool} {s : Int×Int→Int} (hf : fit T) (hv : val T) (h : Tru T u s) : ∀ {k : Nat},k≤T.C.length*grp T→Fw T k (fw T u k)∧In s (fw T u k)∧∀ q,q<k→¬ (en T u q).2<(en T u q).1
 | 0,_=>by
  refine⟨Fw.zero T u,fun z v hz=>?_,fun q hq=>absurd hq (Nat.not_lt_zero _)⟩
  have e : fw T u 0=bf T.B:=by unfold fw fwd;rw[List.take_zero];rfl
  rw[e] at hz
  unfold bf at hz
  split at hz
  ·rename_i hc
   obtain⟨a,b⟩:=z
   simp only at hc hz
   obtain⟨rfl,ha⟩:=hc
   obtain⟨n,rfl⟩ : ∃ n : Nat,a=(n : Int):=⟨a.toNat,by omega⟩
   rw[Int.toNat_natCast,List.getElem?_eq_some_iff] at hz
   obtain⟨hn,rfl⟩:=hz
   exact h.b n hn
  ·cases hz
 | k+1,hk=>by
  obtain⟨i1,i2,i3⟩:=tru_fw hf hv h (k:=k) (by omega)
  have hk' : k<T.C.length*grp T:=by omega
  have hG : 0<grp T:=by have:=hv.1;omega
  have hc : k/grp T<T.C.length:=(Nat.div_lt_iff_lt_mul hG).2 hk'
  have hg : k%grp T<grp T:=Nat.mod_lt _ hG
  have hkk : k/grp T*grp T+k%grp T=k:=by rw[Nat.mul_comm];exact Nat.div_add_mod k (grp T)
  have hin : isIn (s (((k/grp T : Nat) : Int),((k%grp T : Nat) : Int))) (en T u k):=by
   have h1:=h.own _ _ hc hg
   have h2:=h.car _ _ hc hg
   have h3:=cra_mono (T:=T) (f:=pt s) (g:=fw T u k) (x:=k/grp T) (y:=k%grp T) (fun s' hs'=>by
    obtain⟨q1,k',q2,q3⟩:=src_at hv hc hg hs'
    refine⟨q1,?_⟩
    rw[va0_pt]
    rcases q3 with⟨rfl,q4,_⟩|⟨g',rfl,q4,_⟩
    ·rw[va0_some (i1.b k' q4)]
     exact h.b k' q4
    ·have hlt : k'*grp T+g'<k:=by
      have:=Nat.mul_le_mul_right (grp T) (show k'+1≤k/grp T by omega)
      rw[Nat.add_mul] at this
      omega
     obtain⟨v,w1,_⟩:=i1.e k' g' (by omega) q4 hlt
     rw[va0_some w1]
     exact i2 _ _ w1)
   unfold en ent com
   unfold isIn at h1 h2 ⊢
   simp only
   omega
  have hne : ¬ (en T u k).2<(en T u k).1:=by unfold isIn at hin;omega
  refine⟨i1.step hf hv hk' hne,fun z v hz=>?_,fun q hq=>?_⟩
  ·rw[fw_s hk'] at hz
   unfold put at hz
   by_cases hzz : z=(((k/grp T,k%grp T).1 : Int),((k/grp T,k%grp T).2 : Int))
   ·rw[if_pos hzz] at hz
    rw[hzz,← Option.some.inj hz]
    exact hin
   ·rw[if_neg hzz] at hz
    exact i2 z v hz
  ·by_cases hqk : q=k
   ·rw[hqk];exact hne
   ·exact i3 q (by omega)
theorem tru_ok {T : Tb} {u : Nat→Bool} {s : Int×Int→Int} (hf : fit T) (hv : val T) (h : Tru T u s) : ok T u:=(tru_fw hf hv h (Nat.le_refl _)).2.2
theorem In.nst {T : Tb} {f : Sf} {s : Int×Int→Int} {x y : Nat} {v : R2} (h : In s f) (hm : Met T f x y v) (hN : (T.N.getD y (0,0)).1≤(T.N.getD y (0,0)).2) (hc : isIn (s ((x : Int),(y : Int))) (cra T (pt s) x y)) {s' : Int×Int} (hs : s'∈src x y (grp T)) : In s (nst T (x,y) f s'):=by
 obtain⟨z,hz,hnar,e,_⟩:=hm.step hN hs
 rw[e]
 generalize nar (rtt T s'.2) z (sub2 (cra T f x y) (sv (rtt T s'.2) z)) v=w at *
 have hmono:=cra_mono (T:=T) (f:=pt s) (g:=pu f s' (s s',s s')) (x:=x) (y:=y) (fun t ht=>by
  obtain⟨q,z',hz',_⟩:=hm.src t ht
  refine⟨q,?_⟩
  rw[va0_pt]
  by_cases htt : t=s'
  ·subst htt
   unfold va0 pu
   rw[if_pos rfl]
   exact⟨Int.le_refl _,Int.le_refl _⟩
  ·have : va0 (pu f s' (s s',s s')) t=z':=by
    unfold va0 pu
    rw[if_neg htt,hz']
    rfl
   rw[this]
   exact h t z' hz')
 obtain⟨c1,c2⟩:=cra_put (f:=f) hs (s s',s s')
 rw[va0_some hz] at c1 c2
 have hv:=h _ _ hm.at_
 have hsz:=h _ _ hz
 intro t w' ht
 unfold pu at ht
 by_cases htt : t=s'
 ·rw[if_pos htt] at ht
  rw[htt,← Option.some.inj ht]
  unfold isIn at hv hsz hc ⊢
  simp only at c1 c2
  refine⟨?_,?_⟩
  ·rcases Int.lt_or_le (s s') w.1 with hlt|hle
   ·have:=hnar.low _ hsz.1 hlt
    simp only[sub2,sv] at this
    omega
   ·exact hle
  ·rcases Int.lt_or_le w.2 (s s') with hlt|hle
   ·have:=hnar.high _ hsz.2 hlt
    simp only[sub2,sv] at this
    omega
   ·exact hle
 ·rw[if_neg htt] at ht
  exact h t w' ht
theorem In.fold {T : Tb} {s : Int×Int→Int} {x y : Nat} {v : R2} (hN : (T.N.getD y (0,0)).1≤(T.N.getD y (0,0)).2) (hc : isIn (s ((x : Int),(y : Int))) (cra T (pt s) x y)) : ∀ {l : List (Int×Int)} {f : Sf},In s f→Met T f x y v→(∀ t∈l,t∈src x y (grp T))→In s (l.foldl (Go.Xe.TFX.nst T (x,y)) f)
 | [],_,h,_,_=>h
 | t::l,f,h,hm,hl=>by
  have ht:=hl t (List.mem_cons_self ..)
  obtain⟨_,_,_,_,hm'⟩:=hm.step hN ht
  exact In.fold hN hc (l:=l) (h.nst hm hN hc ht) hm' (fun t' h'=>hl t' (List.mem_cons_of_mem _ h'))
theorem tru_bk {T : Tb} {f0 : Sf} {s : Int×Int→Int} (hv : val T) (hfin : Fin T f0) (h0 : In s f0) (hc : ∀ x y,x<T.C.length→y<grp T→isIn (s ((x : Int),(y : Int))) (cra T (pt s) x y)) : ∀ {k : Nat},k≤T.C.length*grp T→In s (bk T f0 k)
 | 0,_=>h0
 | k+1,hk=>by
  have ih:=tru_bk hv hfin h0 hc (k:=k) (by omega)
  have hb:=bk_ok hv hfin (k:=k) (by omega)
  have hG : 0<grp T:=by have:=hv.1;omega
  have e : T.C.length*grp T-k=T.C.length*grp T-(k+1)+1:=by omega
  have e' : T.C.length*grp T-1-k=T.C.length*grp T-(k+1):=by omega
  rw[e] at hb
  show In s (bst T ((T.C.length*grp T-1-k)/grp T,(T.C.length*grp T-1-k)%grp T) (bk T f0 k))
  rw[e']
  have hq : T.C.length*grp T-(k+1)<T.C.length*grp T:=by omega
  generalize T.C.length*grp T-(k+1)=n at *
  have hx : n/grp T<T.C.length:=(Nat.div_lt_iff_lt_mul hG).2 hq
  have hy : n%grp T<grp T:=Nat.mod_lt _ hG
  have hn : n/grp T*grp T+n%grp T=n:=by rw[Nat.mul_comm];exact Nat.div_add_mod n (grp T)
  obtain⟨v,hm,_⟩:=hfin.met hv hb hx hy hn
  have hNl : n%grp T<T.N.length:=by have:=hv.2.2.2.1;omega
  refine In.fold (v:=v) ?_ (hc _ _ hx hy) ih hm (fun t ht=>ht)
  rw[gd hNl]
  exact (hv.2.2.2.2.2.2.2 _ (List.getElem_mem hNl)).2.1
end Go.Xe.TFX
/- Sizes that a truth has: each number within the bounds is one of a truth. Conditions: none. -/
-- MOD TF
namespace Go.Xe.TFX
open Go Go.Xe Go.Proofs
open Nat renaming reduceLeDiff → qA, reduceSub → qB, reduceAdd → qC, reduceEqDiff → qD, reduceLT → qE
open Int renaming reduceNegSucc → qF, reduceEq → qG
open Go.Xe.V renaming seq → sA, block → sB, scope → sC, skip → sD, close → sE
open Go.Xe renaming pth → P
open Go.Xe.Flw
set_option maxRecDepth 100000
set_option maxHeartbeats 3200000
set_option linter.unusedSimpArgs false
theorem fin_eq {T : Tb} {u : Nat→Bool} (_ : Fw T (T.C.length*grp T) (fw T u (T.C.length*grp T))) {x y : Nat} (hx : x<T.C.length) (hy : y<grp T) : fw T u (T.C.length*grp T) ((x : Int),(y : Int))=some (com (cra T (fw T u (T.C.length*grp T)) x y) (cns T u x y)):=by
 have hk:=cel_lt hx hy
 have hq : (x*grp T+y)/grp T=x:=by rw[Nat.mul_comm,Nat.mul_add_div (by omega),Nat.div_eq_of_lt hy,Nat.add_zero]
 have hr : (x*grp T+y)%grp T=y:=by rw[Nat.mul_comm,Nat.mul_add_mod,Nat.mod_eq_of_lt hy]
 have e1 : fw T u (T.C.length*grp T) ((x : Int),(y : Int))=fw T u (x*grp T+y+1) ((x : Int),(y : Int)):=by
  refine fw_at (by omega) (Nat.le_refl _) (fun q q1 q2 hh=>?_)
  rw[Prod.mk.injEq] at hh
  have:=Nat.div_add_mod q (grp T)
  have e : q/grp T=x:=by omega
  have e' : q%grp T=y:=by omega
  rw[e,e',Nat.mul_comm] at this
  omega
 have ec : cra T (fw T u (T.C.length*grp T)) x y=cra T (fw T u (x*grp T+y)) x y:=by
  refine cra_congr (fun s hs=>?_)
  refine fw_at (by omega) (Nat.le_refl _) (fun q q1 q2 hh=>?_)
  have hd : x≤q/grp T:=(Nat.le_div_iff_mul_le (by omega)).2 (by omega)
  have hs1 : s.1=(x : Int)-1:=by
   unfold src at hs
   split at hs
   ·simp at hs
   ·split at hs
    ·rcases List.mem_cons.1 hs with rfl|hs
     ·rfl
     ·rw[List.mem_singleton.1 hs]
    ·rw[List.mem_singleton.1 hs]
  rw[hh] at hs1
  simp only at hs1
  omega
 rw[ec,e1,fw_s hk]
 unfold put en ent
 rw[hq,hr,if_pos rfl]
theorem ex_src {T : Tb} {f : Sf} {x y : Nat} {n : Int} (hx : x≠0) (hN : (T.N.getD y (0,0)).1≤(T.N.getD y (0,0)).2) (h : ∀ s∈src x y (grp T),isRate (rtt T s.2)∧∃ v,f s=some v∧0≤v.1∧v.1≤v.2) (hn : isIn n (cra T f x y)) :
  ∃ t : Int×Int→Int,(∀ s∈src x y (grp T),isIn (t s) (va0 f s))∧isIn n (cra T (pt t) x y):=by
 have one : ∀ (q z N : R2),isRate q→0≤z.1→z.1≤z.2→N.1≤N.2→N.1+few q z.1≤n→n≤N.2+mst q z.2→∃ a,isIn a z∧N.1+few q a≤n∧n≤N.2+mst q a:=by
  intro q z N hq h0 h1 h2 h3 h4
  have hnar:=nar_ok (q:=q) (r:=z) (o:=N) (f:=(n,n)) hq h1 h0 h2 (Int.le_refl _) (by simp only;omega) (by simp only;omega)
  have k1:=hnar.lo
  have k2:=hnar.hi
  have k3:=hnar.some
  have k4:=hnar.most
  have k5:=hnar.need
  simp only at k4 k5
  exact⟨_,⟨k1,by omega⟩,by omega,by omega⟩
 have hx' : ¬ (x : Int)=0:=by omega
 unfold cra car at hn ⊢
 simp only[if_neg hx'] at hn ⊢
 unfold pso at hn ⊢
 unfold src at h hn ⊢
 simp only[if_neg hx'] at h hn ⊢
 by_cases hy : (y : Int)=(grp T : Int)-1
 ·simp only[if_pos hy] at h hn ⊢
  obtain⟨q1,v1,f1,a1,b1⟩:=h _ (List.mem_cons_self ..)
  obtain⟨q2,v2,f2,a2,b2⟩:=h _ (List.mem_cons_of_mem _ (List.mem_singleton.2 rfl))
  simp only[List.map_cons,List.map_nil,tt,List.foldl_cons,List.foldl_nil,add2,sv,f1,f2,Option.getD_some] at hn
  simp only at q1 q2
  change isRate (T.Rt.getD ((y : Int)-1+1).toNat (0,0)) at q1
  change isRate (T.Rt.getD ((y : Int)+1).toNat (0,0)) at q2
  generalize T.N.getD y (0,0)=N at *
  generalize e1 : T.Rt.getD ((y : Int)-1+1).toNat (0,0)=r1 at *
  generalize e2 : T.Rt.getD ((y : Int)+1).toNat (0,0)=r2 at *
  obtain⟨h1,h2⟩:=hn
  simp only at h1 h2
  have m1:=few_mono q2 b2
  have m2:=few_mst q2 (n:=v2.2) (by omega)
  obtain⟨a,ha,ha1,ha2⟩:=one r1 v1 (N.1+few r2 v2.1,N.2+mst r2 v2.2) q1 a1 b1 (by simp only;omega) (by simp only;omega) (by simp only;omega)
  have m3:=few_mst q1 (n:=a) (by have:=ha.1;omega)
  simp only at ha1 ha2
  obtain⟨b,hb,hb1,hb2⟩:=one r2 v2 (N.1+few r1 a,N.2+mst r1 a) q2 a2 b2 (by simp only;omega) (by simp only;omega) (by simp only;omega)
  simp only at hb1 hb2
  have n1 : ((x : Int)-1,(y : Int))≠((x : Int)-1,(y : Int)-1):=by simp only[ne_eq,Prod.mk.injEq];omega
  refine⟨fun z=>if z=((x : Int)-1,(y : Int)-1) then a else b,fun s hs=>?_,?_⟩
  ·rcases List.mem_cons.1 hs with rfl|hs
   ·simp only[if_true,va0_some f1];exact ha
   ·rw[List.mem_singleton] at hs
    subst hs
    simp only[if_neg n1,va0_some f2];exact hb
  ·simp only[List.map_cons,List.map_nil,tt,List.foldl_cons,List.foldl_nil,add2,sv,pt,Option.getD_some,if_true,if_neg n1,e1,e2]
   exact⟨by simp only;omega,by simp only;omega⟩
 ·simp only[if_neg hy] at h hn ⊢
  obtain⟨q1,v1,f1,a1,b1⟩:=h _ (List.mem_singleton.2 rfl)
  simp only[List.map_cons,List.map_nil,tt,List.foldl_cons,List.foldl_nil,add2,sv,f1,Option.getD_some] at hn
  change isRate (T.Rt.getD ((y : Int)-1+1).toNat (0,0)) at q1
  generalize T.N.getD y (0,0)=N at *
  generalize e1 : T.Rt.getD ((y : Int)-1+1).toNat (0,0)=r1 at *
  obtain⟨h1,h2⟩:=hn
  simp only at h1 h2
  obtain⟨a,ha,ha1,ha2⟩:=one r1 v1 N q1 a1 b1 hN (by omega) (by omega)
  refine⟨fun _=>a,fun s hs=>?_,?_⟩
  ·rw[List.mem_singleton] at hs
   subst hs
   rw[va0_some f1];exact ha
  ·simp only[List.map_cons,List.map_nil,tt,List.foldl_cons,List.foldl_nil,add2,sv,pt,Option.getD_some,e1]
   exact⟨by simp only;omega,by simp only;omega⟩
structure Onto (T : Tb) (f : Sf) : Prop where
 b : ∀ c,c<T.B.length→∃ v,f ((c : Int),-1)=some v
 step : ∀ x y,x+1<T.C.length→y<grp T→∀ n,isIn n (va0 f (((x+1 : Nat) : Int),(y : Int)))→∃ t : Int×Int→Int,(∀ s∈src ((x+1 : Nat) : Int) y (grp T),isIn (t s) (va0 f s))∧isIn n (cra T (pt t) (x+1) y)
def glue (x : Nat) (a : Nat→Int) (b : Int) (s : Int×Int→Int) : Int×Int→Int:=fun z=>if z.1=((x+1 : Nat) : Int) then a z.2.toNat else if z=((x : Int),-1) then b else s z
theorem glue_a {x : Nat} {a : Nat→Int} {b : Int} {s : Int×Int→Int} (y : Nat) : glue x a b s (((x+1 : Nat) : Int),(y : Int))=a y:=by
 unfold glue
 rw[if_pos rfl]
 simp only[Int.toNat_natCast]
theorem glue_b {x : Nat} {a : Nat→Int} {b : Int} {s : Int×Int→Int} : glue x a b s ((x : Int),-1)=b:=by
 unfold glue
 rw[if_neg (by simp only;omega),if_pos rfl]
theorem glue_s {x : Nat} {a : Nat→Int} {b : Int} {s : Int×Int→Int} {p q : Int} (h1 : p≠((x+1 : Nat) : Int)) (h2 : p≠(x : Int)∨q≠-1) : glue x a b s (p,q)=s (p,q):=by
 unfold glue
 rw[if_neg h1,if_neg (by simp only[Prod.mk.injEq];omega)]
theorem onto_ex {T : Tb} {f : Sf} (hv : val T) (h : Onto T f) (h0 : ∀ y,y<grp T→∀ n,isIn n (va0 f ((0 : Int),(y : Int)))→0≤n∧n≤500) : ∀ (x : Nat),x<T.C.length→∀ a : Nat→Int,(∀ y,y<grp T→isIn (a y) (va0 f ((x : Int),(y : Int)))) →
  ∃ s : Int×Int→Int,(∀ y : Nat,y<grp T→s ((x : Int),(y : Int))=a y)∧(∀ c : Nat,c<x→isIn (s ((c : Int),-1)) (va0 f ((c : Int),-1)))∧∀ k g : Nat,k≤x→g<grp T→isIn (s ((k : Int),(g : Int))) (va0 f ((k : Int),(g : Int)))∧isIn (s ((k : Int),(g : Int))) (cra T (pt s) k g)
 | 0,hx,a,ha=>by
  refine⟨fun z=>a z.2.toNat,fun y _=>by simp only[Int.toNat_natCast],fun c hc=>absurd hc (Nat.not_lt_zero _),fun k g hk hg=>?_⟩
  obtain rfl : k=0:=by omega
  simp only[Int.toNat_natCast]
  refine⟨ha g hg,?_⟩
  have:=h0 g hg _ (ha g hg)
  have e : cra T (pt fun z=>a z.2.toNat) 0 g=(0,500):=rfl
  rw[e]
  exact this
 | x+1,hx,a,ha=>by
  have hst : ∀ y,∃ t : Int×Int→Int,y<grp T→(∀ s∈src ((x+1 : Nat) : Int) y (grp T),isIn (t s) (va0 f s))∧isIn (a y) (cra T (pt t) (x+1) y):=fun y=>by
   by_cases hy : y<grp T
   ·obtain⟨t,h1,h2⟩:=h.step x y hx hy (a y) (ha y hy)
    exact⟨t,fun _=>⟨h1,h2⟩⟩
   ·exact⟨fun _=>0,fun h=>absurd h hy⟩
  obtain⟨t,ht⟩:=Classical.axiomOfChoice hst
  have hG : 2≤grp T:=hv.1
  have mem1 : ∀ g,g<grp T→((x : Int),(g : Int))∈src ((x+1 : Nat) : Int) ((min (g+1) (grp T-1) : Nat) : Int) (grp T):=fun g hg=>by
   unfold src
   rw[if_neg (by omega)]
   by_cases hl : g+1=grp T
   ·rw[if_pos (by omega)]
    refine List.mem_cons_of_mem _ (List.mem_singleton.2 ?_)
    rw[Prod.mk.injEq];omega
   ·have e1 : (((x+1 : Nat) : Int)-1,((min (g+1) (grp T-1) : Nat) : Int)-1)=((x : Int),(g : Int)):=by rw[Prod.mk.injEq];omega
    split
    ·rw[e1];exact List.mem_cons_self ..
    ·rw[e1];exact List.mem_cons_self ..
  have mem0 : ((x : Int),(-1 : Int))∈src ((x+1 : Nat) : Int) ((0 : Nat) : Int) (grp T):=by
   unfold src
   rw[if_neg (by omega),if_neg (by omega)]
   refine List.mem_singleton.2 ?_
   rw[Prod.mk.injEq];omega
  obtain⟨s,i1,i2,i3⟩:=onto_ex hv h h0 x (by omega) (fun g=>t (min (g+1) (grp T-1)) ((x : Int),(g : Int))) (fun g hg=>(ht _ (by omega)).1 _ (mem1 g hg))
  refine⟨glue x a (t 0 ((x : Int),-1)) s,fun y _=>glue_a y,fun c hc=>?_,fun k g hk hg=>?_⟩
  ·by_cases hcx : c=x
   ·subst hcx
    rw[glue_b]
    exact (ht 0 (by omega)).1 _ mem0
   ·rw[glue_s (by omega) (.inl (by omega))]
    exact i2 c (by omega)
  ·by_cases hkx : k=x+1
   ·subst hkx
    rw[glue_a]
    refine⟨ha g hg,?_⟩
    have e : cra T (pt (glue x a (t 0 ((x : Int),-1)) s)) (x+1) g=cra T (pt (t g)) (x+1) g:=by
     refine cra_congr (fun s' hs'=>?_)
     obtain⟨_,k',q2,q3⟩:=src_at hv hx hg hs'
     obtain rfl : k'=x:=by omega
     unfold pt
     rcases q3 with⟨rfl,q4,rfl⟩|⟨g',rfl,q4,q5⟩
     ·rw[glue_b]
     ·rw[glue_s (by omega) (.inr (by omega)),i1 g' q4]
      have : min (g'+1) (grp T-1)=g:=by omega
      rw[this]
    rw[e]
    exact (ht g hg).2
   ·have hk' : k≤x:=by omega
    obtain⟨j1,j2⟩:=i3 k g hk' hg
    rw[glue_s (by omega) (.inr (by omega))]
    refine⟨j1,?_⟩
    have e : cra T (pt (glue x a (t 0 ((x : Int),-1)) s)) k g=cra T (pt s) k g:=by
     refine cra_congr (fun s' hs'=>?_)
     obtain⟨_,k',q2,q3⟩:=src_at hv (by omega) hg hs'
     unfold pt
     rcases q3 with⟨rfl,q4,_⟩|⟨g',rfl,q4,_⟩
     ·rw[glue_s (by omega) (.inl (by omega))]
     ·rw[glue_s (by omega) (.inr (by omega))]
    rw[e]
    exact j2
theorem onto_tru {T : Tb} {u : Nat→Bool} {f : Sf} (hv : val T) (h : Onto T f) (h0 : ∀ y,y<grp T→∀ n,isIn n (va0 f ((0 : Int),(y : Int)))→0≤n∧n≤500) (hne : ∀ x y,x<T.C.length→y<grp T→(va0 f ((x : Int),(y : Int))).1≤(va0 f ((x : Int),(y : Int))).2)
  (hB : ∀ c (h : c<T.B.length),va0 f ((c : Int),-1)=T.B[c]) (hC : ∀ x y,x<T.C.length→y<grp T→∀ n,isIn n (va0 f ((x : Int),(y : Int)))→isIn n (cns T u x y)) :
  ∃ s,Tru T u s∧∀ x y : Nat,x<T.C.length→y<grp T→isIn (s ((x : Int),(y : Int))) (va0 f ((x : Int),(y : Int))):=by
 have hK : 0<T.C.length:=by have:=hv.2.1;omega
 obtain⟨s,s1,s2,s3⟩:=onto_ex hv h h0 (T.C.length-1) (by omega) (fun y=>(va0 f (((T.C.length-1 : Nat) : Int),(y : Int))).1) (fun y hy=>⟨Int.le_refl _,hne _ _ (by omega) hy⟩)
 refine⟨s,⟨fun c hc=>?_,fun x y hx hy=>hC x y hx hy _ (s3 x y (by omega) hy).1,fun x y hx hy=>(s3 x y (by omega) hy).2⟩,fun x y hx hy=>(s3 x y (by omega) hy).1⟩
 have:=s2 c (by have:=hv.2.1;omega)
 rw[hB c hc] at this
 exact this
theorem fin_onto {T : Tb} {f0 : Sf} (hv : val T) (h : Fin T f0) {x y : Nat} (hx : x+1<T.C.length) (hy : y<grp T) {n : Int} (hn : isIn n (va0 f0 (((x+1 : Nat) : Int),(y : Int)))) : ∃ t : Int×Int→Int,(∀ s∈src ((x+1 : Nat) : Int) y (grp T),isIn (t s) (va0 f0 s))∧isIn n (cra T (pt t) (x+1) y):=by
 obtain⟨v,a1,a2,a3,a4,a5,a6⟩:=h.c (x+1) y hx hy
 rw[va0_some a1] at hn
 have hyN : y<T.N.length:=by have:=hv.2.2.2.1;omega
 refine ex_src (by omega) ?_ (fun s hs=>?_) ⟨by have:=hn.1;omega,by have:=hn.2;omega⟩
 ·rw[gd hyN]
  exact (hv.2.2.2.2.2.2.2 _ (List.getElem_mem hyN)).2.1
 ·obtain⟨q1,k,q2,q3⟩:=src_at hv hx hy hs
  refine⟨q1,?_⟩
  rcases q3 with⟨rfl,q4,_⟩|⟨g',rfl,q4,_⟩
  ·obtain⟨w1,w2,_⟩:=hv.2.2.2.2.2.1 _ (List.getElem_mem q4)
   exact⟨_,h.b k q4,w1,w2⟩
  ·obtain⟨w,w1,w2,w3,_⟩:=h.c k g' (by omega) q4
   exact⟨w,w1,w2,w3⟩
theorem fw_tru {T : Tb} {u : Nat→Bool} (hv : val T) (h : Fw T (T.C.length*grp T) (fw T u (T.C.length*grp T))) : ∃ s,Tru T u s:=by
 have hfin:=fin_ok h
 have heq:=fun (x y : Nat) (hx : x<T.C.length) (hy : y<grp T)=>va0_some (fin_eq h hx hy)
 refine (onto_tru (u:=u) (f:=fw T u (T.C.length*grp T)) hv ⟨fun c hc=>⟨_,hfin.b c hc⟩,fun x y hx hy n hn=>fin_onto hv hfin hx hy hn⟩ (fun y hy n hn=>?_) (fun x y hx hy=>?_) (fun c hc=>va0_some (hfin.b c hc)) (fun x y hx hy n hn=>?_)).imp fun s hs=>hs.1
 ·have hK : 0<T.C.length:=by have:=hv.2.1;omega
  have:=heq 0 y hK hy
  rw[show ((0 : Nat) : Int)=0 from rfl] at this
  rw[this] at hn
  unfold com cra car isIn at hn
  simp only[Int.natCast_zero,if_true] at hn
  omega
 ·obtain⟨v,a1,a2,a3,_⟩:=hfin.c x y hx hy
  rw[va0_some a1]
  exact a3
 ·rw[heq x y hx hy] at hn
  unfold com isIn at hn
  unfold isIn
  simp only at hn
  omega
end Go.Xe.TFX
