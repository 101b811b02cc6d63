/- Sizes that a truth has: the bounds of a cell are its sizes in all truths. Conditions: none. -/
import Derived.Test.YtbbdafmehaohkaaTJB
import Derived.Test.YtbbdafmehaohkaaWa
import Derived.Test.YtbbdafmehaohkaaZu
import Derived.Test.YtbbdafmehaohkaaTHP
-- MOD TF
namespace Go.Xe.TFX
open Go Go.Xe Go.Proofs
open Nat renaming reduceLeDiff → qA, reduceSub → qB, reduceAdd → qC, reduceEqDiff → qD, reduceLT → qE
open Int renaming reduceNegSucc → qF, reduceEq → qG
open Go.Xe.V renaming seq → sA, block → sB, scope → sC, skip → sD, close → sE
open Go.Xe renaming pth → P
open Go.Xe.Flw
set_option maxRecDepth 100000
set_option maxHeartbeats 3200000
set_option linter.unusedSimpArgs false
theorem bk_at {T : Tb} {f0 : Sf} {k : Nat} {z : Int×Int} : ∀ {j : Nat},k≤j→(∀ q,k≤q→q<j→z∉src (((T.C.length*grp T-1-q)/grp T : Nat) : Int) (((T.C.length*grp T-1-q)%grp T : Nat) : Int) (grp T))→bk T f0 j z=bk T f0 k z
 | 0,hk,_=>by rw[show k=0 by omega]
 | j+1,hk,hz=>by
  by_cases h : k=j+1
  ·rw[h]
  ·show bst T _ (bk T f0 j) z=_
   unfold bst
   rw[fold_same (hz j (by omega) (by omega))]
   exact bk_at (by omega) (fun q h1 h2=>hz q h1 (by omega))
theorem src_cen {x y : Int} {G : Nat} {s : Int×Int} (hs : s∈src x y G) : s.1=x-1:=by
 unfold src at hs
 split at hs
 ·simp at hs
 ·split at hs
  ·rcases List.mem_cons.1 hs with rfl|hs
   ·rfl
   ·rw[List.mem_singleton.1 hs]
  ·rw[List.mem_singleton.1 hs]
theorem link {T : Tb} {f0 : Sf} (hv : val T) (hfin : Fin T f0) {x y : Nat} (hx : x+1<T.C.length) (hy : y<grp T) {s0 : Int×Int} (hs : s0∈src ((x+1 : Nat) : Int) y (grp T)) {a : Int} (ha : isIn a (va0 (bk T f0 (T.C.length*grp T)) s0)) :
  ∃ (m : Int) (t : Int×Int→Int),isIn m (va0 (bk T f0 (T.C.length*grp T)) (((x+1 : Nat) : Int),(y : Int)))∧t s0=a∧(∀ s∈src ((x+1 : Nat) : Int) y (grp T),isIn (t s) (va0 f0 s))∧isIn m (cra T (pt t) (x+1) y):=by
 have hG : 0<grp T:=by have:=hv.1;omega
 have hlt:=cel_lt hx hy
 obtain⟨n,hn⟩ : ∃ n,n=(x+1)*grp T+y:=⟨_,rfl⟩
 have hq0 : ((x+1)*grp T+y)/grp T=x+1:=by rw[Nat.mul_comm,Nat.mul_add_div hG,Nat.div_eq_of_lt hy,Nat.add_zero]
 have hr0 : ((x+1)*grp T+y)%grp T=y:=by rw[Nat.mul_comm,Nat.mul_add_mod,Nat.mod_eq_of_lt hy]
 rw[← hn] at hlt hq0 hr0
 obtain⟨k,hk⟩ : ∃ k,k=T.C.length*grp T-1-n:=⟨_,rfl⟩
 have hkn : T.C.length*grp T-1-k=n:=by omega
 have hbk:=bk_ok hv hfin (k:=k) (by omega)
 rw[show T.C.length*grp T-k=n+1 by omega] at hbk
 obtain⟨v,hm,hv0,hvb,hsame⟩:=hfin.met hv hbk hx hy hn.symm
 have hyN : y<T.N.length:=by have:=hv.2.2.2.1;omega
 have hN : (T.N.getD y (0,0)).1≤(T.N.getD y (0,0)).2:=by
  rw[gd hyN]
  exact (hv.2.2.2.2.2.2.2 _ (List.getElem_mem hyN)).2.1
 have idx : ∀ q,q<T.C.length*grp T→∀ z,z∈src (((T.C.length*grp T-1-q)/grp T : Nat) : Int) (((T.C.length*grp T-1-q)%grp T : Nat) : Int) (grp T)→z.1=(((T.C.length*grp T-1-q)/grp T : Nat) : Int)-1:=fun q _ z hz=>src_cen hz
 have ec : bk T f0 (T.C.length*grp T) (((x+1 : Nat) : Int),(y : Int))=some v:=by
  rw[bk_at (k:=k) (by omega) (fun q h1 h2 hz=>?_)]
  ·exact hm.at_
  ·have h3:=idx q h2 _ hz
   have h4 : (T.C.length*grp T-1-q)/grp T≤n/grp T:=Nat.div_le_div_right (by omega)
   rw[hq0] at h4
   simp only at h3
   omega
 have es : bk T f0 (T.C.length*grp T) s0=bk T f0 (k+1) s0:=by
  refine bk_at (by omega) (fun q h1 h2 hz=>?_)
  obtain⟨h3,h4⟩:=src_inj hs hz hy (Nat.mod_lt _ hG)
  have h5:=Nat.div_add_mod (T.C.length*grp T-1-q) (grp T)
  rw[← h3,← h4,Nat.mul_comm] at h5
  omega
 have e1 : bk T f0 (k+1)=bst T (x+1,y) (bk T f0 k):=by
  show bst T ((T.C.length*grp T-1-k)/grp T,(T.C.length*grp T-1-k)%grp T) (bk T f0 k)=_
  rw[hkn,hq0,hr0]
 replace ha : isIn a (va0 (bst T (x+1,y) (bk T f0 k)) s0):=by
  unfold va0 at ha ⊢
  rw[es,e1] at ha
  exact ha
 rw[va0_some ec]
 clear es e1 ec
 generalize bk T f0 k=f at *
 have hnd : (src ((x+1 : Nat) : Int) (y : Int) (grp T)).Nodup:=src_nd
 obtain⟨l1,l2,hl⟩:=List.append_of_mem hs
 rw[hl] at hnd
 have hn1 : s0∉l1:=fun h=>(List.nodup_append.1 hnd).2.2 s0 h s0 (List.mem_cons_self ..) rfl
 have hn2 : s0∉l2:=(List.nodup_cons.1 (List.nodup_append.1 hnd).2.1).1
 obtain⟨hB,hM⟩:=Bk.fold (n:=n) (x:=x+1) (y:=y) (f0:=f0) (v:=v) (l:=l1) hN hy (by omega) (hbk.mono (by omega)) hm (List.nodup_append.1 hnd).1 (fun s h=>⟨by rw[hl];exact List.mem_append_left _ h,hsame s (by rw[hl];exact List.mem_append_left _ h)⟩)
 have eg : (l1.foldl (nst T (x+1,y)) f) s0=f0 s0:=by rw[fold_same hn1];exact hsame s0 hs
 have eb : va0 (bst T (x+1,y) f) s0=va0 (nst T (x+1,y) (l1.foldl (nst T (x+1,y)) f) s0) s0:=by
  unfold bst va0
  simp only[hl]
  rw[List.foldl_append,List.foldl_cons,fold_same hn2]
 rw[eb] at ha
 generalize l1.foldl (nst T (x+1,y)) f=g at *
 obtain⟨z,hz,hnar,e,_⟩:=hM.step hN hs
 have hrest:=hM.rest hN hs
 obtain⟨hqr,z',hz',z0,z1⟩:=hM.src s0 hs
 have ez : z'=z:=by rw[hz] at hz';exact (Option.some.inj hz').symm
 rw[ez] at z0 z1
 rw[va0_some hz] at hrest
 rw[e] at ha
 generalize nar (rtt T s0.2) z (sub2 (cra T g (x+1) y) (sv (rtt T s0.2) z)) v=w at *
 have ea : va0 (pu g s0 w) s0=w:=by unfold va0 pu;rw[if_pos rfl];rfl
 rw[ea] at ha
 have k1:=hnar.need
 have k2:=hnar.allow
 have k3:=hnar.lo
 have m1:=mst_mono hqr ha.1
 have m2:=few_mono hqr ha.2
 have m3:=few_mst hqr (n:=a) (by have:=ha.1;omega)
 simp only[sub2,sv] at k1 k2
 have hne:=hM.ne
 obtain⟨c1,c2⟩:=cra_put (f:=g) hs (a,a)
 rw[va0_some hz] at c1 c2
 simp only at c1 c2
 obtain⟨t,t1,t2⟩:=ex_src (T:=T) (f:=pu g s0 (a,a)) (x:=x+1) (y:=y) (n:=max v.1 (few (rtt T s0.2) a+((cra T g (x+1) y).1-few (rtt T s0.2) z.1))) (by omega) hN (fun s h=>by
  obtain⟨q1,v1,q2,q3,q4⟩:=hM.src s h
  refine⟨q1,?_⟩
  unfold pu
  by_cases hss : s=s0
  ·rw[if_pos hss]
   exact⟨_,rfl,by have:=ha.1;simp only;omega,by simp only;omega⟩
  ·rw[if_neg hss]
   exact⟨v1,q2,q3,q4⟩) (by unfold isIn;omega)
 refine⟨_,t,⟨by omega,by omega⟩,?_,fun s h=>?_,t2⟩
 ·have:=t1 s0 hs
  have e3 : va0 (pu g s0 (a,a)) s0=(a,a):=by unfold va0 pu;rw[if_pos rfl];rfl
  rw[e3] at this
  unfold isIn at this
  simp only at this
  omega
 ·have h3:=t1 s h
  by_cases hss : s=s0
  ·subst hss
   have e3 : va0 (pu g s (a,a)) s=(a,a):=by unfold va0 pu;rw[if_pos rfl];rfl
   rw[e3] at h3
   rw[va0_some (eg.symm.trans hz)]
   have k4:=hnar.hi
   unfold isIn at h3 ha ⊢
   simp only at h3
   omega
  ·have e3 : va0 (pu g s0 (a,a)) s=va0 g s:=by unfold va0 pu;rw[if_neg hss]
   rw[e3] at h3
   obtain⟨_,k',q2,q3⟩:=src_at hv hx hy h
   have h0 : ∃ v0,f0 s=some v0∧v0.1≤v0.2:=by
    rcases q3 with⟨rfl,q4,_⟩|⟨g',rfl,q4,_⟩
    ·obtain⟨w1,w2,_⟩:=hv.2.2.2.2.2.1 _ (List.getElem_mem q4)
     exact⟨_,hfin.b k' q4,w2⟩
    ·obtain⟨w',w1,w2,w3,_⟩:=hfin.c k' g' (by omega) q4
     exact⟨w',w1,w3⟩
   obtain⟨v0,p1,p2⟩:=h0
   obtain⟨v1,p3,p4,p5,p6⟩:=hB.sub s v0 p1 p2
   rw[va0_some p3] at h3
   rw[va0_some p1]
   unfold isIn at h3 ⊢
   omega
theorem ok_fw {T : Tb} {u : Nat→Bool} (hf : fit T) (hv : val T) (h : ok T u) : ∀ {k : Nat},k≤T.C.length*grp T→Fw T k (fw T u k)
 | 0,_=>Fw.zero T u
 | k+1,hk=>(ok_fw hf hv h (k:=k) (by omega)).step hf hv (by omega) (h k (by omega))
theorem ok_tru {T : Tb} {u : Nat→Bool} (hf : fit T) (hv : val T) (h : ok T u) : ∃ s,Tru T u s:=fw_tru hv (ok_fw hf hv h (Nat.le_refl _))
def bnd (T : Tb) (u : Nat→Bool) : Sf:=bk T (fw T u (T.C.length*grp T)) (T.C.length*grp T)
def wy (T : Tb) (x0 y0 x : Nat) : Nat:=min (y0+(x-x0)) (grp T-1)
theorem wy_src {T : Tb} {x0 y0 x : Nat} (hG : 2≤grp T) (h : x0≤x) : ((x : Int),(wy T x0 y0 x : Int))∈src ((x+1 : Nat) : Int) (wy T x0 y0 (x+1) : Int) (grp T):=by
 unfold wy
 unfold src
 rw[if_neg (by omega)]
 by_cases hl : grp T-1≤y0+(x-x0)
 ·rw[if_pos (by omega)]
  refine List.mem_cons_of_mem _ (List.mem_singleton.2 ?_)
  rw[Prod.mk.injEq];omega
 ·have e1 : (((x+1 : Nat) : Int)-1,((min (y0+(x+1-x0)) (grp T-1) : Nat) : Int)-1)=((x : Int),((min (y0+(x-x0)) (grp T-1) : Nat) : Int)):=by rw[Prod.mk.injEq];omega
  split
  ·rw[e1];exact List.mem_cons_self ..
  ·rw[e1];exact List.mem_cons_self ..
theorem way {T : Tb} {f0 : Sf} (hv : val T) (hfin : Fin T f0) {x0 y0 : Nat} (hy : y0<grp T) {n : Int} (hn : isIn n (va0 (bk T f0 (T.C.length*grp T)) ((x0 : Int),(y0 : Int)))) : ∀ d,x0+d<T.C.length →
  ∃ p : Nat→Int,p x0=n∧(∀ x,x0≤x→x≤x0+d→isIn (p x) (va0 (bk T f0 (T.C.length*grp T)) ((x : Int),(wy T x0 y0 x : Int))))∧∀ x,x0≤x→x<x0+d→∃ t : Int×Int→Int,t ((x : Int),(wy T x0 y0 x : Int))=p x∧(∀ s∈src ((x+1 : Nat) : Int) (wy T x0 y0 (x+1) : Int) (grp T),isIn (t s) (va0 f0 s))∧isIn (p (x+1)) (cra T (pt t) (x+1) (wy T x0 y0 (x+1)))
 | 0,_=>by
  refine⟨fun _=>n,rfl,fun x h1 h2=>?_,fun x h1 h2=>by omega⟩
  obtain rfl : x=x0:=by omega
  have e : wy T x y0 x=y0:=by unfold wy;omega
  rw[e]
  exact hn
 | d+1,hd=>by
  obtain⟨p,p1,p2,p3⟩:=way hv hfin hy hn d (by omega)
  have hG:=hv.1
  have hw : wy T x0 y0 (x0+d+1)<grp T:=by unfold wy;omega
  obtain⟨m,t,m1,t1,t2,t3⟩:=link hv hfin (x:=x0+d) (by omega) hw (wy_src hG (by omega)) (p2 (x0+d) (by omega) (by omega))
  refine⟨fun x=>if x=x0+d+1 then m else p x,by simp only;rw[if_neg (by omega)];exact p1,fun x h1 h2=>?_,fun x h1 h2=>?_⟩
  ·by_cases hx : x=x0+d+1
   ·subst hx
    simp only[if_true]
    exact m1
   ·simp only[if_neg hx]
    exact p2 x h1 (by omega)
  ·by_cases hx : x=x0+d
   ·subst hx
    refine⟨t,?_,t2,?_⟩
    ·simp only
     rw[if_neg (by omega)]
     exact t1
    ·simp only[if_true]
     exact t3
   ·obtain⟨t',q1,q2,q3⟩:=p3 x h1 (by omega)
    refine⟨t',?_,q2,?_⟩
    ·simp only
     rw[if_neg (by omega)]
     exact q1
    ·simp only
     rw[if_neg (by omega)]
     exact q3
open Classical in
noncomputable def onw (T : Tb) (f0 : Sf) (x0 y0 : Nat) (p : Nat→Int) : Sf:=fun z=>if ∃ x : Nat,x0≤x∧x<T.C.length∧z=((x : Int),(wy T x0 y0 x : Int)) then some (p z.1.toNat,p z.1.toNat) else f0 z
theorem onw_on {T : Tb} {f0 : Sf} {x0 y0 : Nat} {p : Nat→Int} {x : Nat} (h1 : x0≤x) (h2 : x<T.C.length) : onw T f0 x0 y0 p ((x : Int),(wy T x0 y0 x : Int))=some (p x,p x):=by
 unfold onw
 rw[if_pos ⟨x,h1,h2,rfl⟩]
 simp only[Int.toNat_natCast]
theorem onw_off {T : Tb} {f0 : Sf} {x0 y0 : Nat} {p : Nat→Int} {z : Int×Int} (h : ∀ x : Nat,x0≤x→x<T.C.length→z≠((x : Int),(wy T x0 y0 x : Int))) : onw T f0 x0 y0 p z=f0 z:=by
 unfold onw
 rw[if_neg]
 rintro⟨x,h1,h2,h3⟩
 exact h x h1 h2 h3
theorem bnd_tru {T : Tb} {u : Nat→Bool} (hf : fit T) (hv : val T) (h : ok T u) {x0 y0 : Nat} (hx0 : x0<T.C.length) (hy0 : y0<grp T) {n : Int} (hn : isIn n (va0 (bnd T u) ((x0 : Int),(y0 : Int)))) : ∃ s,Tru T u s∧s ((x0 : Int),(y0 : Int))=n:=by
 have hfw:=ok_fw hf hv h (Nat.le_refl _)
 have hfin:=fin_ok hfw
 have heq:=fun (x y : Nat) (hx : x<T.C.length) (hy : y<grp T)=>va0_some (fin_eq hfw hx hy)
 have hbk:=bk_ok hv hfin (Nat.le_refl (T.C.length*grp T))
 unfold bnd at hn
 have hG:=hv.1
 generalize fw T u (T.C.length*grp T)=f0 at *
 obtain⟨p,p1,p2,p3⟩:=way hv hfin hy0 hn (T.C.length-1-x0) (by omega)
 have hwl : ∀ x,wy T x0 y0 x<grp T:=fun x=>by unfold wy;omega
 have hw0 : wy T x0 y0 x0=y0:=by unfold wy;omega
 have hsub : ∀ x y : Nat,x<T.C.length→y<grp T→∀ m,isIn m (va0 (onw T f0 x0 y0 p) ((x : Int),(y : Int)))→isIn m (va0 f0 ((x : Int),(y : Int))):=by
  intro x y hx hy m hm
  by_cases hp : x0≤x∧y=wy T x0 y0 x
  ·obtain⟨h1,rfl⟩:=hp
   rw[va0_some (onw_on h1 hx)] at hm
   have h2:=p2 x h1 (by omega)
   obtain⟨v,a1,a2,a3,_⟩:=hfin.c x _ hx hy
   obtain⟨v',b1,b2,b3,b4⟩:=hbk.sub _ v a1 a3
   rw[va0_some b1] at h2
   rw[va0_some a1]
   unfold isIn at hm h2 ⊢
   simp only at hm
   omega
  ·have e : va0 (onw T f0 x0 y0 p) ((x : Int),(y : Int))=va0 f0 ((x : Int),(y : Int)):=by
    unfold va0
    rw[onw_off (fun x' q1 q2 hh=>hp ?_)]
    rw[Prod.mk.injEq] at hh
    have : x'=x:=by omega
    subst this
    exact⟨q1,by omega⟩
   rw[e] at hm
   exact hm
 have honto : Onto T (onw T f0 x0 y0 p):=by
  refine⟨fun c hc=>⟨_,(onw_off (fun x q1 q2 hh=>?_)).trans (hfin.b c hc)⟩,fun x y hx hy m hm=>?_⟩
  ·rw[Prod.mk.injEq] at hh
   omega
  ·by_cases hp : x0≤x∧y=wy T x0 y0 (x+1)
   ·obtain⟨h1,rfl⟩:=hp
    rw[va0_some (onw_on (by omega) hx)] at hm
    obtain⟨t,t1,t2,t3⟩:=p3 x h1 (by omega)
    have em : m=p (x+1):=by unfold isIn at hm;simp only at hm;omega
    subst em
    refine⟨t,fun s hs=>?_,t3⟩
    by_cases hss : s=((x : Int),(wy T x0 y0 x : Int))
    ·subst hss
     rw[va0_some (onw_on h1 (by omega)),t1]
     exact⟨Int.le_refl _,Int.le_refl _⟩
    ·have e : va0 (onw T f0 x0 y0 p) s=va0 f0 s:=by
      unfold va0
      rw[onw_off (fun x' q1 q2 hh=>hss ?_)]
      have h3:=src_cen hs
      rw[hh] at h3 ⊢
      simp only at h3
      have : x'=x:=by omega
      rw[this]
     rw[e]
     exact t2 s hs
   ·obtain⟨t,t1,t2⟩:=fin_onto hv hfin hx hy (hsub _ _ hx hy m hm)
    refine⟨t,fun s hs=>?_,t2⟩
    have e : va0 (onw T f0 x0 y0 p) s=va0 f0 s:=by
     unfold va0
     rw[onw_off (fun x' q1 q2 hh=>hp ?_)]
     have h3:=src_cen hs
     rw[hh] at h3
     simp only at h3
     have : x'=x:=by omega
     subst this
     have h4:=wy_src (T:=T) (y0:=y0) hG q1
     rw[← hh] at h4
     exact⟨q1,(src_inj hs h4 hy (hwl _)).2⟩
    rw[e]
    exact t1 s hs
 refine Exists.elim (onto_tru (u:=u) hv honto (fun y hy m hm=>?_) (fun x y hx hy=>?_) (fun c hc=>?_) (fun x y hx hy m hm=>?_)) (fun s hs=>?_)
 ·have hK : 0<T.C.length:=by omega
  have h1:=hsub 0 y hK hy m hm
  rw[heq 0 y hK hy] at h1
  unfold com cra car isIn at h1
  simp only[Int.natCast_zero,if_true] at h1
  omega
 ·by_cases hp : x0≤x∧y=wy T x0 y0 x
  ·obtain⟨h1,rfl⟩:=hp
   rw[va0_some (onw_on h1 hx)]
   exact Int.le_refl _
  ·have e : va0 (onw T f0 x0 y0 p) ((x : Int),(y : Int))=va0 f0 ((x : Int),(y : Int)):=by
    unfold va0
    rw[onw_off (fun x' q1 q2 hh=>hp ?_)]
    rw[Prod.mk.injEq] at hh
    have : x'=x:=by omega
    subst this
    exact⟨q1,by omega⟩
   obtain⟨v,a1,a2,a3,_⟩:=hfin.c x y hx hy
   rw[e,va0_some a1]
   exact a3
 ·have e : va0 (onw T f0 x0 y0 p) ((c : Int),-1)=va0 f0 ((c : Int),-1):=by
   unfold va0
   rw[onw_off (fun x q1 q2 hh=>?_)]
   rw[Prod.mk.injEq] at hh
   omega
  rw[e,va0_some (hfin.b c hc)]
 ·have h1:=hsub x y hx hy m hm
  rw[heq x y hx hy] at h1
  unfold com isIn at h1
  unfold isIn
  simp only at h1
  omega
 ·obtain⟨s1,s2⟩:=hs
  refine⟨s,s1,?_⟩
  have h1:=s2 x0 y0 hx0 hy0
  have e:=onw_on (T:=T) (f0:=f0) (y0:=y0) (p:=p) (Nat.le_refl x0) hx0
  rw[hw0] at e
  rw[va0_some e,p1] at h1
  unfold isIn at h1
  simp only at h1
  omega
theorem bnd_iff {T : Tb} {u : Nat→Bool} (hf : fit T) (hv : val T) (h : ok T u) {x y : Nat} (hx : x<T.C.length) (hy : y<grp T) : ∃ v,bnd T u ((x : Int),(y : Int))=some v∧0≤v.1∧v.1≤v.2∧v.2≤bd x∧∀ n,isIn n v↔∃ s,Tru T u s∧s ((x : Int),(y : Int))=n:=by
 have hfin:=fin_ok (ok_fw hf hv h (Nat.le_refl _))
 have hbk:=bk_ok hv hfin (Nat.le_refl (T.C.length*grp T))
 obtain⟨v0,a1,a2,a3,a4,_⟩:=hfin.c x y hx hy
 obtain⟨v,b1,b2,b3,b4⟩:=hbk.sub _ v0 a1 a3
 refine⟨v,b1,by omega,b3,by omega,fun n=>⟨fun hn=>bnd_tru hf hv h hx hy (by rw[va0_some (show bnd T u _=_ from b1)];exact hn),?_⟩⟩
 rintro⟨s,hs,rfl⟩
 exact tru_bk hv hfin (tru_fw hf hv hs (Nat.le_refl _)).2.1 hs.car (Nat.le_refl _) _ _ b1
end Go.Xe.TFX
/- Rules of reasoning over the executable reading of the model's code (part Z25): blocks of own memory by colors; slices of slices whose rows change. Conditions: none; for every program. -/
namespace Go.Xe
open Go
def Oc (n0 : Nat) (col : Nat→Nat) (c : Nat) (H : Heap) (e : TypeId) (v : Value) (n : Nat) (cs : List Value) : Prop:=(v=.slice none 0 0∧n=0∧cs=[])∨∃ i,n0≤i∧i<H.next∧col i=c∧v=.slice (some ⟨i,0,none⟩) n n∧H.cellsAt i=some (⟨cs⟩,e,true)
def St (n0 : Nat) (C : Nat→Prop) (col : Nat→Nat) (H : Heap) (col' : Nat→Nat) (H' : Heap) : Prop:=H.next≤H'.next∧(∀ i,i<H.next→col' i=col i)∧∀ i,i<H.next→i<n0∨¬ C (col i)→H'.get i=H.get i
def pnt (col : Nat→Nat) (i c : Nat) : Nat→Nat:=fun j=>if j=i then c else col j
section
variable {n0 : Nat} {C D : Nat→Prop} {col col' col'' : Nat→Nat} {A B H H' H'' : Heap} {c : Nat} {e : TypeId} {v : Value} {n : Nat} {cs : List Value}
theorem St.refl (n0 : Nat) (C : Nat→Prop) (col : Nat→Nat) (H : Heap) : St n0 C col H col H:=⟨Nat.le_refl _,fun _ _=>rfl,fun _ _ _=>rfl⟩
theorem St.trans (h : St n0 C col H col' H') (k : St n0 C col' H' col'' H'') : St n0 C col H col'' H'':=
 ⟨Nat.le_trans h.1 k.1,fun i hi=>(k.2.1 i (Nat.lt_of_lt_of_le hi h.1)).trans (h.2.1 i hi),fun i hi hc=>(k.2.2 i (Nat.lt_of_lt_of_le hi h.1) (hc.imp id (fun x y=>x (by rw[← h.2.1 i hi];exact y)))).trans (h.2.2 i hi hc)⟩
theorem St.mono (h : St n0 C col H col' H') (k : ∀ c,C c→D c) : St n0 D col H col' H':=⟨h.1,h.2.1,fun i hi hc=>h.2.2 i hi (hc.imp id (fun x y=>x (k _ y)))⟩
theorem St.grow (g : Grow H H') : St n0 C col H col H':=⟨g.1,fun _ _=>rfl,fun i hi _=>g.2 i hi⟩
theorem St.keep (h : St n0 C col H col' H') (hn : n0≤H.next) : Keep n0 H H':=⟨h.1,fun j hj=>h.2.2 j (by omega) (.inl hj)⟩
theorem St.bx {i : Nat} {cs : List Value} (h : St n0 C col H col' H') (b : Bx H i cs e) (hi : i<n0) : Bx H' i cs e:=by
 refine⟨Nat.lt_of_lt_of_le b.1 h.1,?_⟩
 have:=b.2
 unfold Heap.cellsAt at this ⊢
 rw[h.2.2 i b.1 (.inl hi)];exact this
theorem Oc.put (h : Oc n0 col c H e v n cs) {i : Nat} (hi : i<n0) (o : AO) : Oc n0 col c (H.set i o) e v n cs:=by
 rcases h with h|⟨j,h1,h2,h3,h4,h5⟩
 ·exact .inl h
 ·exact .inr ⟨j,h1,h2,h3,h4,(cells_set_ne H o (by omega)).trans h5⟩
theorem Oc.nil : Oc n0 col c H e (.slice none 0 0) 0 []:=.inl ⟨rfl,rfl,rfl⟩
theorem Oc.st (h : Oc n0 col c H e v n cs) (k : St n0 C col H col' H') (hc : ¬ C c) : Oc n0 col' c H' e v n cs:=by
 rcases h with h|⟨j,h1,h2,h3,h4,h5⟩
 ·exact .inl h
 ·refine .inr ⟨j,h1,Nat.lt_of_lt_of_le h2 k.1,(k.2.1 j h2).trans h3,h4,?_⟩
  unfold Heap.cellsAt at h5 ⊢
  rw[k.2.2 j h2 (.inr (by rw[h3];exact hc))];exact h5
theorem Oc.grow (h : Oc n0 col c H e v n cs) (g : Grow H H') : Oc n0 col c H' e v n cs:=h.st (C:=fun _=>False) (.grow g) id
theorem Oc.growS {U : Nat→Prop} (h : Oc n0 col c H e v n cs) (g : GrowS U H H') (hU : ∀ i,n0≤i→¬ U i) : Oc n0 col c H' e v n cs:=by
 rcases h with h|⟨j,h1,h2,h3,h4,h5⟩
 ·exact .inl h
 ·exact .inr ⟨j,h1,Nat.lt_of_lt_of_le h2 g.1,h3,h4,by rw[g.cells h2 (hU j h1)];exact h5⟩
theorem Oc.slice (h : Oc n0 col c H e v n cs) : ∃ p m k,v=.slice p m k:=by
 rcases h with⟨rfl,_⟩|⟨j,_,_,_,rfl,_⟩
 ·exact⟨_,_,_,rfl⟩
 ·exact⟨_,_,_,rfl⟩
theorem Oc.len (h : Oc n0 col c H e v n cs) (X : Heap) : ylen 0 X v=some (.int .i64 n):=by
 rcases h with⟨rfl,rfl,_⟩|⟨j,_,_,_,rfl,_⟩<;>rfl
theorem Oc.loc (h : Oc n0 col c A e v n cs) (hn : A.next≤B.next) (k : ∀ i,n0≤i→i<A.next→B.get i=A.get i) : Oc n0 col c B e v n cs:=by
 rcases h with h|⟨j,h1,h2,h3,h4,h5⟩
 ·exact .inl h
 ·refine .inr ⟨j,h1,Nat.lt_of_lt_of_le h2 hn,h3,h4,?_⟩
  unfold Heap.cellsAt at h5 ⊢
  rw[k j h1 h2];exact h5
theorem Oc.w {w : Nat} {H0 : Heap} {l : List (List Value)} (h : Oc n0 col c H e v l.length l.flatten) (hn : H0.next≤n0) : OwW w H0 H e v l:=by
 rcases h with⟨h1,h2,_⟩|⟨j,h1,h2,h3,h4,h5⟩
 ·exact .inl ⟨h1,List.length_eq_zero_iff.1 h2⟩
 ·exact .inr ⟨j,by omega,h2,h4,h5⟩
theorem Oc.o {H0 : Heap} (h : Oc n0 col c H e v cs.length cs) (hn : H0.next≤n0) : Ow H0 H e v cs:=by
 rcases h with⟨h1,h2,h3⟩|⟨j,h1,h2,h3,h4,h5⟩
 ·exact .inl ⟨h1,h3⟩
 ·exact .inr ⟨j,by omega,h2,h4,h5⟩
theorem pnt_at (i c : Nat) : pnt col i c i=c:=by unfold pnt;rw[if_pos rfl]
theorem pnt_ne {i j c : Nat} (h : j≠i) : pnt col i c j=col j:=by unfold pnt;rw[if_neg h]
theorem Oc.push {w bytes : Nat} {x : List Value} (hw : 0<w) (hs : Oc n0 col c H e v n cs) (hn0 : n0≤H.next) (hcs : cs.length=n*w) (hx : x.length=w) (hok : x.all ok1=true) (hb : (2*(n+1)+256)*bytes≤281474976710656) (h2 : n+1≤281474976710656) :
  ∃ u H',yappend e w bytes (H.alloc (.cells ⟨x⟩ e true)) v (.slice (some ⟨H.next,0,none⟩) 1 1)=some (u,H')∧Oc n0 (pnt col (H.next+1) c) c H' e u (n+1) (cs++x)∧St n0 (·=c) col H (pnt col (H.next+1) c) H'∧Keep n0 H H'∧H.next+1≤H'.next∧H'.cellsAt H.next=some (⟨x⟩,e,true)∧∃ p,u=.slice (some ⟨p,0,none⟩) (n+1) (n+1)∧p=H.next+1:=by
 have hcell : (H.alloc (.cells ⟨x⟩ e true)).cellsAt H.next=some (⟨x⟩,e,true):=cells_alloc _ _ _ _
 have e48 : (2 : Nat) ^ 48=281474976710656:=by decide
 have hsrc : xsource (H.alloc (.cells ⟨x⟩ e true)) w 1 (some ⟨H.next,0,none⟩)=some ⟨x⟩:=by
  have hsw : Sw w (H.alloc (.cells ⟨x⟩ e true)) (.slice (some ⟨H.next,0,none⟩) 1 1) [x]:=Sw.one ⟨Nat.lt_succ_self _,hcell⟩ hx
  have:=(hsw.source (by omega) hw (by simpa using hx)).1
  simpa using this
 have hcond : ((⟨x⟩ : Array Value).toList.all fun y=>y.oneCell' && notTop y)=true:=hok
 rcases hs with⟨rfl,rfl,rfl⟩|⟨i,i1,i2,i3,rfl,i4⟩
 ·refine⟨.slice (some ⟨H.next+1,0,none⟩) 1 1,(H.alloc (.cells ⟨x⟩ e true)).alloc (.cells ⟨x⟩ e true),?_,?_,?_,?_,Nat.le_succ _,?_,H.next+1,rfl,rfl⟩
  ·simp only[yappend]
   rw[if_neg (by omega),hsrc]
   simp only[]
   rw[e48,if_pos ⟨hcond,by simp;omega,by simp⟩]
   simp
  ·refine .inr ⟨H.next+1,by omega,Nat.lt_succ_self _,pnt_at _ _,rfl,?_⟩
   rw[List.nil_append]
   exact cells_alloc _ _ _ _
  ·refine⟨by simp only[Heap.next_alloc];omega,fun j hj=>pnt_ne (by omega),fun j hj _=>?_⟩
   rw[Heap.get_alloc,if_neg (by simp only[Heap.next_alloc];omega),Heap.get_alloc,if_neg (by omega)]
  ·refine⟨by simp only[Heap.next_alloc];omega,fun j hj=>?_⟩
   rw[Heap.get_alloc,if_neg (by simp only[Heap.next_alloc];omega),Heap.get_alloc,if_neg (by omega)]
  ·rw[cells_alloc_ne _ _ (Nat.lt_succ_self _)]
   exact hcell
 ·have hi4 : (H.alloc (.cells ⟨x⟩ e true)).cellsAt i=some (⟨cs⟩,e,true):=(cells_alloc_ne _ _ i2).trans i4
  refine⟨.slice (some ⟨H.next+1,0,none⟩) (n+1) (n+1),((H.alloc (.cells ⟨x⟩ e true)).set i .dead).alloc (.cells ⟨cs++x⟩ e true),?_,?_,?_,?_,by simp only[Heap.next_alloc,Heap.next_set];omega,?_,H.next+1,rfl,rfl⟩
  ·simp only[yappend]
   rw[if_neg (by omega),hsrc]
   simp only[]
   rw[e48,if_pos ⟨hcond,hb,h2⟩]
   simp only[hi4]
   have hsz : (⟨cs⟩ : Array Value).size=n*w:=hcs
   rw[if_pos ⟨trivial,by rw[hsz];omega,by rw[hsz];omega,by omega⟩,if_neg (by omega)]
   have hxx : (⟨cs⟩ : Array Value).extract 0 (0+n*w)++(⟨x⟩ : Array Value)=⟨cs++x⟩:=by
    apply Array.toList_inj.1
    rw[Nat.zero_add,← hcs]
    simp only[Array.toList_append,List.extract_toArray,List.extract_eq_take_drop,List.drop_zero,Nat.sub_zero,List.take_length]
   rw[hxx]
   simp
  ·refine .inr ⟨H.next+1,by omega,by simp only[Heap.next_alloc,Heap.next_set];omega,pnt_at _ _,rfl,?_⟩
   have:=cells_alloc ((H.alloc (.cells ⟨x⟩ e true)).set i .dead) ⟨cs++x⟩ e true
   simpa only[Heap.next_set,Heap.next_alloc] using this
  ·refine⟨by simp only[Heap.next_alloc,Heap.next_set];omega,fun j hj=>pnt_ne (by omega),fun j hj hc=>?_⟩
   have hji : j≠i:=by
    rintro rfl
    rcases hc with hc|hc
    ·omega
    ·exact hc i3
   rw[Heap.get_alloc,if_neg (by simp only[Heap.next_set,Heap.next_alloc];omega),Heap.get_set,if_neg hji,Heap.get_alloc,if_neg (by omega)]
  ·refine⟨by simp only[Heap.next_alloc,Heap.next_set];omega,fun j hj=>?_⟩
   rw[Heap.get_alloc,if_neg (by simp only[Heap.next_set,Heap.next_alloc];omega),Heap.get_set,if_neg (by omega),Heap.get_alloc,if_neg (by omega)]
  ·rw[cells_alloc_ne _ _ (by simp only[Heap.next_set,Heap.next_alloc];omega),cells_set_ne _ _ (by omega)]
   exact hcell
def Rws (n0 : Nat) (col : Nat→Nat) (cr : Nat→Nat) (H : Heap) (e : TypeId) (vs : List Value) (L : List (Nat×List Value)) : Prop:=vs.length=L.length∧∀ k x r,vs[k]?=some x→L[k]?=some r→Oc n0 col (cr k) H e x r.1 r.2
variable {cr : Nat→Nat} {vs : List Value} {L : List (Nat×List Value)}
theorem Rws.st (h : Rws n0 col cr H e vs L) (k : St n0 C col H col' H') (hc : ∀ k,k<L.length→¬ C (cr k)) : Rws n0 col' cr H' e vs L:=
 ⟨h.1,fun j x r hx hr=>(h.2 j x r hx hr).st k (hc j (List.getElem?_eq_some_iff.1 hr).1)⟩
theorem Rws.grow (h : Rws n0 col cr H e vs L) (g : Grow H H') : Rws n0 col cr H' e vs L:=⟨h.1,fun j x r hx hr=>(h.2 j x r hx hr).grow g⟩
theorem Rws.growS {U : Nat→Prop} (h : Rws n0 col cr H e vs L) (g : GrowS U H H') (hU : ∀ i,n0≤i→¬ U i) : Rws n0 col cr H' e vs L:=⟨h.1,fun j x r hx hr=>(h.2 j x r hx hr).growS g hU⟩
theorem Rws.put (h : Rws n0 col cr H e vs L) {i : Nat} (hi : i<n0) (o : AO) : Rws n0 col cr (H.set i o) e vs L:=⟨h.1,fun j x r hx hr=>(h.2 j x r hx hr).put hi o⟩
theorem Rws.loc (h : Rws n0 col cr A e vs L) (hn : A.next≤B.next) (k : ∀ i,n0≤i→i<A.next→B.get i=A.get i) : Rws n0 col cr B e vs L:=⟨h.1,fun j x r hx hr=>(h.2 j x r hx hr).loc hn k⟩
theorem Rws.at (h : Rws n0 col cr H e vs L) {k : Nat} (hk : k<L.length) : ∃ x,vs[k]?=some x∧Oc n0 col (cr k) H e x L[k].1 L[k].2:=
 ⟨vs[k]'(by rw[h.1];exact hk),by simp[h.1,hk],h.2 k _ _ (by simp[h.1,hk]) (by simp[hk])⟩
theorem Rws.upd {k m : Nat} {u : Value} {cs' : List Value} (h : Rws n0 col cr H e vs L) (s : St n0 (·=cr k) col H col' H') (hi : ∀ j,j≠k→cr j≠cr k) (hu : Oc n0 col' (cr k) H' e u m cs') : Rws n0 col' cr H' e (vs.set k u) (L.set k (m,cs')):=by
 refine⟨by simp[h.1],fun j x r hx hr=>?_⟩
 by_cases hj : j=k
 ·subst hj
  have h1 : j<vs.length:=by
   have:=(List.getElem?_eq_some_iff.1 hx).1
   rwa [List.length_set] at this
  rw[List.getElem?_set_self h1] at hx
  rw[List.getElem?_set_self (by rw[← h.1];exact h1)] at hr
  rw[← Option.some.inj hx,← Option.some.inj hr]
  exact hu
 ·rw[List.getElem?_set_ne (Ne.symm hj)] at hx
  rw[List.getElem?_set_ne (Ne.symm hj)] at hr
  exact (h.2 j x r hx hr).st s (hi j hj)
theorem Rws.push {m : Nat} {u : Value} {cs' : List Value} (h : Rws n0 col cr H e vs L) (hu : Oc n0 col (cr L.length) H e u m cs') : Rws n0 col cr H e (vs++[u]) (L++[(m,cs')]):=by
 refine⟨by simp[h.1],fun j x r hx hr=>?_⟩
 by_cases hj : j<L.length
 ·rw[List.getElem?_append_left (by rw[h.1];exact hj)] at hx
  rw[List.getElem?_append_left hj] at hr
  exact h.2 j x r hx hr
 ·have hl : j=L.length:=by
   have:=(List.getElem?_eq_some_iff.1 hr).1
   simp at this;omega
  subst hl
  rw[List.getElem?_append_right (by rw[h.1];exact Nat.le_refl _),h.1,Nat.sub_self] at hx
  rw[List.getElem?_append_right (Nat.le_refl _),Nat.sub_self] at hr
  simp only[List.getElem?_cons_zero,Option.some.injEq] at hx hr
  subst hx;subst hr
  exact hu
theorem Oc.set1 {i : Nat} {x : Value} (h : Oc n0 col c H e v n cs) (hi : i<cs.length) : ∃ b,v=.slice (some ⟨b,0,none⟩) n n∧n0≤b∧b<H.next∧H.cellsAt b=some (⟨cs⟩,e,true)∧Oc n0 col c (H.set b (.cells ⟨cs.set i x⟩ e true)) e v n (cs.set i x)∧St n0 (·=c) col H col (H.set b (.cells ⟨cs.set i x⟩ e true)):=by
 rcases h with⟨_,_,rfl⟩|⟨b,h1,h2,h3,h4,h5⟩
 ·simp at hi
 ·refine⟨b,h4,h1,h2,h5,.inr ⟨b,h1,h2,h3,h4,cells_set _ _ _ _ _⟩,by simp only[Heap.next_set];omega,fun _ _=>rfl,fun j hj hc=>?_⟩
  rw[Heap.get_set,if_neg]
  rintro rfl
  rcases hc with hc|hc
  ·omega
  ·exact hc h3
theorem Rws.nest {α : Type} {R : Heap→Value→α→Prop} {s : Value} {N : List α} (f : α→Nat×List Value) (ho : Sl H s vs) (h : Rws n0 col cr H e vs (N.map f)) (hR : ∀ k x r,N[k]?=some r→Oc n0 col (cr k) H e x (f r).1 (f r).2→R H x r) : Nest R H s N:=by
 refine⟨vs,ho,by rw[h.1,List.length_map],fun k x r hx hr=>hR k x r hr (h.2 k x (f r) hx (by rw[List.getElem?_map,hr];rfl))⟩
end
def LocP (b : Nat) (X : Heap) (P : Heap→Prop) : Prop:=∀ Y,X.next≤Y.next→(∀ i,b≤i→i<X.next→Y.get i=X.get i)→P Y
theorem LocP.here {b : Nat} {X : Heap} {P : Heap→Prop} (h : LocP b X P) : P X:=h X (Nat.le_refl _) (fun _ _ _=>rfl)
theorem OwN.locP {α : Type} {R : Heap→Value→α→Prop} (hR : RP R) {H0 A : Heap} {e : TypeId} {s : Value} {L : List α} (h : OwN (From R H0.next) H0 A e s L) : LocP H0.next A (fun B=>Nest R B s L):=by
 obtain⟨vs,h1,h2,h3⟩:=h
 intro B hn k
 refine⟨vs,?_,h2,fun j x r hx hr=>?_⟩
 ·have : Ow H0 B e s vs:=by
   rcases h1 with h|⟨i,q1,q2,q3,q4⟩
   ·exact .inl h
   ·refine .inr ⟨i,q1,Nat.lt_of_lt_of_le q2 hn,q3,?_⟩
    unfold Heap.cellsAt at q4 ⊢
    rw[k i q1 q2];exact q4
  exact this.sl
 ·obtain⟨⟨q1,q2⟩,_⟩:=h3 j x r hx hr
  exact hR.loc q1 hn (fun i hi=>k i (q2 i hi) (hR.lt q1 hi))
end Go.Xe
/- What the functions of the layer flow come to: a table at work, read. Conditions: none. -/
-- MOD TF
namespace Go.Xe.TFX
open Go Go.Xe Go.Proofs
open Nat renaming reduceLeDiff → qA, reduceSub → qB, reduceAdd → qC, reduceEqDiff → qD, reduceLT → qE
open Int renaming reduceNegSucc → qF, reduceEq → qG
open Go.Xe.V renaming seq → sA, block → sB, scope → sC, skip → sD, close → sE
open Go.Xe renaming pth → P
open Go.Xe.Flw
set_option maxRecDepth 100000
set_option maxHeartbeats 3200000
set_option linter.unusedSimpArgs false
noncomputable def d72 : FCode:=(.seq (.run (.go (.box 38 (tm 0)) (P 1)::
.go (.alloc 135 [(.slice none 0 0),(.slice none 0 0),(.slice none 0 0),(.slice none 0 0),(.bool false),(.bool false),(.bool false),(.bool false),(.bool false),(.bool false),(.bool false),(.bool false),(.bool false),(.bool false),(.bool false),(.bool false),(.bool false),(.bool false),(.bool false),(.bool false),.nilFunc,.nilFunc]) (P 2)::
.go (.move (.con (.int .i64 (.ofNat 0)))) (P 3)::
[])) (.seq (.seq (.run (.go (.loadN 4 (tm 1)) (P 5)::
.go (.call (.con (.func (.func 21) ⟨[]⟩ ⟨[]⟩)) [tm 5]) (P 6)::
.go (.move (tm 6)) (P 4)::
[])) (.seq (.run (.go (.move (tm 4)) (P 7)::
.go (.bin .neq 33 (tm 7) (.con (.int .i64 (.ofNat 0)))) (P 8)::
[])) (.cond (tm 8) (.seq (.run (.go (.build [(.slice none 0 0),(.slice none 0 0),(.slice none 0 0),(.slice none 0 0),(.bool false),(.bool false),(.bool false),(.bool false),(.bool false),(.bool false),(.bool false),(.bool false),(.bool false),(.bool false),(.bool false),(.bool false),(.bool false),(.bool false),(.bool false),(.bool false),.nilFunc,.nilFunc] []) (P 9)::
.go (.move (tm 4)) (P 10)::
.un (.store 22 (tm 2) (tm 9))::
.go (.move (tm 10)) (P 3)::
[])) .ret) .skip))) (.seq (.run (.go (.loadN 4 (tm 1)) (P 11)::
.go (.call (.con (.func (.func 75) ⟨[]⟩ ⟨[]⟩)) [tm 11]) (P 12)::
.un (.store 22 (tm 2) (tm 12))::
.go (.move (.con (.int .i64 (.ofNat 0)))) (P 3)::
[])) .ret)))
theorem de72 : @compF Try.prog (Gl.none Try.prog) Try.f72 1=.mk d72 (mkTT 13) [(P 0)] [.many (P 2) 22,.tmp (P 3)]:=by kernel_rfl
theorem dg72 : Try.prog.funcs[72]?=some Try.f72:=Try.func72
theorem do72 : okF Try.prog Try.f72=true:=by kernel_rfl
def LG0 : List Value:=[.slice none 0 0,.slice none 0 0,.slice none 0 0,.slice none 0 0]++[.bool false,.bool false,.bool false,.bool false,.bool false,.bool false,.bool false,.bool false,.bool false,.bool false,.bool false,.bool false,.bool false,.bool false,.bool false,.bool false]++[.nilFunc,.nilFunc]
theorem LG_ok {c b r n : Value} {u : Nat→Bool} (hc : ∃ p m k,c=.slice p m k) (hb : ∃ p m k,b=.slice p m k) (hr : ∃ p m k,r=.slice p m k) (hn : ∃ p m k,n=.slice p m k) : (LG c b r n u).all ok1=true:=by
 obtain⟨_,_,_,rfl⟩:=hc
 obtain⟨_,_,_,rfl⟩:=hb
 obtain⟨_,_,_,rfl⟩:=hr
 obtain⟨_,_,_,rfl⟩:=hn
 have h : (An 16 fun i=>.bool (u i)).all ok1=true:=An_ok
 unfold LG
 rw[List.all_append,List.all_append,h]
 rfl
theorem LG_set {c b r n : Value} {u : Nat→Bool} {l : List Value} (h : l.length=22) : setCells (LG c b r n u) 0 ⟨l⟩=⟨LG c b r n u⟩:=by
 rw[setC_pre _ _ _ (by rw[LG_len,h];omega),LG_len,List.drop_eq_nil_of_le (by omega)]
 simp
theorem f72_ok {H : Heap} {c b r n : Value} {T : Tb} (h : TV H c b r n T) (hs : sh T) : Gives Try.prog 72 [.agg ⟨[c,b,r,n]⟩] H (.tuple ⟨[.agg ⟨if flt T=0 then LG c b r n (fun _=>false) else LG0⟩,I (flt T)]⟩):=by
 refine F.entryL rfl dg72 do72 de72 rfl (by kernel_rfl) ?_
 simp only[sets]
 refine V.re [(0,.agg ⟨[c,b,r,n]⟩)] (N:=13) zE zY ?_
 intro t hF hA
 simp only[Kn,and_true] at hA
 refine zS ?_
 refine V.l0 ?_
 refine V.heap (fun X=>Grow H X∧Bx X H.next [c,b,r,n] 38∧Bx X (H.next+1) LG0 135) ⟨?_,?_,?_⟩ ?_
 ·exact zW
 ·exact zB
 ·exact zB
 rintro H1 ⟨g1,b1,c1⟩
 have nc:=c1.1
 refine zS ?_
 refine V.run ?_
 have zf:=b1.2
 refine VI.sz 1 ?_
 simp only[ds]
 refine VI.callA rfl (f21_ok (h.grow g1) hs) zA (fun H2 g2=>?_)
 have c2:=c1.grow g2
 have b2:=b1.grow g2
 have nc2:=c2.1
 refine VI.l0 ?_
 refine zS ?_
 refine V.l0 ?_
 refine zS ?_
 refine V.condP zP (fun h0=>?_) (fun h0=>?_)
 ·rw[if_neg h0]
  unfold LG0 at c2 ⊢
  simp only[List.cons_append,List.nil_append] at c2 ⊢
  refine zS ?_
  have zf:=c2.2
  refine V.lz ?_
  refine zS ?_
  refine V.ret (V.rets rfl (Lv.retG (by simp +contextual (disch:=first|omega|simp only[nx];omega) only[D1,cells_alloc_at,cells_alloc_ne,cells_set_at,cells_set_ne,yres,yres1,yresL,qA,qB,qC,D5,hF,hA,↓reduceIte,qD,qE,cells_set];rfl) ?_ ?_))
  ·have:=g1.trans g2
   exact zW
  ·rfl
 ·have h0' : flt T=0:=by omega
  rw[if_pos h0',h0']
  refine zS ?_
  refine V.run ?_
  have zf:=b2.2
  refine VI.sz 1 ?_
  simp only[ds]
  refine VI.callA rfl (f75_ok (h.grow (g1.trans g2))) zA (fun H3 g3=>?_)
  have c3:=c2.grow g3
  have nc3:=c3.1
  have l0 : LG0.length=22:=rfl
  have lok:=LG_ok (u:=fun _=>false) h.c.isS (rp.sl h.b) (rp.sl h.r) (rp.sl h.n)
  have hset:=LG_set (c:=c) (b:=b) (r:=r) (n:=n) (u:=fun _=>false) (l:=LG0) rfl
  have zf:=And.intro c3.2<|And.intro @LG_len<|And.intro @lok<|And.intro @hset<|@l0
  refine VI.lz ?_
  refine zS ?_
  refine V.ret (V.rets rfl (Lv.retG (by simp +contextual (disch:=first|omega|simp only[nx];omega) only[D1,cells_alloc_at,cells_alloc_ne,cells_set_at,cells_set_ne,yres,yres1,yresL,qA,qB,qC,D5,hF,hA,↓reduceIte,qD,qE,cells_set,LG_t22,LG_len];rfl) ?_ ?_))
  ·have:=(g1.trans g2).trans g3
   exact zW
  ·rfl
end Go.Xe.TFX
