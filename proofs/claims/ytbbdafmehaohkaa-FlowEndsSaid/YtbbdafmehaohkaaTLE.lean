/- The truth that is picked is one of the table that lives. Conditions: none. -/
import Derived.Test.YtbbdafmehaohkaaTKH
-- MOD TF
namespace Go.Xe.TFX
open Go Go.Xe Go.Proofs
open Nat renaming reduceLeDiff → qA, reduceSub → qB, reduceAdd → qC, reduceEqDiff → qD, reduceLT → qE
open Int renaming reduceNegSucc → qF, reduceEq → qG
open Go.Xe.V renaming seq → sA, block → sB, scope → sC, skip → sD, close → sE
open Go.Xe renaming pth → P
open Go.Xe.Flw
set_option maxRecDepth 100000
set_option maxHeartbeats 3200000
set_option linter.unusedSimpArgs false
theorem nxk_lo {be de mo : List Int} {M : Int} (h0 : 0≤M) (hM : M≤1000000) (hm : ∀ g,-50≤mo.getD g 0∧mo.getD g 0≤50) (hd : ∀ i,-M≤be.getD i 0-de.getD i 0∧be.getD i 0-de.getD i 0≤M) : ∀ k,k≤mo.length→∀ g,g<mo.length→(nxk be de mo k).getD g 0=if g<k then mo.getD g 0+(be.getD g 0-de.getD g 0) else mo.getD g 0
 | 0,_,g,_=>by simp[nxk]
 | k+1,hk,g,hg=>by
  have ih:=nxk_lo h0 hM hm hd k (by omega)
  have e : min k (mo.length-1)=k:=by omega
  have h1:=ih k (by omega)
  rw[if_neg (by omega)] at h1
  have h2:=hd k
  have h3:=hm k
  have e1 : W (be.getD k 0-de.getD k 0)=be.getD k 0-de.getD k 0:=wrap_i64 (by omega) (by omega)
  have e2 : W (mo.getD k 0+(be.getD k 0-de.getD k 0))=mo.getD k 0+(be.getD k 0-de.getD k 0):=wrap_i64 (by omega) (by omega)
  simp only[nxk]
  rw[getD_set (by rw[nxk_len];omega),e,h1,e1,e2]
  by_cases hgk : k=g
  ·subst hgk
   rw[if_pos rfl,if_pos (by omega)]
  ·rw[if_neg hgk,ih g hg]
   by_cases hlt : g<k
   ·rw[if_pos hlt,if_pos (by omega)]
   ·rw[if_neg hlt,if_neg (by omega)]
theorem nxt_at {be de mo : List Int} {M : Int} (h0 : 0≤M) (hM : M≤1000000) (hm : ∀ g,-50≤mo.getD g 0∧mo.getD g 0≤50) (hd : ∀ i,-M≤be.getD i 0-de.getD i 0∧be.getD i 0-de.getD i 0≤M) (hl : be.length=mo.length+1) (hp : 0<mo.length) {g : Nat} (hg : g<mo.length) :
  (nxt be de mo).getD g 0=mo.getD g 0+(be.getD g 0-de.getD g 0)+(if g+1=mo.length then be.getD (g+1) 0-de.getD (g+1) 0 else 0):=by
 have h1:=nxk_lo h0 hM hm hd mo.length (Nat.le_refl _)
 have h2:=h1 g hg
 rw[if_pos hg] at h2
 have h4:=hd g
 have h5:=hm g
 have h6:=hd mo.length
 unfold nxt
 rw[hl]
 simp only[nxk]
 have e : min mo.length (mo.length-1)=mo.length-1:=by omega
 rw[getD_set (by rw[nxk_len];omega),e]
 by_cases hgl : g+1=mo.length
 ·have eg : mo.length-1=g:=by omega
  have e1 : W (be.getD mo.length 0-de.getD mo.length 0)=be.getD mo.length 0-de.getD mo.length 0:=wrap_i64 (by omega) (by omega)
  rw[eg,if_pos rfl,if_pos hgl,h2,e1,hgl]
  exact wrap_i64 (by omega) (by omega)
 ·rw[if_neg (by omega),if_neg hgl,h2,Int.add_zero]
def sP (T : Tb) (ws : List Int) : Int×Int→Int:=fun z=>if z.2=-1 then pb T ws z.1.toNat else (rw (pT T ws) z.1.toNat).getD z.2.toNat 0
theorem sP_b (T : Tb) (ws : List Int) (c : Nat) : sP T ws ((c : Int),-1)=pb T ws c:=by
 unfold sP
 rw[if_pos rfl,Int.toNat_natCast]
theorem sP_c (T : Tb) (ws : List Int) (c g : Nat) : sP T ws ((c : Int),(g : Int))=(rw (pT T ws) c).getD g 0:=by
 unfold sP
 rw[if_neg (by simp only;omega),Int.toNat_natCast,Int.toNat_natCast]
theorem cn_le {T : Tb} {X : Tr} {k : Nat} : ∀ {j : Nat},cn T X j→k≤j→cn T X k
 | 0,h,hk=>by rw[show k=0 by omega];exact h
 | j+1,h,hk=>by
  by_cases e : k=j+1
  ·rw[e];exact h
  ·exact cn_le h.1.1 (by omega)
theorem cra_0 (T : Tb) (f : Sf) (y : Nat) : cra T f 0 y=(0,500):=rfl
theorem cra_pt {T : Tb} {s : Int×Int→Int} {x y : Nat} (_ : y<grp T) : cra T (pt s) (x+1) y=(if y+1=grp T then add2 (add2 (T.N.getD y (0,0)) (few (T.Rt.getD y (0,0)) (s ((x : Int),(y : Int)-1)),mst (T.Rt.getD y (0,0)) (s ((x : Int),(y : Int)-1)))) (few (T.Rt.getD (y+1) (0,0)) (s ((x : Int),(y : Int))),mst (T.Rt.getD (y+1) (0,0)) (s ((x : Int),(y : Int)))) else add2 (T.N.getD y (0,0)) (few (T.Rt.getD y (0,0)) (s ((x : Int),(y : Int)-1)),mst (T.Rt.getD y (0,0)) (s ((x : Int),(y : Int)-1)))):=by
 have hx : ¬ ((x+1 : Nat) : Int)=0:=by omega
 have e0 : ((x+1 : Nat) : Int)-1=(x : Int):=by omega
 have e1 : ((y : Int)-1+1).toNat=y:=by omega
 have e2 : ((y : Int)+1).toNat=y+1:=by omega
 unfold cra car
 rw[if_neg hx]
 unfold pso src
 rw[if_neg hx]
 by_cases hl : y+1=grp T
 ·rw[if_pos (by omega),if_pos hl]
  simp only[List.map_cons,List.map_nil,tt,List.foldl_cons,List.foldl_nil,sv,pt,Option.getD_some,e0,e1,e2]
 ·rw[if_neg (by omega),if_neg hl]
  simp only[List.map_cons,List.map_nil,tt,List.foldl_cons,List.foldl_nil,sv,pt,Option.getD_some,e0,e1]
theorem cd_at {rs : List R2} {bs es : List Int} (h : cd rs bs es) {i : Nat} (h1 : i<rs.length) (h2 : i<bs.length) (h3 : i<es.length) : (dd bs[i] rs[i]).1≤es[i]∧es[i]≤(dd bs[i] rs[i]).2:=by
 refine h (rs[i],bs[i],es[i]) ?_
 rw[List.mem_iff_getElem]
 refine⟨i,by simp only[List.length_zip];omega,?_⟩
 simp
theorem lv_tru {T : Tb} {ws : List Int} (hb : ∀ v∈ws,0≤v∧v<65536) (h : lv T ws 0) : Tru (lT T ws 0) u0 (sP T ws):=by
 obtain⟨⟨_,h0⟩,hcn,h2⟩:=h
 obtain⟨hf,hv⟩:=flt_0.1 h0
 have hK : 0<T.C.length:=by have:=hv.2.1;omega
 have hg : grp (lT T ws 0)=grp T:=cT_grp hK _ _ _
 have hf1:=hf.1
 have hf2:=hf.2
 have hv1:=hv.1
 have hvB:=hv.2.1
 have hvR:=hv.2.2.1
 have hvN:=hv.2.2.2.1
 have hhl:=pT_hld hv ws
 have hnn : ∀ x,x<T.C.length→∀ n∈rw (pT T ws) x,0≤n:=fun x hx=>cn_nn hhl x (cn_le hcn (by omega))
 have hrl : ∀ x,x<T.C.length→(rw (pT T ws) x).length=grp T:=fun x hx=>(pT_bd hf hv (by omega)).2.1
 have hlen : (lT T ws 0).C.length=T.C.length:=by simp[lT,cT]
 refine⟨fun c hc=>?_,fun x y hx hy=>?_,fun x y hx hy=>?_⟩
 ·rw[sP_b]
  have:=pb_in hv ws (c:=c) hc
  exact⟨this.1,this.2.1⟩
 ·rw[hg] at hy
  rw[hlen] at hx
  rw[sP_c]
  have hyl : y<(rw (pT T ws) x).length:=by rw[hrl x hx];exact hy
  have h3:=hnn x hx _ (List.getElem_mem hyl)
  have e : cns (lT T ws 0) u0 x y=cnr (szs (pT T ws) (T.B.length+1)) ws 0 x y:=by
   unfold cns
   rw[if_neg (by simp)]
   unfold lT cT
   simp only
   rw[getD_map_range hx,getD_map_range hy]
  rw[e]
  have e2 : ((szs (pT T ws) (T.B.length+1)).getD x []).getD y 0=(rw (pT T ws) x)[y]:=by
   unfold szs
   rw[getD_map_range (by omega),gd hyl]
  obtain⟨w1,w2⟩:=wd_bd hb (4*x+y+2)
  unfold cnr cnn isIn
  rw[if_neg (bt_0 _),e2,gd hyl]
  simp only
  omega
 ·rw[hg] at hy
  rw[hlen] at hx
  rw[sP_c]
  have hyl : y<(rw (pT T ws) x).length:=by rw[hrl x hx];exact hy
  rw[gd hyl]
  cases x with
  | zero=>
   rw[cra_0]
   have:=pF_in hv ws _ (List.getElem_mem hyl)
   exact⟨this.1,this.2⟩
  | succ x=>
   have hx' : x<T.C.length:=by omega
   obtain⟨q1,q2,q3,q4,q5,q6,q7⟩:=hhl
   have hcx:=cn_le hcn (k:=x+1) (by omega)
   have hcd:=hcx.1.2
   have hxD : x<(pT T ws).D.length:=by omega
   have hxM : x<(pT T ws).M.length:=by omega
   have hxB : x<(pT T ws).B.length:=by have:=q3.1;omega
   have hDl:=q5 _ (List.getElem_mem hxD)
   have hMl:=(q7 _ (List.getElem_mem hxM)).1
   have eb : (pT T ws).B.getD x 0=pb T ws x:=by
    show (pB T ws T.B.length).getD x 0=_
    unfold pB
    exact getD_map_range (by omega) 0
   have em : (pT T ws).M.getD x []=(List.range (grp T)).map (pm T ws x):=by
    show (pM T ws T.B.length).getD x []=_
    unfold pM
    exact getD_map_range (by omega) []
   have er : rw (pT T ws) (x+1)=nxt (pb T ws x::rw (pT T ws) x) ((pT T ws).D.getD x []) ((List.range (grp T)).map (pm T ws x)):=by
    show nxt _ _ _=_
    rw[eb,em]
   rw[eb] at hcd
   have hbl:=(pT_bd (ws:=ws) hf hv (c:=x) (by omega)).2
   have hpb:=pb_in hv ws (c:=x) (by omega)
   have hb0:=pbd_0 x
   have hb4:=pbd_4 (show x<4 by omega)
   generalize hbe : pb T ws x::rw (pT T ws) x=be at *
   have hbel : be.length=grp T+1:=by rw[← hbe,List.length_cons,hbl.1]
   rw[getD_nest hxD] at hcd er
   generalize (pT T ws).D[x]=de at *
   have hbnn : ∀ i,0≤be.getD i 0∧be.getD i 0≤pbd x:=by
    intro i
    rw[← hbe]
    cases i with
    | zero=>
     show 0≤pb T ws x∧pb T ws x≤pbd x
     omega
    | succ i=>
     show 0≤(rw (pT T ws) x).getD i 0∧(rw (pT T ws) x).getD i 0≤pbd x
     have h3:=hbl.2 i
     by_cases hi : i<(rw (pT T ws) x).length
     ·have:=hnn x hx' _ (List.getElem_mem hi)
      rw[gd hi] at h3 ⊢
      omega
     ·rw[List.getD_eq_getElem?_getD,List.getElem?_eq_none (by omega)]
      simp only[Option.getD_none]
      omega
   have hdd : ∀ i,i<grp T+1→few (T.Rt.getD i (0,0)) (be.getD i 0)≤be.getD i 0-de.getD i 0∧be.getD i 0-de.getD i 0≤mst (T.Rt.getD i (0,0)) (be.getD i 0)∧0≤few (T.Rt.getD i (0,0)) (be.getD i 0)∧mst (T.Rt.getD i (0,0)) (be.getD i 0)≤be.getD i 0:=by
    intro i hi
    have h1:=cd_at hcd (i:=i) (by omega) (by omega) (by omega)
    have h3:=hbnn i
    rw[gd (show i<T.Rt.length by omega),gd (show i<be.length by omega),gd (show i<de.length by omega)]
    rw[gd (show i<be.length by omega)] at h3
    have hq:=hv.2.2.2.2.2.2.1 _ (List.getElem_mem (show i<T.Rt.length by omega))
    obtain⟨_,_,_,d4,d5⟩:=dd_in (r:=T.Rt[i]) (x:=be[i]) hq h3.1 (by omega)
    have d6:=few_nn hq h3.1
    have d7:=mst_le hq h3.1
    omega
   have hat:=nxt_at (be:=be) (de:=de) (mo:=(List.range (grp T)).map (pm T ws x)) (M:=pbd x) (by omega) (by omega) (fun g=>by
    by_cases hg : g<grp T
    ·rw[getD_map_range hg]
     have:=pm_in hv ws (c:=x) (g:=g) (by omega)
     omega
    ·rw[List.getD_eq_getElem?_getD,List.getElem?_eq_none (by simp;omega)]
     simp) (fun i=>by
    by_cases hi : i<grp T+1
    ·have h1:=hdd i hi
     have h2:=hbnn i
     omega
    ·have h1 : de.getD i 0=0:=by
      rw[List.getD_eq_getElem?_getD,List.getElem?_eq_none (by omega)]
      rfl
     rw[h1]
     have:=hbnn i
     omega) (by simp[hbel]) (by simp;omega) (g:=y) (by simp;exact hy)
   rw[getD_map_range hy,List.length_map,List.length_range] at hat
   have es : (rw (pT T ws) (x+1))[y]=(nxt be de ((List.range (grp T)).map (pm T ws x))).getD y 0:=by
    rw[← er,gd hyl]
   rw[es,hat,cra_pt (by rw[hg];exact hy),hg]
   have hpm:=pm_in hv ws (c:=x) (g:=y) (by omega)
   have eN : (lT T ws 0).N.getD y (0,0)=T.N[y]:=by show T.N.getD y (0,0)=_;rw[gd (by omega)]
   have eR : (lT T ws 0).Rt=T.Rt:=rfl
   have s1 : sP T ws ((x : Int),(y : Int)-1)=be.getD y 0:=by
    rw[← hbe]
    cases y with
    | zero=>
     show sP T ws ((x : Int),-1)=_
     rw[sP_b]
     rfl
    | succ y=>
     have : (((y+1 : Nat) : Int)-1)=(y : Int):=by omega
     rw[this,sP_c]
     rfl
   have s2 : sP T ws ((x : Int),(y : Int))=be.getD (y+1) 0:=by
    rw[sP_c,← hbe]
    rfl
   rw[s1,s2,eN,eR]
   have d1:=hdd y (by omega)
   by_cases hl : y+1=grp T
   ·rw[if_pos hl,if_pos hl]
    have d2:=hdd (y+1) (by omega)
    unfold isIn add2
    simp only
    omega
   ·rw[if_neg hl,if_neg hl]
    unfold isIn add2
    simp only
    omega
end Go.Xe.TFX
/- The statement FlowFails: the function. Conditions: none. -/
-- MOD TF
namespace Go.Xe.TFX
open Go Go.Xe Go.Proofs
open Nat renaming reduceLeDiff → qA, reduceSub → qB, reduceAdd → qC, reduceEqDiff → qD, reduceLT → qE
open Int renaming reduceNegSucc → qF, reduceEq → qG
open Go.Xe.V renaming seq → sA, block → sB, scope → sC, skip → sD, close → sE
open Go.Xe renaming pth → P
open Go.Xe.Flw
set_option maxRecDepth 100000
set_option maxHeartbeats 3200000
set_option linter.unusedSimpArgs false
theorem f31_v {H : Heap} {c b r n : Value} {T : Tb} (h : TV H c b r n T) (hs : sh T) (h0 : flt T=0) : F Try.prog 31 ⟨[.agg ⟨[c,b,r,n]⟩]⟩ H (fun w X=>Grow H X∧∃ s,w=.tuple ⟨[s,I (if ok T u0 then 0 else 9)]⟩∧((¬ ok T u0∧s=.slice none 0 0)∨(ok T u0∧Nest RS X s (bdl (bnd T u0) T.C.length (grp T))))):=by
 refine F.mono (f31_ok h hs) (fun w X ⟨g,hw⟩=>⟨g,?_⟩)
 rcases hw with⟨h1,_⟩|⟨_,h1,rfl⟩|⟨_,h1,s,rfl,h2⟩
 ·exact absurd h0 h1
 ·exact⟨_,by rw[if_neg h1],.inl ⟨h1,rfl⟩⟩
 ·exact⟨s,by rw[if_pos h1],.inr ⟨h1,h2⟩⟩
end Go.Xe.TFX
/- The statement FlowStill: the function. Conditions: none. -/
-- MOD TF
namespace Go.Xe.TFX
open Go Go.Xe Go.Proofs
open Nat renaming reduceLeDiff → qA, reduceSub → qB, reduceAdd → qC, reduceEqDiff → qD, reduceLT → qE
open Int renaming reduceNegSucc → qF, reduceEq → qG
open Go.Xe.V renaming seq → sA, block → sB, scope → sC, skip → sD, close → sE
open Go.Xe renaming pth → P
open Go.Xe.Flw
set_option maxRecDepth 100000
set_option maxHeartbeats 3200000
set_option linter.unusedSimpArgs false
theorem few_z (n : Int) : few (0,0) n=n:=by unfold few;simp
theorem mst_z (n : Int) : mst (0,0) n=n:=by unfold mst;simp
theorem rng_eq {v w : R2} (h1 : v.1≤v.2) (h2 : w.1≤w.2) (h : ∀ n,isIn n v↔isIn n w) : v=w:=by
 have a:=(h v.1).1 ⟨Int.le_refl _,h1⟩
 have b:=(h v.2).1 ⟨h1,Int.le_refl _⟩
 have c:=(h w.1).2 ⟨Int.le_refl _,h2⟩
 have d:=(h w.2).2 ⟨h2,Int.le_refl _⟩
 unfold isIn at a b c d
 obtain⟨v1,v2⟩:=v
 obtain⟨w1,w2⟩:=w
 simp only at *
 rw[Prod.mk.injEq]
 omega
theorem still {T : Tb} (hf : fit T) (hv : val T) (hok : ok T u0) (hR : ∀ i,T.Rt.getD i (0,0)=(0,0)) (hN : ∀ i,T.N.getD i (0,0)=(0,0)) {c g : Nat} (hc : c+1<T.C.length) (hg : g+2<grp T) : va0 (bnd T u0) (((c+1 : Nat) : Int),((g+1 : Nat) : Int))=va0 (bnd T u0) ((c : Int),(g : Int)):=by
 obtain⟨v,a1,a2,a3,_,a4⟩:=bnd_iff hf hv hok (x:=c+1) (y:=g+1) hc (by omega)
 obtain⟨w,b1,b2,b3,_,b4⟩:=bnd_iff hf hv hok (x:=c) (y:=g) (by omega) (by omega)
 rw[va0_some a1,va0_some b1]
 have key : ∀ s,Tru T u0 s→s (((c+1 : Nat) : Int),((g+1 : Nat) : Int))=s ((c : Int),(g : Int)):=by
  intro s hs
  have h:=hs.car (c+1) (g+1) hc (by omega)
  have e : ((g+1 : Nat) : Int)-1=(g : Int):=by omega
  rw[cra_pt (by omega),if_neg (by omega),hR,hN,e,few_z,mst_z] at h
  unfold isIn add2 at h
  simp only at h
  omega
 refine rng_eq a3 b3 (fun n=>?_)
 rw[a4,b4]
 constructor
 ·rintro⟨s,hs,rfl⟩
  exact⟨s,hs,(key s hs).symm⟩
 ·rintro⟨s,hs,rfl⟩
  exact⟨s,hs,key s hs⟩
theorem bdl_len (f : Sf) (K G : Nat) : (bdl f K G).length=K:=by simp[bdl]
theorem bdl_row (f : Sf) {K G c : Nat} (h : c<(bdl f K G).length) : (bdl f K G)[c].length=G:=by simp[bdl]
theorem bdl_at (f : Sf) {K G c g : Nat} (h : c<(bdl f K G).length) (hg : g<(bdl f K G)[c].length) : (bdl f K G)[c][g]=va0 f ((c : Int),(g : Int)):=by simp[bdl]
end Go.Xe.TFX
/- A table with another count: the program of the statements. Conditions: none. -/
-- MOD TF
namespace Go.Xe.TFX
open Go Go.Xe Go.Proofs
open Nat renaming reduceLeDiff → qA, reduceSub → qB, reduceAdd → qC, reduceEqDiff → qD, reduceLT → qE
open Int renaming reduceNegSucc → qF, reduceEq → qG
open Go.Xe.V renaming seq → sA, block → sB, scope → sC, skip → sD, close → sE
open Go.Xe renaming pth → P
open Go.Xe.Flw
set_option maxRecDepth 100000
set_option maxHeartbeats 3200000
set_option linter.unusedSimpArgs false
noncomputable def d55 : FCode:=(.seq (.run (.go (.box 25 (tm 0)) (P 4)::
.go (.box 62 (tm 3)) (P 7)::
.go (.alloc 25 [(.slice none 0 0),(.slice none 0 0),(.slice none 0 0),(.slice none 0 0)]) (P 8)::
[])) (.seq (.run (.go (.loadN 4 (tm 4)) (P 10)::
.go (.alloc 25 [(.slice none 0 0),(.slice none 0 0),(.slice none 0 0),(.slice none 0 0)]) (P 9)::
.un (.store 4 (tm 9) (tm 10))::
[])) (.seq (.run (.go (.buildSlice 23 0 [] []) (P 11)::
.go (.fieldAddr 0 (tm 4)) (P 12)::
.go (.load1 (tm 12)) (P 13)::
.go (.append 23 1 24 (tm 11) (tm 13)) (P 14)::
.go (.fieldAddr 0 (tm 9)) (P 15)::
.un (.store 1 (tm 15) (tm 14))::
[])) (.seq (.draw 12 (.go (.fieldAddr 0 (tm 9)) (P 16)::
.go (.load1 (tm 16)) (P 17)::
.go (.move (tm 1)) (P 18)::
.go (.buildSlice 62 0 [] []) (P 19)::
.go (.fieldAddr 0 (tm 4)) (P 20)::
.go (.load1 (tm 20)) (P 21)::
.go (.move (tm 1)) (P 22)::
.go (.indexAddr none 1 (tm 21) (tm 22)) (P 23)::
.go (.load1 (tm 23)) (P 24)::
.go (.append 62 2 16 (tm 19) (tm 24)) (P 25)::
.go (.indexAddr none 1 (tm 17) (tm 18)) (P 26)::
.un (.store 1 (tm 26) (tm 25))::
[]) [.ok,.rd none (.load1 (tm 16)) (some (P 17)) [4,10],.ok,.ok,.ok,.rd none (.load1 (tm 20)) (some (P 21)) [0],.ok,.ok,.rd none (.load1 (tm 23)) (some (P 24)) [0],.ok,.ok,.ok]) (.seq (.draw 9 (.go (.fieldAddr 0 (tm 9)) (P 27)::
.go (.load1 (tm 27)) (P 28)::
.go (.move (tm 1)) (P 29)::
.go (.indexAddr none 1 (tm 28) (tm 29)) (P 30)::
.go (.load1 (tm 30)) (P 31)::
.go (.move (tm 2)) (P 32)::
.go (.loadN 2 (tm 7)) (P 33)::
.go (.indexAddr none 2 (tm 31) (tm 32)) (P 34)::
.un (.store 2 (tm 34) (tm 33))::
[]) [.ok,.ok,.ok,.ok,.ok,.ok,.ok,.ok,.ok]) (.seq (.run (.go (.loadN 4 (tm 9)) (P 35)::
.un (.store 4 (tm 8) (tm 35))::
[])) .ret))))))
theorem de55 : @compF Try.prog (Gl.none Try.prog) Try.f55 4=.mk d55 (mkTT 36) [(P 0),(P 1),(P 2),(P 3)] [.many (P 8) 4]:=by kernel_rfl
theorem dg55 : Try.prog.funcs[55]?=some Try.f55:=Try.func55
theorem do55 : okF Try.prog Try.f55=true:=by kernel_rfl
theorem flat_set {w : Nat} {x : List Value} (hx : x.length=w) : ∀ {l : List (List Value)} {g : Nat},(∀ y∈l,y.length=w)→g<l.length→setCells x (g*w) ⟨l.flatten⟩=⟨(l.set g x).flatten⟩:=by
 intro l g hl hg
 have hle : g*w+w≤l.length*w:=by
  have:=Nat.mul_le_mul_right w (show g+1≤l.length from hg)
  rw[Nat.add_mul,Nat.one_mul] at this
  exact this
 rw[setC_pre _ _ _ (by rw[flat_len hl,hx];omega)]
 have key : ∀ {l : List (List Value)} {g : Nat},(∀ y∈l,y.length=w)→g<l.length→l.flatten.take (g*w)++x++l.flatten.drop (g*w+x.length)=(l.set g x).flatten:=by
  intro l
  induction l with
  | nil=>intro g _ hg;simp at hg
  | cons y l ih=>
   intro g hl hg
   have hy:=hl y (by simp)
   cases g with
   | zero=>
    simp only[Nat.zero_mul,List.take_zero,List.nil_append,Nat.zero_add,List.set_cons_zero,List.flatten_cons]
    rw[hx,← hy,List.drop_left]
   | succ g=>
    have:=ih (g:=g) (fun z hz=>hl z (by simp[hz])) (by simpa using hg)
    simp only[List.set_cons_succ,List.flatten_cons,Nat.succ_mul]
    have e1 : g*w+w=y.length+g*w:=by omega
    have e2 : g*w+w+x.length=y.length+(g*w+x.length):=by omega
    rw[← this,e2,e1,List.take_length_add_append,List.drop_length_add_append]
    simp only[List.append_assoc]
 rw[key hl hg]
def wT (T : Tb) (c g : Nat) (v : R2) : Tb:=⟨T.C.set c ((T.C.getD c []).set g v),T.B,T.Rt,T.N⟩
theorem vs_ok {H : Heap} {vs : List Value} {L : List (List R2)} (hl : vs.length=L.length) (h : ∀ (k : Nat) (x : Value) (r : List R2),vs[k]?=some x→L[k]?=some r→RS H x r) : vs.all ok1=true:=by
 rw[List.all_eq_true]
 intro x hx
 obtain⟨k,hk,rfl⟩:=List.mem_iff_getElem.1 hx
 exact (sl1 (rp.sl (h k vs[k] (L[k]'(by omega)) (by simp) (by simp)))).1
theorem f55_ok {H : Heap} {c b r n : Value} {T : Tb} {k g : Nat} {v : R2} (h : TV H c b r n T) (hs : sh T) (hk : k<T.C.length) (hg : g<(T.C[k]).length) : F Try.prog 55 ⟨[.agg ⟨[c,b,r,n]⟩,I k,I g,.agg ⟨r2 v⟩]⟩ H (fun w X=>Grow H X∧∃ c',w=.agg ⟨[c',b,r,n]⟩∧TV X c' b r n (wT T k g v)):=by
 have k1:=(sl1 h.c.isS).1
 have k2:=(sl1 (rp.sl h.b)).1
 have k3:=(sl1 (rp.sl h.r)).1
 have k4:=(sl1 (rp.sl h.n)).1
 obtain⟨v1,v2⟩:=v
 have hs1:=hs.1
 have hs2:=hs.2.1 _ (List.getElem_mem hk)
 refine F.entryL rfl dg55 do55 de55 rfl (by kernel_rfl) ?_
 simp only[sets]
 refine V.re [(0,.agg ⟨[c,b,r,n]⟩),(1,I k),(2,I g),(3,.agg ⟨A2 v1 v2⟩)] (N:=36) zE zY ?_
 intro t hF hA
 simp only[Kn,and_true] at hA
 refine zS ?_
 refine V.l0 ?_
 refine zS ?_
 have zf:=And.intro @k1<|And.intro @k2<|And.intro @k3<|@k4
 refine V.lz ?_
 refine V.heap (fun X=>Grow H X∧Bx X H.next [c,b,r,n] 25∧Bx X (H.next+1) (A2 v1 v2) 62∧Bx X (H.next+2) [.slice none 0 0,.slice none 0 0,.slice none 0 0,.slice none 0 0] 25∧Bx X (H.next+3) [c,b,r,n] 25) ⟨?_,?_,?_,?_,?_⟩ ?_
 ·exact zW
 ·exact zB
 ·exact zB
 ·exact zB
 ·exact zB
 rintro H1 ⟨g1,t1,e1,q1,x1⟩
 have lx1:=x1.1
 obtain⟨vs,hvs',hvl,hvr⟩:=h.c
 have hvs:=hvs'.grow g1
 have hvs0:=hvs.grow ((Grow.refl H1).alloc (.cells ⟨[]⟩ 23 true))
 obtain⟨w,H2,a1,a2,a3,a4⟩:=Ow.append (H0:=H1) (e:=23) (bytes:=24) (s:=.slice (some ⟨H1.next,0,none⟩) 0 0) (l:=[]) (r:=vs) ((Grow.refl H1).alloc _) (.inr ⟨H1.next,Nat.le_refl _,Nat.lt_succ_self _,rfl,cells_alloc _ _ _ _⟩) hvs0 (vs_ok hvl hvr) (by simp only[List.length_nil];omega) (by simp only[List.length_nil];omega)
 rw[List.nil_append] at a2
 rcases a2 with⟨_,h0⟩|⟨ob,ob1,ob2,rfl,ob3⟩
 ·rw[h0] at hvl
  simp at hvl
  omega
 have x2:=x1.grow a3
 have lx2:=x2.1
 refine zS ?_
 have zf:=And.intro t1.2<|And.intro x1.2<|And.intro x2.2<|@a1
 refine V.lz ?_
 refine V.heap (fun X=>Grow H X∧Bx X H.next [c,b,r,n] 25∧Bx X (H.next+1) (A2 v1 v2) 62∧Bx X (H.next+2) [.slice none 0 0,.slice none 0 0,.slice none 0 0,.slice none 0 0] 25∧Bx X (H.next+3) [.slice (some ⟨ob,0,none⟩) vs.length vs.length,b,r,n] 25∧Bx X ob vs 23∧H2.next≤X.next) ⟨?_,?_,?_,?_,?_,?_,?_⟩ ?_
 ·exact (g1.trans a3).set (by omega) _
 ·exact (t1.grow a3).set (by omega) _
 ·exact (e1.grow a3).set (by omega) _
 ·exact (q1.grow a3).set (by omega) _
 ·exact⟨by simp only[Heap.next_set];exact lx2,cells_set _ _ _ _ _⟩
 ·exact Bx.set (A:=H2) (i:=ob) ⟨ob2,ob3⟩ (by omega) _
 ·simp only[Heap.next_set];exact Nat.le_refl _
 rintro H3 ⟨g3,t3,e3,q3,x3,o3,n3⟩
 clear a1 zf
 obtain⟨p,row,hp,hrow⟩:=h.c.at rp hk
 obtain⟨hr1,hr2⟩:=hrow H3 g3
 have hp':=hp .i64
 have hr2e:=Sw.grow ((Grow.refl H3).alloc (.cells ⟨[]⟩ 62 true)) hr2
 obtain⟨w4,H4,a1,a2,a3,a4⟩:=OwW.append (w:=2) (H0:=H3) (e:=62) (bytes:=16) (s:=.slice (some ⟨H3.next,0,none⟩) 0 0) (l:=[]) (r:=(T.C[k]).map r2) (by decide) ((Grow.refl H3).alloc _) (.inr ⟨H3.next,Nat.le_refl _,Nat.lt_succ_self _,rfl,cells_alloc _ _ _ _⟩) (by simp) hr2e (RS_len _) (by
  rw[List.all_eq_true]
  intro x hx
  obtain⟨l,hl,hxl⟩:=List.mem_flatten.1 hx
  obtain⟨r,_,rfl⟩:=List.mem_map.1 hl
  simp only[List.mem_cons,List.not_mem_nil,or_false] at hxl
  rcases hxl with rfl|rfl<;>rfl) (by simp only[List.length_nil,List.length_map];omega) (by simp only[List.length_nil,List.length_map];omega)
 rw[List.nil_append] at a2
 rcases a2 with⟨_,h0⟩|⟨nb,nb1,nb2,rfl,nb3⟩
 ·have:=congrArg List.length h0
  rw[List.length_map,List.length_nil] at this
  omega
 change yappend 62 2 16 (H3.alloc (.cells ⟨[]⟩ 62 true)) (.slice (some ⟨H3.next,0,none⟩) 0 0) row=some (.slice (some ⟨nb,0,none⟩) ((T.C[k]).map r2).length ((T.C[k]).map r2).length,H4) at a1
 have ix : yindexAddr none 1 (.slice (some ⟨ob,0,none⟩) vs.length vs.length) (I (k : Nat))=some (.pointer (some ⟨ob,k,none⟩)):=own_idx (by omega)
 have x4:=x3.grow a3
 have t4:=t3.grow a3
 have o4:=o3.grow a3
 have q4:=q3.grow a3
 have e4:=e3.grow a3
 have lx4:=x4.1
 have lo3:=o3.1
 have lo4:=o4.1
 have m4:=a4.1
 simp only[Heap.next_alloc] at m4
 have hvk : k<vs.length:=by omega
 have vr:=(sl1 (rp.sl hr2)).2.2.1
 have vc:=(sl1 h.c.isS).2.2.1
 have hrA:=fun o=>(hrow (H3.alloc o) (g3.alloc o)).1
 have hr4:=(hrow H4 (g3.trans a3)).1
 refine zS ?_
 have zf:=And.intro x3.2<|And.intro t3.2<|And.intro @ix<|And.intro @hp'<|And.intro @hr1<|And.intro @hrA<|And.intro @a1<|And.intro o4.2<|@hvk
 refine V.dz ?_ ?_ rfl ?_
 ·exact zM
 ·simp only[dcAll,dcOk,wantD,List.cons_append,List.nil_append,true_and,and_true]
  have zf:=And.intro x3.2<|And.intro x4.2<|And.intro t3.2<|And.intro t4.2<|And.intro @hr1<|And.intro @hrA<|@hr4
  exact⟨zR,zR,zR⟩
 refine V.heap (fun X=>Grow H X∧Bx X (H.next+1) (A2 v1 v2) 62∧Bx X (H.next+2) [.slice none 0 0,.slice none 0 0,.slice none 0 0,.slice none 0 0] 25∧Bx X (H.next+3) [.slice (some ⟨ob,0,none⟩) vs.length vs.length,b,r,n] 25∧Bx X ob (vs.set k (.slice (some ⟨nb,0,none⟩) ((T.C[k]).map r2).length ((T.C[k]).map r2).length)) 23∧Bx X nb ((T.C[k]).map r2).flatten 62) ⟨?_,?_,?_,?_,?_,?_⟩ ?_
 ·exact (g3.trans a3).set (by omega) _
 ·exact e4.set (by omega) _
 ·exact q4.set (by omega) _
 ·exact x4.set (by omega) _
 ·exact⟨by simp only[Heap.next_set];exact lo4,cells_set _ _ _ _ _⟩
 ·exact Bx.set (A:=H4) (i:=nb) ⟨nb2,nb3⟩ (by omega) _
 have hnob : nb≠ob:=by omega
 have hnx : H.next+3<nb:=by omega
 have hox : H.next+3<ob:=by omega
 clear a1 a3 a4 x3 x4 t3 t4 o3 o4 q3 q4 e3 e4 hrA hr4 hr1 hr2 hr2e zf hrow
 rintro H5 ⟨g5,e5,q5,x5,o5,n5⟩
 have hvx : (vs.set k (.slice (some ⟨nb,0,none⟩) ((T.C[k]).map r2).length ((T.C[k]).map r2).length))[k]?=some (.slice (some ⟨nb,0,none⟩) ((T.C[k]).map r2).length ((T.C[k]).map r2).length):=List.getElem?_set_self hvk
 have hgl : g<((T.C[k]).map r2).length:=by rw[List.length_map];exact hg
 have ix2 : yindexAddr none 2 (.slice (some ⟨nb,0,none⟩) ((T.C[k]).map r2).length ((T.C[k]).map r2).length) (I (g : Nat))=some (.pointer (some ⟨nb,g*2,none⟩)):=by
  simp only[yindexAddr]
  rw[if_pos ⟨by omega,by omega⟩]
  simp
 have hfl:=flat_len (RS_len T.C[k])
 have hle : g*2+2≤((T.C[k]).map r2).flatten.length:=by rw[hfl];omega
 have hfs:=flat_set (w:=2) (x:=A2 v1 v2) rfl (RS_len T.C[k]) hgl
 simp only[setC_cons,setC_nil] at hfs
 have ln5:=n5.1
 have lx5:=x5.1
 have lq5:=q5.1
 refine zS ?_
 have zf:=And.intro x5.2<|And.intro @ix<|And.intro o5.2<|And.intro @hvx<|And.intro e5.2<|And.intro @ix2<|And.intro n5.2<|@hle
 refine V.dz ?_ ?_ rfl ?_
 ·exact zM
 ·simp only[dcAll,dcOk,wantD,List.cons_append,List.nil_append,true_and,and_true]
 rw[hfs]
 refine V.heap (fun X=>Grow H X∧Bx X (H.next+2) [.slice none 0 0,.slice none 0 0,.slice none 0 0,.slice none 0 0] 25∧Bx X (H.next+3) [.slice (some ⟨ob,0,none⟩) vs.length vs.length,b,r,n] 25∧Bx X ob (vs.set k (.slice (some ⟨nb,0,none⟩) ((T.C[k]).map r2).length ((T.C[k]).map r2).length)) 23∧Bx X nb (((T.C[k]).map r2).set g (A2 v1 v2)).flatten 62) ⟨?_,?_,?_,?_,?_⟩ ?_
 ·exact g5.set (by omega) _
 ·exact q5.set (by omega) _
 ·exact x5.set (by omega) _
 ·exact o5.set (Ne.symm hnob) _
 ·exact⟨by simp only[Heap.next_set];exact ln5,cells_set _ _ _ _ _⟩
 clear x5 q5 o5 n5 e5 zf hfs
 rintro H6 ⟨g6,q6,x6,o6,n6⟩
 refine zS ?_
 have zf:=And.intro x6.2<|And.intro q6.2<|And.intro @k2<|And.intro @k3<|@k4
 refine V.lz ?_
 refine zS ?_
 refine V.ret (V.rets rfl (Lv.retF (by simp +contextual (disch:=first|omega|simp only[nx];omega) only[D1,cells_alloc_at,cells_alloc_ne,cells_set_at,cells_set_ne,yres,yres1,yresL,qA,qB,qC,D5,hF,hA,↓reduceIte,qD,qE,cells_set];rfl) ?_))
 have gF : Grow H (H6.set (H.next+2) (.cells ⟨[.slice (some ⟨ob,0,none⟩) vs.length vs.length,b,r,n]⟩ 25 true)):=g6.set (by omega) _
 have hF:=h.grow gF
 refine⟨gF,_,rfl,⟨vs.set k (.slice (some ⟨nb,0,none⟩) ((T.C[k]).map r2).length ((T.C[k]).map r2).length),?_,by simp[wT,hvl],fun j x l hx hl=>?_⟩,hF.b,hF.r,hF.n⟩
 ·have o7:=o6.set (j:=H.next+2) (by omega) (.cells ⟨[.slice (some ⟨ob,0,none⟩) vs.length vs.length,b,r,n]⟩ 25 true)
  refine .at o7.1 o7.2 (Nat.le_refl _) (by rw[List.length_set]) (by simp) (fun j x hx=>?_)
  rw[Nat.zero_add]
  exact (arr_get _ _).trans hx
 ·by_cases hj : j=k
  ·subst hj
   rw[List.getElem?_set_self hvk] at hx
   have hl' : (T.C.set j ((T.C.getD j []).set g (v1,v2)))[j]?=some l:=hl
   rw[List.getElem?_set_self hk] at hl'
   rw[← Option.some.inj hx,← Option.some.inj hl',gd hk]
   have n7:=n6.set (j:=H.next+2) (by omega) (.cells ⟨[.slice (some ⟨ob,0,none⟩) vs.length vs.length,b,r,n]⟩ 25 true)
   have e : (T.C[j].set g (v1,v2)).map r2=((T.C[j]).map r2).set g (A2 v1 v2):=by rw[List.map_set]
   have:=Sw.flat (w:=2) (c:=((T.C[j]).map r2).length) (l:=((T.C[j]).map r2).set g (A2 v1 v2)) n7.1 n7.2 (by rw[← e];exact RS_len _) (by rw[List.length_set];exact Nat.le_refl _)
   rw[List.length_set,← e] at this
   exact this
  ·rw[List.getElem?_set_ne (Ne.symm hj)] at hx
   have hl' : (T.C.set k ((T.C.getD k []).set g (v1,v2)))[j]?=some l:=hl
   rw[List.getElem?_set_ne (Ne.symm hj)] at hl'
   exact rp.grow gF (hvr j x l hx hl')
end Go.Xe.TFX
/- The statement FlowEnds: the function. Conditions: none. -/
-- MOD TF
namespace Go.Xe.TFX
open Go Go.Xe Go.Proofs
open Nat renaming reduceLeDiff → qA, reduceSub → qB, reduceAdd → qC, reduceEqDiff → qD, reduceLT → qE
open Int renaming reduceNegSucc → qF, reduceEq → qG
open Go.Xe.V renaming seq → sA, block → sB, scope → sC, skip → sD, close → sE
open Go.Xe renaming pth → P
open Go.Xe.Flw
set_option maxRecDepth 100000
set_option maxHeartbeats 3200000
set_option linter.unusedSimpArgs false
theorem set_getD {α : Type} {l : List α} {k j : Nat} {x d : α} (hk : k<l.length) : (l.set k x).getD j d=if j=k then x else l.getD j d:=by
 rw[List.getD_eq_getElem?_getD,List.getD_eq_getElem?_getD]
 by_cases h : j=k
 ·subst h
  rw[if_pos rfl,List.getElem?_set_self hk]
  rfl
 ·rw[if_neg h,List.getElem?_set_ne (Ne.symm h)]
theorem wT_grp {T : Tb} {c g : Nat} {v : R2} (hc : c<T.C.length) : grp (wT T c g v)=grp T:=by
 have h0 : 0<T.C.length:=by omega
 have e1:=grp_0 (T:=wT T c g v) (by simp[wT];omega)
 have e2:=grp_0 h0
 rw[← e1,← e2]
 show ((T.C.set c ((T.C.getD c []).set g v))[0]'(by simp;omega)).length=_
 by_cases h : c=0
 ·subst h
  rw[List.getElem_set_self,List.length_set,gd h0]
 ·rw[List.getElem_set_ne h]
theorem wT_fit {T : Tb} {c g : Nat} {v : R2} (hc : c<T.C.length) (hf : fit T) : fit (wT T c g v):=by
 refine⟨?_,by rw[wT_grp hc];exact hf.2⟩
 show (T.C.set c _).length≤4
 rw[List.length_set]
 exact hf.1
theorem wT_val {T : Tb} {c g : Nat} {v : R2} (hc : c<T.C.length) (hv : val T) (hw : wi 0 500 v) : val (wT T c g v):=by
 obtain⟨v1,v2,v3,v4,v5,v6,v7,v8⟩:=hv
 unfold val
 rw[wT_grp hc]
 refine⟨v1,?_,v3,v4,fun row hr=>?_,v6,v7,v8⟩
 ·show T.B.length+1=(T.C.set c _).length
  rw[List.length_set]
  exact v2
 ·have hr' : row∈T.C.set c ((T.C.getD c []).set g v):=hr
  rcases List.mem_or_eq_of_mem_set hr' with h|h
  ·exact v5 row h
  ·subst h
   obtain⟨h1,h2⟩:=v5 _ (List.getElem_mem hc)
   rw[gd hc]
   refine⟨by rw[List.length_set];exact h1,fun r hr=>?_⟩
   rcases List.mem_or_eq_of_mem_set hr with h|h
   ·exact h2 r h
   ·rw[h];exact hw
theorem wT_cra {T : Tb} {c g : Nat} {v : R2} (hc : c<T.C.length) (f : Sf) (x y : Nat) : cra (wT T c g v) f x y=cra T f x y:=by
 unfold cra pso
 rw[wT_grp hc]
 rfl
theorem cns_u0 (T : Tb) (x y : Nat) : cns T u0 x y=(T.C.getD x []).getD y (0,0):=by
 unfold cns
 rw[if_neg (by simp)]
theorem wT_cns {T : Tb} {c g : Nat} {v : R2} (hc : c<T.C.length) (hg : g<(T.C[c]).length) (x y : Nat) : cns (wT T c g v) u0 x y=if x=c∧y=g then v else cns T u0 x y:=by
 rw[cns_u0,cns_u0]
 show ((T.C.set c ((T.C.getD c []).set g v)).getD x []).getD y (0,0)=_
 rw[set_getD hc]
 by_cases hx : x=c
 ·subst hx
  rw[if_pos rfl,set_getD (by rw[gd hc];exact hg)]
  by_cases hy : y=g
  ·rw[if_pos hy,if_pos ⟨rfl,hy⟩]
  ·rw[if_neg hy,if_neg (fun h=>hy h.2)]
 ·rw[if_neg hx,if_neg (fun h=>hx h.1)]
theorem wT_tru {T : Tb} {c g : Nat} {n : Int} {s : Int×Int→Int} (hv : val T) (hc : c<T.C.length) (hg : g<grp T) (hn : isIn n ((T.C.getD c []).getD g (0,0))) : Tru (wT T c g (n,n)) u0 s↔Tru T u0 s∧s ((c : Int),(g : Int))=n:=by
 have hrow : g<(T.C[c]).length:=by rw[(hv.2.2.2.2.1 _ (List.getElem_mem hc)).1];exact hg
 have hlen : (wT T c g (n,n)).C.length=T.C.length:=by show (T.C.set c _).length=_;rw[List.length_set]
 constructor
 ·intro h
  have h0:=h.own c g (by rw[hlen];exact hc) (by rw[wT_grp hc];exact hg)
  rw[wT_cns hc hrow,if_pos ⟨rfl,rfl⟩] at h0
  have e : s ((c : Int),(g : Int))=n:=by unfold isIn at h0;simp only at h0;omega
  refine⟨⟨h.b,fun x y hx hy=>?_,fun x y hx hy=>?_⟩,e⟩
  ·have h1:=h.own x y (by rw[hlen];exact hx) (by rw[wT_grp hc];exact hy)
   rw[wT_cns hc hrow] at h1
   by_cases hh : x=c∧y=g
   ·obtain⟨rfl,rfl⟩:=hh
    rw[e]
    unfold cns
    rw[if_neg (by simp)]
    exact hn
   ·rw[if_neg hh] at h1
    exact h1
  ·have h1:=h.car x y (by rw[hlen];exact hx) (by rw[wT_grp hc];exact hy)
   rw[wT_cra hc] at h1
   exact h1
 ·rintro⟨h,e⟩
  refine⟨h.b,fun x y hx hy=>?_,fun x y hx hy=>?_⟩
  ·rw[hlen] at hx
   rw[wT_grp hc] at hy
   rw[wT_cns hc hrow]
   by_cases hh : x=c∧y=g
   ·obtain⟨rfl,rfl⟩:=hh
    rw[if_pos ⟨rfl,rfl⟩,e]
    exact⟨Int.le_refl _,Int.le_refl _⟩
   ·rw[if_neg hh]
    exact h.own x y hx hy
  ·rw[hlen] at hx
   rw[wT_grp hc] at hy
   rw[wT_cra hc]
   exact h.car x y hx hy
theorem ends {T : Tb} {c g : Nat} {n : Int} (hf : fit T) (hv : val T) (hok : ok T u0) (hc : c<T.C.length) (hg : g<grp T) (hn : isIn n ((T.C.getD c []).getD g (0,0))) : (fit (wT T c g (n,n))∧val (wT T c g (n,n)))∧(ok (wT T c g (n,n)) u0↔isIn n (va0 (bnd T u0) ((c : Int),(g : Int)))):=by
 have hrow : g<(T.C[c]).length:=by rw[(hv.2.2.2.2.1 _ (List.getElem_mem hc)).1];exact hg
 have hwi:=(hv.2.2.2.2.1 _ (List.getElem_mem hc)).2 _ (List.getElem_mem hrow)
 have hn':=hn
 rw[gd hc,gd hrow] at hn'
 have hf':=wT_fit (g:=g) (v:=(n,n)) hc hf
 have hv':=wT_val (g:=g) (v:=(n,n)) hc hv ⟨by have:=hn'.1;have:=hwi.1;simp only;omega,Int.le_refl _,by have:=hn'.2;have:=hwi.2.2;simp only;omega⟩
 refine⟨⟨hf',hv'⟩,?_⟩
 obtain⟨v,w1,_,_,_,w5⟩:=bnd_iff hf hv hok hc hg
 rw[va0_some w1,w5]
 constructor
 ·intro h
  obtain⟨s,hs⟩:=ok_tru hf' hv' h
  have:=(wT_tru hv hc hg hn).1 hs
  exact⟨s,this.1,this.2⟩
 ·rintro⟨s,hs,e⟩
  exact tru_ok hf' hv' ((wT_tru hv hc hg hn).2 ⟨hs,e⟩)
theorem bnd_own {T : Tb} {c g : Nat} (hf : fit T) (hv : val T) (hok : ok T u0) (hc : c<T.C.length) (hg : g<grp T) : ((T.C.getD c []).getD g (0,0)).1≤(va0 (bnd T u0) ((c : Int),(g : Int))).1∧(va0 (bnd T u0) ((c : Int),(g : Int))).1≤(va0 (bnd T u0) ((c : Int),(g : Int))).2∧(va0 (bnd T u0) ((c : Int),(g : Int))).2≤((T.C.getD c []).getD g (0,0)).2:=by
 obtain⟨v,w1,_,w3,_,w5⟩:=bnd_iff hf hv hok hc hg
 rw[va0_some w1]
 obtain⟨s,hs,e⟩:=(w5 v.1).1 ⟨Int.le_refl _,w3⟩
 obtain⟨s',hs',e'⟩:=(w5 v.2).1 ⟨w3,Int.le_refl _⟩
 have h1:=hs.own c g hc hg
 have h2:=hs'.own c g hc hg
 rw[e] at h1
 rw[e'] at h2
 unfold cns at h1 h2
 rw[if_neg (by simp)] at h1 h2
 exact⟨h1.1,w3,h2.2⟩
end Go.Xe.TFX
