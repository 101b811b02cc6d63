/- Truths that are picked: what they are. Conditions: none. -/
import Derived.Test.YtbbdafmehaohkaaTGH
import Derived.Test.YtbbdafmehaohkaaTGI
import Derived.Test.YtbbdafmehaohkaaTKA
-- MOD TF
namespace Go.Xe.TFX
open Go Go.Xe Go.Proofs
open Nat renaming reduceLeDiff → qA, reduceSub → qB, reduceAdd → qC, reduceEqDiff → qD, reduceLT → qE
open Int renaming reduceNegSucc → qF, reduceEq → qG
open Go.Xe.V renaming seq → sA, block → sB, scope → sC, skip → sD, close → sE
open Go.Xe renaming pth → P
open Go.Xe.Flw
set_option maxRecDepth 100000
set_option maxHeartbeats 3200000
set_option linter.unusedSimpArgs false
theorem dd_e {r : R2} {x : Int} (hr : isRate r) (h0 : 0≤x) (h1 : x≤1000000) : dd x r=(x*r.1/1000,(x*r.2+999)/1000):=by
 obtain⟨a,b,c⟩:=hr
 have m1:=Int.mul_nonneg h0 a
 have m2:=Int.mul_nonneg h0 (Int.le_trans a b)
 have m3 : x*r.2≤1000000*1000:=Int.mul_le_mul h1 c (Int.le_trans a b) (by omega)
 have m4 : x*r.1≤1000000*1000:=Int.mul_le_mul h1 (Int.le_trans b c) a (by omega)
 have e1 : W (x*r.1)=x*r.1:=wrap_i64 (by omega) (by omega)
 have e2 : W (x*r.2)=x*r.2:=wrap_i64 (by omega) (by omega)
 have e3 : W (x*r.2+999)=x*r.2+999:=wrap_i64 (by omega) (by omega)
 have t1 : (x*r.1).tdiv 1000=x*r.1/1000:=Int.tdiv_eq_ediv_of_nonneg m1
 have t2 : (x*r.2+999).tdiv 1000=(x*r.2+999)/1000:=Int.tdiv_eq_ediv_of_nonneg (by omega)
 unfold dd
 simp only[e1,e2,e3,t1,t2]
 generalize x*r.1=p at *
 generalize x*r.2=q at *
 have w1 : W (p/1000)=p/1000:=wrap_i64 (by omega) (by omega)
 have w2 : W ((q+999)/1000)=(q+999)/1000:=wrap_i64 (by omega) (by omega)
 rw[w1,w2]
theorem dd_in {r : R2} {x : Int} (hr : isRate r) (h0 : 0≤x) (h1 : x≤1000000) : 0≤(dd x r).1∧(dd x r).1≤(dd x r).2∧(dd x r).2≤x∧few r x=x-(dd x r).2∧mst r x=x-(dd x r).1:=by
 have h2:=few_nn hr h0
 have h3:=mst_le hr h0
 have h4:=few_mst hr h0
 rw[dd_e hr h0 h1]
 unfold few mst at *
 have m1:=Int.mul_nonneg h0 hr.1
 simp only
 exact⟨by omega,by omega,by omega,trivial,trivial⟩
def pF (T : Tb) (ws : List Int) : List Int:=(List.range (grp T)).map fun g=>pk ((T.C.getD 0 []).getD g (0,0)) (wd ws g)
def pb (T : Tb) (ws : List Int) (c : Nat) : Int:=pk (T.B.getD c (0,0)) (wd ws (c+4))
def pB (T : Tb) (ws : List Int) (k : Nat) : List Int:=(List.range k).map (pb T ws)
def pm (T : Tb) (ws : List Int) (c g : Nat) : Int:=pk (T.N.getD g (0,0)) (wd ws (3*c+g+7))
def pM (T : Tb) (ws : List Int) (k : Nat) : List (List Int):=(List.range k).map fun c=>(List.range (grp T)).map (pm T ws c)
def pd (T : Tb) (ws : List Int) (c : Nat) (all : List Int) (i : Nat) : Int:=pk (dd (max 0 (all.getD i 0)) (T.Rt.getD i (0,0))) (wd ws (5*c+i+11))
def pX (T : Tb) (ws : List Int) (D : List (List Int)) (k : Nat) : Tr:=⟨pF T ws,pB T ws k,D,pM T ws k⟩
def pA (T : Tb) (ws : List Int) (D : List (List Int)) (c : Nat) : List Int:=pb T ws c::rw (pX T ws D c) c
def pD (T : Tb) (ws : List Int) : Nat→List (List Int)
 | 0=>[]
 | c+1=>pD T ws c++[(List.range (grp T+1)).map (pd T ws c (pA T ws (pD T ws c) c))]
def pT (T : Tb) (ws : List Int) : Tr:=pX T ws (pD T ws T.B.length) T.B.length
theorem pD_len (T : Tb) (ws : List Int) : ∀ c,(pD T ws c).length=c
 | 0=>rfl
 | c+1=>by simp[pD,pD_len T ws c]
theorem pD_row (T : Tb) (ws : List Int) : ∀ c,∀ row∈pD T ws c,row.length=grp T+1
 | 0=>by simp[pD]
 | c+1=>fun row h=>by
  rcases List.mem_append.1 h with h|h
  ·exact pD_row T ws c row h
  ·rw[List.mem_singleton.1 h];simp
theorem rw_cong {X Y : Tr} (hF : X.F=Y.F) : ∀ {c : Nat},(∀ j,j<c→X.B.getD j 0=Y.B.getD j 0∧X.D.getD j []=Y.D.getD j []∧X.M.getD j []=Y.M.getD j [])→rw X c=rw Y c
 | 0,_=>hF
 | c+1,h=>by
  obtain⟨h1,h2,h3⟩:=h c (Nat.lt_succ_self _)
  have:=rw_cong hF (c:=c) (fun j hj=>h j (by omega))
  unfold rw
  rw[h1,h2,h3,this]
theorem getD_map_range {α : Type} {f : Nat→α} {k j : Nat} (h : j<k) (d : α) : ((List.range k).map f).getD j d=f j:=by
 rw[gd (by simpa using h)]
 simp
theorem getD_app {α : Type} {l r : List α} {j : Nat} (h : j<l.length) (d : α) : (l++r).getD j d=l.getD j d:=by
 rw[List.getD_eq_getElem?_getD,List.getD_eq_getElem?_getD,List.getElem?_append_left h]
theorem rw_p {T : Tb} {ws : List Int} {D : List (List Int)} {c k : Nat} (hc : c≤k) (hD : ∀ j,j<c→D.getD j []=(pD T ws c).getD j []) : rw (pX T ws D k) c=rw (pX T ws (pD T ws c) c) c:=by
 refine rw_cong (X:=pX T ws D k) (Y:=pX T ws (pD T ws c) c) rfl (fun j hj=>⟨?_,hD j hj,?_⟩)
 ·show (pB T ws k).getD j 0=(pB T ws c).getD j 0
  unfold pB
  rw[getD_map_range (by omega),getD_map_range hj]
 ·show (pM T ws k).getD j []=(pM T ws c).getD j []
  unfold pM
  rw[getD_map_range (by omega),getD_map_range hj]
theorem pD_pre (T : Tb) (ws : List Int) {c : Nat} : ∀ {k : Nat},c≤k→∀ j,j<c→(pD T ws k).getD j []=(pD T ws c).getD j []
 | 0,h,j,hj=>by omega
 | k+1,h,j,hj=>by
  by_cases hk : c=k+1
  ·rw[hk]
  ·rw[pD,getD_app (by rw[pD_len];omega)]
   exact pD_pre T ws (by omega) j hj
theorem nxk_bd {be de mo : List Int} {M : Int} (h0 : 0≤M) (hM : M≤1000000) (hm : ∀ g,-50≤mo.getD g 0∧mo.getD g 0≤50) (hd : ∀ i,-M≤be.getD i 0-de.getD i 0∧be.getD i 0-de.getD i 0≤M) (hl : 0<mo.length) : ∀ k,k≤10→∀ g,-(50+k*M)≤(nxk be de mo k).getD g 0∧(nxk be de mo k).getD g 0≤50+k*M
 | 0,_,g=>by
  have:=hm g
  simp only[nxk]
  omega
 | k+1,hk,g=>by
  have ih:=nxk_bd h0 hM hm hd hl k (by omega)
  have h1:=ih (min k (mo.length-1))
  have h2:=hd k
  have h3:=ih g
  have e0 : ((k+1 : Nat) : Int)*M=k*M+M:=by rw[Int.natCast_add,Int.add_mul];simp
  have hkm : (k : Int)*M≤10*1000000:=Int.mul_le_mul (by omega) hM h0 (by omega)
  have hk0 : 0≤(k : Int)*M:=Int.mul_nonneg (by omega) h0
  have e1 : W (be.getD k 0-de.getD k 0)=be.getD k 0-de.getD k 0:=wrap_i64 (by omega) (by omega)
  have e2 : W ((nxk be de mo k).getD (min k (mo.length-1)) 0+(be.getD k 0-de.getD k 0))=(nxk be de mo k).getD (min k (mo.length-1)) 0+(be.getD k 0-de.getD k 0):=wrap_i64 (by omega) (by omega)
  simp only[nxk]
  rw[getD_set (by rw[nxk_len];omega),e1,e2,e0]
  split<;>omega
def pbd (c : Nat) : Int:=1000*6 ^ c
theorem pbd_s (c : Nat) : pbd (c+1)=6*pbd c:=by unfold pbd;rw[Int.pow_succ];omega
theorem pbd_0 (c : Nat) : 1000≤pbd c:=by
 induction c with
 | zero=>decide
 | succ c ih=>rw[pbd_s];omega
theorem pbd_4 {c : Nat} (h : c<4) : pbd c≤216000:=by
 match c,h with
 | 0,_=>decide
 | 1,_=>decide
 | 2,_=>decide
 | 3,_=>decide
theorem pF_in {T : Tb} (hv : val T) (ws : List Int) : okFs (pF T ws):=by
 intro n hn
 obtain⟨g,hg,rfl⟩:=List.mem_map.1 hn
 have hg:=List.mem_range.1 hg
 have hK : 0<T.C.length:=by have:=hv.2.1;omega
 have hr:=hv.2.2.2.2.1 _ (List.getElem_mem hK)
 rw[gd hK,gd (by omega)]
 obtain⟨a,b,c⟩:=hr.2 _ (List.getElem_mem (show g<(T.C[0]).length by omega))
 have:=pk_in (w:=wd ws g) b
 omega
theorem pb_in {T : Tb} (hv : val T) (ws : List Int) {c : Nat} (hc : c<T.B.length) : (T.B[c]).1≤pb T ws c∧pb T ws c≤(T.B[c]).2∧0≤pb T ws c∧pb T ws c≤500:=by
 obtain⟨a,b,d⟩:=hv.2.2.2.2.2.1 _ (List.getElem_mem hc)
 have:=pk_in (w:=wd ws (c+4)) b
 unfold pb
 rw[gd hc]
 omega
theorem pm_in {T : Tb} (hv : val T) (ws : List Int) {c g : Nat} (hg : g<T.N.length) : (T.N[g]).1≤pm T ws c g∧pm T ws c g≤(T.N[g]).2∧-50≤pm T ws c g∧pm T ws c g≤50:=by
 obtain⟨a,b,d⟩:=hv.2.2.2.2.2.2.2 _ (List.getElem_mem hg)
 have:=pk_in (w:=wd ws (3*c+g+7)) b
 unfold pm
 rw[gd hg]
 omega
theorem pd_in {T : Tb} (hv : val T) (ws : List Int) (c : Nat) {all : List Int} {i : Nat} {M : Int} (hi : i<T.Rt.length) (hM : M≤1000000) (h : -M≤all.getD i 0∧all.getD i 0≤M) : (dd (max 0 (all.getD i 0)) T.Rt[i]).1≤pd T ws c all i∧pd T ws c all i≤(dd (max 0 (all.getD i 0)) T.Rt[i]).2∧-M≤all.getD i 0-pd T ws c all i∧all.getD i 0-pd T ws c all i≤M:=by
 obtain⟨a,b,d,_⟩:=dd_in (r:=T.Rt[i]) (x:=max 0 (all.getD i 0)) (hv.2.2.2.2.2.2.1 _ (List.getElem_mem hi)) (by omega) (by omega)
 have:=pk_in (w:=wd ws (5*c+i+11)) b
 unfold pd
 rw[gd hi]
 omega
theorem rw_bd {T : Tb} {ws : List Int} (hf : fit T) (hv : val T) : ∀ {c : Nat},c≤T.B.length→(rw (pX T ws (pD T ws c) c) c).length=grp T∧∀ g,-pbd c≤(rw (pX T ws (pD T ws c) c) c).getD g 0∧(rw (pX T ws (pD T ws c) c) c).getD g 0≤pbd c
 | 0,_=>by
  refine⟨by simp[rw,pX,pF],fun g=>?_⟩
  have e : rw (pX T ws (pD T ws 0) 0) 0=pF T ws:=rfl
  rw[e]
  have h0:=pbd_0 0
  by_cases hg : g<(pF T ws).length
  ·rw[gd hg]
   have:=pF_in hv ws _ (List.getElem_mem hg)
   omega
  ·rw[List.getD_eq_getElem?_getD,List.getElem?_eq_none (by omega)]
   simp only[Option.getD_none]
   omega
 | c+1,hc=>by
  obtain⟨i1,i2⟩:=rw_bd hf hv (ws:=ws) (c:=c) (by omega)
  have e:=rw_p (T:=T) (ws:=ws) (D:=pD T ws (c+1)) (c:=c) (k:=c+1) (by omega) (fun j hj=>pD_pre T ws (by omega) j hj)
  have hf2:=hf.2
  have hf1:=hf.1
  have hv1:=hv.1
  have hvB:=hv.2.1
  have hvR:=hv.2.2.1
  have hvN:=hv.2.2.2.1
  have hb4:=pbd_4 (show c<4 by omega)
  have hb0:=pbd_0 c
  have ed : (pX T ws (pD T ws (c+1)) (c+1)).D.getD c []=(List.range (grp T+1)).map (pd T ws c (pA T ws (pD T ws c) c)):=by
   show (pD T ws c++[_]).getD c []=_
   rw[List.getD_eq_getElem?_getD,List.getElem?_append_right (by rw[pD_len];exact Nat.le_refl _),pD_len,Nat.sub_self]
   rfl
  have eb : (pX T ws (pD T ws (c+1)) (c+1)).B.getD c 0=pb T ws c:=by
   show (pB T ws (c+1)).getD c 0=_
   unfold pB
   exact getD_map_range (by omega) 0
  have em : (pX T ws (pD T ws (c+1)) (c+1)).M.getD c []=(List.range (grp T)).map (pm T ws c):=by
   show (pM T ws (c+1)).getD c []=_
   unfold pM
   exact getD_map_range (by omega) []
  have er : rw (pX T ws (pD T ws (c+1)) (c+1)) (c+1)=nxt (pA T ws (pD T ws c) c) ((List.range (grp T+1)).map (pd T ws c (pA T ws (pD T ws c) c))) ((List.range (grp T)).map (pm T ws c)):=by
   show nxt _ _ _=_
   rw[ed,eb,em,e]
   rfl
  rw[er]
  have hal : (pA T ws (pD T ws c) c).length=grp T+1:=by simp[pA,i1]
  have hA : ∀ i,-pbd c≤(pA T ws (pD T ws c) c).getD i 0∧(pA T ws (pD T ws c) c).getD i 0≤pbd c:=by
   intro i
   cases i with
   | zero=>
    have:=pb_in hv ws (c:=c) (by omega)
    show -pbd c≤pb T ws c∧pb T ws c≤pbd c
    omega
   | succ i=>exact i2 i
  refine⟨by unfold nxt;rw[nxk_len];simp,fun g=>?_⟩
  have hb:=nxk_bd (be:=pA T ws (pD T ws c) c) (de:=(List.range (grp T+1)).map (pd T ws c (pA T ws (pD T ws c) c))) (mo:=(List.range (grp T)).map (pm T ws c)) (M:=pbd c) (by omega) (by omega) (fun g=>by
   by_cases hg : g<grp T
   ·rw[getD_map_range hg]
    have:=pm_in hv ws (c:=c) (g:=g) (by omega)
    omega
   ·rw[List.getD_eq_getElem?_getD,List.getElem?_eq_none (by simp;omega)]
    simp) (fun i=>by
   by_cases hi : i<grp T+1
   ·rw[getD_map_range hi]
    have:=pd_in hv ws c (i:=i) (by omega) (show pbd c≤1000000 by omega) (hA i)
    exact⟨this.2.2.1,this.2.2.2⟩
   ·have h1 : ((List.range (grp T+1)).map (pd T ws c (pA T ws (pD T ws c) c))).getD i 0=0:=by
     rw[List.getD_eq_getElem?_getD,List.getElem?_eq_none (by simp;omega)]
     rfl
    rw[h1]
    have:=hA i
    omega) (by simp;omega) (grp T+1) (by omega) g
  unfold nxt
  rw[hal,pbd_s]
  have hmul : ((grp T+1 : Nat) : Int)*pbd c≤5*pbd c:=Int.mul_le_mul_of_nonneg_right (by omega) (by omega)
  omega
theorem hld_p {T T' : Tb} {ws : List Int} {D : List (List Int)} {k : Nat} (hv : val T) (hg : grp T'=grp T) (hk : k≤T.B.length) (hB : T'.B=T.B.take k) (hR : T'.Rt=T.Rt) (hN : T'.N=T.N) (hD : D.length=k) (hr : ∀ row∈D,row.length=grp T+1) : hld T' (pX T ws D k):=by
 have hvR:=hv.2.2.1
 have hvN:=hv.2.2.2.1
 have hbl : T'.B.length=k:=by rw[hB,List.length_take];omega
 refine⟨by simp[pX,pF,hg],pF_in hv ws,⟨by simp[pX,pB,hbl],fun p hp=>?_⟩,by rw[hbl];exact hD,fun row h=>by rw[hR,hvR];exact hr row h,by simp[pX,pM,hbl],fun row h=>?_⟩
 ·obtain⟨j,hj,rfl⟩:=List.mem_iff_getElem.1 hp
  have hjk : j<k:=by
   rw[List.length_zip] at hj
   omega
  have h1 : (pB T ws k)[j]?=some (pb T ws j):=by simp[pB,hjk]
  have h2 : T'.B[j]?=some T.B[j]:=by rw[hB,List.getElem?_take,if_pos hjk];simp
  have h3 : (T'.B.zip (pX T ws D k).B)[j]?=some (T.B[j],pb T ws j):=by
   show (T'.B.zip (pB T ws k))[j]?=_
   rw[List.getElem?_zip_eq_some]
   exact⟨h2,h1⟩
  rw[List.getElem?_eq_getElem hj,Option.some.injEq] at h3
  rw[h3]
  have:=pb_in hv ws (c:=j) (by omega)
  exact⟨this.1,this.2.1⟩
 ·obtain⟨c,hc,rfl⟩:=List.mem_map.1 h
  rw[hN]
  refine⟨by simp[hvN],fun p hp=>?_⟩
  obtain⟨j,hj,rfl⟩:=List.mem_iff_getElem.1 hp
  have hjk : j<T.N.length:=by
   rw[List.length_zip] at hj
   omega
  have h1 : ((List.range (grp T)).map (pm T ws c))[j]?=some (pm T ws c j):=by
   rw[List.getElem?_map,List.getElem?_range (by omega)]
   rfl
  have h3 : (T.N.zip ((List.range (grp T)).map (pm T ws c)))[j]?=some (T.N[j],pm T ws c j):=by
   rw[List.getElem?_zip_eq_some]
   exact⟨by simp,h1⟩
  rw[List.getElem?_eq_getElem hj,Option.some.injEq] at h3
  rw[h3]
  have:=pm_in hv ws (c:=c) hjk
  exact⟨this.1,this.2.1⟩
def sT (T : Tb) (c : Nat) : Tb:=⟨T.C.take (c+2),T.B.take (c+1),T.Rt,T.N⟩
theorem sT_grp (T : Tb) (c : Nat) : grp (sT T c)=grp T:=by
 unfold grp sT
 cases T.C<;>rfl
theorem sT_fit {T : Tb} (hf : fit T) (c : Nat) : fit (sT T c):=by
 refine⟨?_,by rw[sT_grp];exact hf.2⟩
 have:=hf.1
 show (T.C.take (c+2)).length≤4
 rw[List.length_take]
 omega
theorem sT_val {T : Tb} (hv : val T) {c : Nat} (hc : c<T.B.length) : val (sT T c):=by
 obtain⟨v1,v2,v3,v4,v5,v6,v7,v8⟩:=hv
 unfold val
 rw[sT_grp]
 refine⟨v1,?_,v3,v4,fun row h=>v5 row (List.mem_of_mem_take h),fun r h=>v6 r (List.mem_of_mem_take h),v7,v8⟩
 show (T.B.take (c+1)).length+1=(T.C.take (c+2)).length
 rw[List.length_take,List.length_take]
 omega
end Go.Xe.TFX
/- Rules of reasoning over the executable reading of the model's code (part Z26): the first elements of a slice that came in. Conditions: none; for every program. -/
namespace Go.Xe
open Go
def Ro (A : Heap) : Prop:=∀ i c el rw,i<A.next→A.cellsAt i=some (c,el,rw)→rw=false
theorem ro_of {w : World} {A : Heap} (h : Abs w A) : Ro A:=by
 intro i c el rw hi hc
 unfold Heap.cellsAt at hc
 rw[h.2 i,if_pos (by rw[← h.1];exact hi)] at hc
 unfold absO at hc
 cases hw : w.heap[i]? with
 | none=>rw[hw] at hc;simp at hc
 | some o=>
  rw[hw] at hc
  cases o with
  | cells c' el' fz=>
   simp only[Option.some.injEq,Prod.mk.injEq] at hc
   exact hc.2.2.symm
  | _=>simp at hc
section
variable {P : Program} {A : Heap} {e : TypeId} {k : Nat}
theorem xb_hi {n c : Nat} (h : k≤n) (hn : n≤c) (d : Nat) : xbound (some (.int .i64 (k : Int))) d c=some k:=by
 simp only[xbound]
 rw[if_pos ⟨by omega,by omega⟩]
 simp
theorem Sl.take {v : Value} {l : List Value} (h : Sl A v l) (hr : Ro A) (hk : k≤l.length) : ∃ y,∀ X,Grow A X→yslice P e 1 X v none (some (.int .i64 (k : Int)))=some y∧Sl X y (l.take k):=by
 cases h with
 | nil=>
  have : k=0:=by simpa using hk
  subst this
  exact⟨_,fun X _=>⟨rfl,.nil⟩⟩
 | spot i o s=>
  have : k=0:=by simpa using hk
  subst this
  exact⟨_,fun X _=>⟨rfl,.spot i o s⟩⟩
 | «at» hi hc hn hl hs hv=>
  rename_i i o n c a el rw
  have hrw:=hr i a el rw hi hc
  by_cases hc0 : c=0
  ·have : k=0:=by omega
   subst this
   refine⟨.slice (some ⟨i,o,some 0⟩) 0 0,fun X g=>⟨?_,.spot i o 0⟩⟩
   have hX:=(g.cells hi).trans hc
   simp only[yslice,hX]
   rw[if_pos (.inl hrw),xb_hi (n:=n) (by omega) hn]
   simp only[xbound]
   rw[if_pos hc0]
  ·refine⟨.slice (some ⟨i,o+0*1,none⟩) (k-0) (c-0),fun X g=>?_⟩
   have hX:=(g.cells hi).trans hc
   refine⟨?_,?_⟩
   ·simp only[yslice,hX]
    rw[if_pos (.inl hrw),xb_hi (n:=n) (by omega) hn]
    simp only[xbound]
    rw[if_neg hc0]
   ·simp only[Nat.zero_mul,Nat.add_zero,Nat.sub_zero]
    refine .at (Nat.lt_of_lt_of_le hi g.1) hX (by omega) (by rw[List.length_take];omega) (by omega) (fun j x hj=>hv j x ?_)
    rw[List.getElem?_take] at hj
    split at hj
    ·exact hj
    ·cases hj
theorem Sw.take {w : Nat} {v : Value} {l : List (List Value)} (h : Sw w A v l) (hr : Ro A) (hk : k≤l.length) : ∃ y,∀ X,Grow A X→yslice P e w X v none (some (.int .i64 (k : Int)))=some y∧Sw w X y (l.take k):=by
 cases h with
 | nil=>
  have : k=0:=by simpa using hk
  subst this
  exact⟨_,fun X _=>⟨rfl,.nil⟩⟩
 | spot i o s=>
  have : k=0:=by simpa using hk
  subst this
  exact⟨_,fun X _=>⟨rfl,.spot i o s⟩⟩
 | «at» hi hc hn hl hs hv=>
  rename_i i o n c a el rw
  have hrw:=hr i a el rw hi hc
  by_cases hc0 : c=0
  ·have : k=0:=by omega
   subst this
   refine⟨.slice (some ⟨i,o,some 0⟩) 0 0,fun X g=>⟨?_,.spot i o 0⟩⟩
   have hX:=(g.cells hi).trans hc
   simp only[yslice,hX]
   rw[if_pos (.inl hrw),xb_hi (n:=n) (by omega) hn]
   simp only[xbound]
   rw[if_pos hc0]
  ·refine⟨.slice (some ⟨i,o+0*w,none⟩) (k-0) (c-0),fun X g=>?_⟩
   have hX:=(g.cells hi).trans hc
   refine⟨?_,?_⟩
   ·simp only[yslice,hX]
    rw[if_pos (.inl hrw),xb_hi (n:=n) (by omega) hn]
    simp only[xbound]
    rw[if_neg hc0]
   ·simp only[Nat.zero_mul,Nat.add_zero,Nat.sub_zero]
    have hm : k*w≤n*w:=Nat.mul_le_mul_right w (by omega)
    refine .at (Nat.lt_of_lt_of_le hi g.1) hX (by omega) (by rw[List.length_take];omega) (by omega) (fun j x hj=>hv j x ?_)
    rw[List.getElem?_take] at hj
    split at hj
    ·exact hj
    ·cases hj
theorem Nest.take {α : Type} {R : Heap→Value→α→Prop} (hR : RP R) {v : Value} {L : List α} (h : Nest R A v L) (hr : Ro A) (hk : k≤L.length) : ∃ y,∀ X,Grow A X→yslice P e 1 X v none (some (.int .i64 (k : Int)))=some y∧Nest R X y (L.take k):=by
 obtain⟨vs,h1,h2,h3⟩:=h
 obtain⟨y,k1⟩:=h1.take (P:=P) (e:=e) hr (k:=k) (by omega)
 refine⟨y,fun X g=>⟨(k1 X g).1,vs.take k,(k1 X g).2,by simp[h2],fun j x r hx hr'=>?_⟩⟩
 rw[List.getElem?_take] at hx hr'
 split at hx
 ·rename_i hj
  rw[if_pos hj] at hr'
  exact hR.grow g (h3 j x r hx hr')
 ·cases hx
end
end Go.Xe
