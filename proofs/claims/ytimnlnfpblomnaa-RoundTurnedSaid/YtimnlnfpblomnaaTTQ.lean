/- What the functions of the layer round come to: a count is in the range that a reader concludes (RoundKnown). Conditions: none. -/
import Derived.Test.YtimnlnfpblomnaaTTI
import Derived.Test.YtimnlnfpblomnaaTRZ
-- MOD TR
namespace Go.Xe.TRX
open Go Go.Xe Go.Proofs
open Nat renaming reduceLeDiff → qA, reduceSub → qB, reduceAdd → qC, reduceEqDiff → qD, reduceLT → qE
open Int renaming reduceNegSucc → qF, reduceEq → qG
open Go.Xe.V renaming seq → sA, block → sB, scope → sC, skip → sD, close → sE
open Go.Xe renaming pth → P
open Go.Xe.Rnd
set_option maxRecDepth 100000
set_option maxHeartbeats 1600000
set_option linter.unusedSimpArgs false
theorem rnds_can {T : Tb} (hv : valid T) {N : List (List Int)} (h : N∈rnds T) : can T N∧isr T N:=by
 obtain⟨⟨h1,h2⟩,h3⟩:=rnds_mem.1 h
 refine⟨⟨h1,fun row hr=>⟨h2 row hr,fun v hv'=>?_⟩⟩,h3⟩
 obtain⟨i,hi,rfl⟩:=List.mem_iff_getElem.1 hr
 obtain⟨j,hj,rfl⟩:=List.mem_iff_getElem.1 hv'
 have:=(h3.1 i hi).1 j (by rw[gdl hi];exact hj)
 rw[gdl hi,List.getD_eq_getElem?_getD,List.getElem?_eq_getElem hj] at this
 exact rd_bd hv.1 (cell_bd hv i j) this
theorem best_mem {T : Tb} (h : rnds T≠[]) : (best T).b∈rnds T:=rsf_mem h
end Go.Xe.TRX
/- What the functions of the layer round come to: the table of neighbours with a number. Conditions: none. -/
-- MOD TR
namespace Go.Xe.TRX
open Go Go.Xe Go.Proofs
open Nat renaming reduceLeDiff → qA, reduceSub → qB, reduceAdd → qC, reduceEqDiff → qD, reduceLT → qE
open Int renaming reduceNegSucc → qF, reduceEq → qG
open Go.Xe.V renaming seq → sA, block → sB, scope → sC, skip → sD, close → sE
open Go.Xe renaming pth → P
open Go.Xe.Rnd
set_option maxRecDepth 100000
set_option maxHeartbeats 1600000
set_option linter.unusedSimpArgs false
def nN (b n q : Int) : Int:=if 0<n.tmod b then q.tdiv 2 else q
def cl (l : List Int) : Nat×List Value:=(l.length,Li l)
theorem Li_app (a b : List Int) : Li (a++b)=Li a++Li b:=by simp[Li]
end Go.Xe.TRX
/- What the functions of the layer round come to: no rounding is better than the best one (RoundLeast). Conditions: none. -/
-- MOD TR
namespace Go.Xe.TRX
open Go Go.Xe Go.Proofs
open Nat renaming reduceLeDiff → qA, reduceSub → qB, reduceAdd → qC, reduceEqDiff → qD, reduceLT → qE
open Int renaming reduceNegSucc → qF, reduceEq → qG
open Go.Xe.V renaming seq → sA, block → sB, scope → sC, skip → sD, close → sE
open Go.Xe renaming pth → P
open Go.Xe.Rnd
set_option maxRecDepth 100000
set_option maxHeartbeats 1600000
set_option linter.unusedSimpArgs false
theorem Bf_irr (a : List (List Int)) : ¬ Bf a a:=fun h=>Bf_ne h h
theorem best_least {T : Tb} (hv : valid T) {N : List (List Int)} (h : N∈rnds T) : (best T).c≤chg T.C N∧((best T).c=chg T.C N→¬ Bf N (best T).b):=by
 have h0 : rnds T≠[]:=by rintro e;rw[e] at h;simp at h
 obtain⟨A,B,h1,h2,h3,h4⟩:=rsf_spec (chg T.C) (rnds T) h0
 refine⟨rsf_le h,fun he hb=>?_⟩
 have hs : (rnds T).Pairwise Bf:=fol_sort hv
 have h':=h
 rw[h1] at h hs
 rcases List.mem_append.1 h with h|h
 ·have:=h3 N h
  unfold best at he
  omega
 ·rcases List.mem_cons.1 h with e|h
  ·rw[e] at hb
   exact Bf_irr _ hb
  ·exact Bf_ne hb ((List.pairwise_cons.1 (List.pairwise_append.1 hs).2.1).1 N h)
end Go.Xe.TRX
/- What the functions of the layer round come to: each number of a rounding is in its range (RoundAll). Conditions: none. -/
-- MOD TR
namespace Go.Xe.TRX
open Go Go.Xe Go.Proofs
open Nat renaming reduceLeDiff → qA, reduceSub → qB, reduceAdd → qC, reduceEqDiff → qD, reduceLT → qE
open Int renaming reduceNegSucc → qF, reduceEq → qG
open Go.Xe.V renaming seq → sA, block → sB, scope → sC, skip → sD, close → sE
open Go.Xe renaming pth → P
open Go.Xe.Rnd
set_option maxRecDepth 100000
set_option maxHeartbeats 1600000
set_option linter.unusedSimpArgs false
end Go.Xe.TRX
/- Tables whose lines add up to nothing can be rounded so that they still do. Conditions: none. -/
namespace Go.Xe.Rnd
def ls (Z : List Nat) (p : Nat→Nat) (r : Nat) (d : Nat→Int) : Int:=sm (Z.map fun z=>if p z=r then d z else 0)
section
variable {Z : List Nat} {p : Nat→Nat} {r : Nat} {d e : Nat→Int}
end
end Go.Xe.Rnd
/- Tables whose lines add up to nothing can be rounded so that they still do: the rounding. Conditions: none. -/
namespace Go.Xe.Rnd
theorem first {σ a : Nat→Int} : ∀ {W : List Nat},W≠[]→(∀ z∈W,0<a z)→∃ w∈W,∀ z∈W,σ w*a z≤σ z*a w
 | [],h,_=>absurd rfl h
 | v::W,_,ha=>by
  by_cases h0 : W=[]
  ·subst h0
   refine⟨v,by simp,fun z hz=>?_⟩
   rw[List.mem_singleton] at hz
   rw[hz];exact Int.le_refl _
  ·obtain⟨w,hw,hm⟩:=first h0 (fun z hz=>ha z (by simp[hz]))
   have aw:=ha w (by simp[hw])
   have av:=ha v (by simp)
   by_cases hc : σ w*a v≤σ v*a w
   ·refine⟨w,by simp[hw],fun z hz=>?_⟩
    rcases List.mem_cons.1 hz with rfl|hz
    ·exact hc
    ·exact hm z hz
   ·refine⟨v,by simp,fun z hz=>?_⟩
    rcases List.mem_cons.1 hz with rfl|hz
    ·exact Int.le_refl _
    ·have h1:=hm z hz
     have az:=ha z (by simp[hz])
     refine Int.le_of_mul_le_mul_right (a:=a w) ?_ aw
     have h2 : σ v*a w≤σ w*a v:=by omega
     have h3 : σ v*a w*a z≤σ w*a v*a z:=Int.mul_le_mul_of_nonneg_right h2 (Int.le_of_lt az)
     have h4 : σ w*a z*a v≤σ z*a w*a v:=Int.mul_le_mul_of_nonneg_right h1 (Int.le_of_lt av)
     have e1 : σ v*a z*a w=σ v*a w*a z:=by rw[Int.mul_assoc,Int.mul_comm (a z),← Int.mul_assoc]
     have e2 : σ w*a v*a z=σ w*a z*a v:=by rw[Int.mul_assoc,Int.mul_comm (a v),← Int.mul_assoc]
     have e3 : σ z*a w*a v=σ z*a v*a w:=by rw[Int.mul_assoc,Int.mul_comm (a w),← Int.mul_assoc]
     rw[e1,← e3]
     rw[e2] at h3
     exact Int.le_trans h3 h4
end Go.Xe.Rnd
/- A table without fixes has a rounding. Conditions: none. -/
namespace Go.Xe.TRX
open Go Go.Xe Go.Proofs
open Go.Xe.Rnd
def sumR (w : Nat) (f : Nat→Int) : Int:=sm ((List.range w).map f)
theorem sumR_s (w : Nat) (f : Nat→Int) : sumR (w+1) f=sumR w f+f w:=by
 unfold sumR
 rw[List.range_succ,List.map_append,sm_app]
 show _+(f w+0)=_
 rw[Int.add_zero]
theorem sumR_congr {f g : Nat→Int} : ∀ {w : Nat},(∀ j,j<w→f j=g j)→sumR w f=sumR w g
 | 0,_=>rfl
 | w+1,h=>by rw[sumR_s,sumR_s,sumR_congr (fun j hj=>h j (by omega)),h w (by omega)]
theorem sumR_add (f g : Nat→Int) : ∀ w,sumR w (fun j=>f j+g j)=sumR w f+sumR w g
 | 0=>rfl
 | w+1=>by rw[sumR_s,sumR_s,sumR_s,sumR_add f g w];omega
theorem sumR_zero : ∀ w,sumR w (fun _=>0)=0
 | 0=>rfl
 | w+1=>by rw[sumR_s,sumR_zero w];rfl
theorem sumR_swap (a : Nat→Nat→Int) (m : Nat) : ∀ n,sumR n (fun i=>sumR m (a i))=sumR m (fun j=>sumR n (fun i=>a i j))
 | 0=>(sumR_zero m).symm
 | n+1=>by
  rw[sumR_s,sumR_swap a m n]
  have : sumR m (fun j=>sumR (n+1) (fun i=>a i j))=sumR m (fun j=>sumR n (fun i=>a i j)+a n j):=sumR_congr (fun j _=>sumR_s _ _)
  rw[this,sumR_add]
theorem sm_R : ∀ (l : List Int),sm l=sumR l.length (fun j=>l.getD j 0)
 | []=>rfl
 | x::l=>by
  have h : ∀ w,sumR (w+1) (fun j=>(x::l).getD j 0)=x+sumR w (fun j=>l.getD j 0):=by
   intro w
   induction w with
   | zero=>
    rw[sumR_s]
    show 0+x=x+0
    omega
   | succ w ih=>
    rw[sumR_s,ih,sumR_s]
    show x+sumR w _+l.getD w 0=_
    omega
  show x+sm l=sumR (l.length+1) _
  rw[h,sm_R l]
theorem sm_map (f : List Int→Int) (C : List (List Int)) : sm (C.map f)=sumR C.length (fun i=>f (C.getD i [])):=by
 rw[sm_R,List.length_map]
 refine sumR_congr (fun j hj=>?_)
 rw[List.getD_eq_getElem?_getD,List.getElem?_eq_getElem (by rw[List.length_map];exact hj),List.getElem_map,gdl hj]
 rfl
theorem blk {P w j : Nat} (hj : j<w) : (P*w+j)/w=P∧(P*w+j)%w=j:=by
 have hw : 0<w:=by omega
 constructor
 ·rw[Nat.mul_comm,Nat.mul_add_div hw,Nat.div_eq_of_lt hj,Nat.add_zero]
 ·rw[Nat.mul_comm,Nat.mul_add_mod,Nat.mod_eq_of_lt hj]
theorem pick (f : Nat→Int) (j : Nat) : ∀ w,sumR w (fun k=>if k=j then f k else 0)=if j<w then f j else 0
 | 0=>rfl
 | w+1=>by
  rw[sumR_s,pick f j w]
  by_cases h : w=j
  ·subst h
   rw[if_neg (by omega),if_pos rfl,if_pos (by omega)];omega
  ·rw[if_neg h]
   by_cases h2 : j<w
   ·rw[if_pos h2,if_pos (by omega)];omega
   ·rw[if_neg h2,if_neg (by omega)];rfl
end Go.Xe.TRX
/- What the functions of the layer round come to: the best rounding adds up (RoundAdds). Conditions: none. -/
-- MOD TR
namespace Go.Xe.TRX
open Go Go.Xe Go.Proofs
open Nat renaming reduceLeDiff → qA, reduceSub → qB, reduceAdd → qC, reduceEqDiff → qD, reduceLT → qE
open Int renaming reduceNegSucc → qF, reduceEq → qG
open Go.Xe.V renaming seq → sA, block → sB, scope → sC, skip → sD, close → sE
open Go.Xe renaming pth → P
open Go.Xe.Rnd
set_option maxRecDepth 100000
set_option maxHeartbeats 1600000
set_option linter.unusedSimpArgs false
theorem best_c {T : Tb} (h : rnds T≠[]) : (best T).c=chg T.C (best T).b:=by
 obtain⟨A,B,_,h2,_⟩:=rsf_spec (chg T.C) (rnds T) h
 exact h2
end Go.Xe.TRX
/- What the functions of the layer round come to: a table of multiples has one rounding (RoundExact). Conditions: none. -/
-- MOD TR
namespace Go.Xe.TRX
open Go Go.Xe Go.Proofs
open Nat renaming reduceLeDiff → qA, reduceSub → qB, reduceAdd → qC, reduceEqDiff → qD, reduceLT → qE
open Int renaming reduceNegSucc → qF, reduceEq → qG
open Go.Xe.V renaming seq → sA, block → sB, scope → sC, skip → sD, close → sE
open Go.Xe renaming pth → P
open Go.Xe.Rnd
set_option maxRecDepth 100000
set_option maxHeartbeats 1600000
set_option linter.unusedSimpArgs false
end Go.Xe.TRX
/- Tables whose rows and columns are exchanged. Conditions: none. -/
namespace Go.Xe.TRX
open Go Go.Xe Go.Proofs
open Go.Xe.Rnd
theorem len_inj {α β : Type} [DecidableEq β] : ∀ {A : List α} {B : List β} {f : α→β},A.Nodup→(∀ x∈A,f x∈B)→(∀ x∈A,∀ y∈A,f x=f y→x=y)→A.length≤B.length
 | [],_,_,_,_,_=>Nat.zero_le _
 | x::A,B,f,hn,hf,hi=>by
  rw[List.nodup_cons] at hn
  have h1:=hf x (by simp)
  have h2 : (B.erase (f x)).length=B.length-1:=List.length_erase_of_mem h1
  have h3:=List.length_pos_of_mem h1
  have ih:=len_inj (A:=A) (B:=B.erase (f x)) (f:=f) hn.2 (fun y hy=>(List.mem_erase_of_ne (fun e=>hn.1 (by rw[← hi y (by simp[hy]) x (by simp) e];exact hy))).2 (hf y (by simp[hy]))) (fun y hy z hz e=>hi y (by simp[hy]) z (by simp[hz]) e)
  simp only[List.length_cons]
  omega
theorem rnds_nodup {T : Tb} (hv : valid T) : (rnds T).Nodup:=(fol_sort hv).imp fun h e=>by rw[e] at h;exact Bf_irr _ h
def trp (m : Nat) (N : List (List Int)) : List (List Int):=(List.range m).map fun j=>N.map fun row=>row.getD j 0
def swp (x : R3) : R3:=(x.2.1,x.1,x.2.2)
def turT (T : Tb) : Tb:=⟨T.b,trp (cols T) T.C,T.F.map swp⟩
theorem trp_len (m : Nat) (N : List (List Int)) : (trp m N).length=m:=by simp[trp]
theorem trp_row {m : Nat} {N : List (List Int)} {j : Nat} (h : j<m) : (trp m N).getD j []=N.map fun row=>row.getD j 0:=by
 unfold trp
 rw[List.getD_eq_getElem?_getD,List.getElem?_map,List.getElem?_range h]
 rfl
theorem map_at (N : List (List Int)) (j i : Nat) : (N.map fun row=>row.getD j 0).getD i 0=(N.getD i []).getD j 0:=by
 rw[List.getD_eq_getElem?_getD,List.getElem?_map]
 by_cases h : i<N.length
 ·rw[List.getElem?_eq_getElem h,gdl h];rfl
 ·have e : N.getD i []=[]:=by rw[List.getD_eq_getElem?_getD,List.getElem?_eq_none (by omega)];rfl
  rw[List.getElem?_eq_none (by omega),e];rfl
theorem trp_at {m : Nat} {N : List (List Int)} {j i : Nat} (h : j<m) : ((trp m N).getD j []).getD i 0=(N.getD i []).getD j 0:=by rw[trp_row h,map_at]
theorem trp_rows {m : Nat} {N : List (List Int)} : ∀ row∈trp m N,row.length=N.length:=by
 intro row hr
 obtain⟨j,_,rfl⟩:=List.mem_map.1 hr
 simp
theorem trp_trp {m n : Nat} {N : List (List Int)} (hn : N.length=n) (hm : ∀ row∈N,row.length=m) : trp n (trp m N)=N:=by
 apply List.ext_getElem
 ·rw[trp_len,hn]
 ·intro i h1 h2
  have hi : i<n:=by omega
  have e1:=trp_row (m:=n) (N:=trp m N) hi
  rw[gdl h1] at e1
  rw[e1]
  have hr:=hm _ (List.getElem_mem h2)
  apply List.ext_getElem
  ·rw[List.length_map,trp_len,hr]
  ·intro j j1 j2
   have hj : j<m:=by omega
   have e2:=map_at (trp m N) i j
   rw[trp_at hj] at e2
   rw[List.getD_eq_getElem?_getD,List.getElem?_eq_getElem j1,gdl h2,List.getD_eq_getElem?_getD,List.getElem?_eq_getElem j2] at e2
   exact e2
theorem rsm_trp (m : Nat) (N : List (List Int)) {j : Nat} (h : j<m) : sm ((trp m N).getD j [])=due N j:=by rw[trp_row h];rfl
theorem due_trp {m n : Nat} {N : List (List Int)} (_hn : N.length=n) (hm : ∀ row∈N,row.length=m) {i : Nat} (h : i<n) : due (trp m N) i=sm (N.getD i []):=by
 have hi : i<N.length:=by omega
 unfold due
 rw[sm_map,trp_len,sm_R (N.getD i []),gdl hi,hm _ (List.getElem_mem hi)]
 refine sumR_congr (fun j hj=>?_)
 rw[trp_at hj,gdl hi]
theorem tot_trp {m n : Nat} {N : List (List Int)} (hn : N.length=n) (hm : ∀ row∈N,row.length=m) : sm (rsm (trp m N))=sm (rsm N):=by
 unfold rsm
 rw[sm_map,sm_map,trp_len,hn]
 have e1 : sumR m (fun j=>sm ((trp m N).getD j []))=sumR m (fun j=>sumR n (fun i=>(N.getD i []).getD j 0)):=sumR_congr (fun j hj=>by
  rw[rsm_trp m N hj]
  unfold due
  rw[sm_map,hn])
 have e2 : sumR n (fun i=>sm (N.getD i []))=sumR n (fun i=>sumR m (fun j=>(N.getD i []).getD j 0)):=sumR_congr (fun i hi=>by
  have hi' : i<N.length:=by omega
  rw[sm_R,gdl hi',hm _ (List.getElem_mem hi')])
 rw[e1,e2,sumR_swap]
theorem dist_R : ∀ (x y : List Int) (m : Nat),x.length=m→y.length=m→dist x y=sumR m (fun j=>max (y.getD j 0-x.getD j 0) (x.getD j 0-y.getD j 0))
 | [],[],_,rfl,_=>rfl
 | [],_::_,_,rfl,h=>by simp at h
 | _::_,[],_,rfl,h=>by simp at h
 | a::x,b::y,_,rfl,h=>by
  have hl : y.length=x.length:=by simpa using h
  have ih:=dist_R x y x.length rfl hl
  have hs : ∀ w,sumR (w+1) (fun j=>max ((b::y).getD j 0-(a::x).getD j 0) ((a::x).getD j 0-(b::y).getD j 0))=max (b-a) (a-b)+sumR w (fun j=>max (y.getD j 0-x.getD j 0) (x.getD j 0-y.getD j 0)):=by
   intro w
   induction w with
   | zero=>
    rw[sumR_s]
    show 0+max (b-a) (a-b)=max (b-a) (a-b)+0
    omega
   | succ w ihw=>
    rw[sumR_s,ihw,sumR_s]
    show max (b-a) (a-b)+sumR w _+max (y.getD w 0-x.getD w 0) (x.getD w 0-y.getD w 0)=_
    omega
  show max (b-a) (a-b)+dist x y=sumR (x.length+1) _
  rw[hs,ih]
theorem chg_R : ∀ (A B : List (List Int)) (n : Nat),A.length=n→B.length=n→chg A B=sumR n (fun i=>dist (A.getD i []) (B.getD i []))
 | [],[],_,rfl,_=>rfl
 | [],_::_,_,rfl,h=>by simp at h
 | _::_,[],_,rfl,h=>by simp at h
 | a::x,b::y,_,rfl,h=>by
  have hl : y.length=x.length:=by simpa using h
  have ih:=chg_R x y x.length rfl hl
  have hs : ∀ w,sumR (w+1) (fun j=>dist ((a::x).getD j []) ((b::y).getD j []))=dist a b+sumR w (fun j=>dist (x.getD j []) (y.getD j [])):=by
   intro w
   induction w with
   | zero=>
    rw[sumR_s]
    show 0+dist a b=dist a b+0
    omega
   | succ w ihw=>
    rw[sumR_s,ihw,sumR_s]
    show dist a b+sumR w _+dist (x.getD w []) (y.getD w [])=_
    omega
  show dist a b+chg x y=sumR (x.length+1) _
  rw[hs,ih]
theorem chg_trp {m n : Nat} {A B : List (List Int)} (hA : A.length=n∧∀ row∈A,row.length=m) (hB : B.length=n∧∀ row∈B,row.length=m) : chg (trp m A) (trp m B)=chg A B:=by
 rw[chg_R _ _ m (trp_len _ _) (trp_len _ _),chg_R A B n hA.1 hB.1]
 have e1 : sumR m (fun j=>dist ((trp m A).getD j []) ((trp m B).getD j []))=sumR m (fun j=>sumR n (fun i=>max ((B.getD i []).getD j 0-(A.getD i []).getD j 0) ((A.getD i []).getD j 0-(B.getD i []).getD j 0))):=sumR_congr (fun j hj=>by
  rw[trp_row hj,trp_row hj,dist_R _ _ n (by rw[List.length_map];exact hA.1) (by rw[List.length_map];exact hB.1)]
  exact sumR_congr (fun i _=>by rw[map_at,map_at]))
 have e2 : sumR n (fun i=>dist (A.getD i []) (B.getD i []))=sumR n (fun i=>sumR m (fun j=>max ((B.getD i []).getD j 0-(A.getD i []).getD j 0) ((A.getD i []).getD j 0-(B.getD i []).getD j 0))):=sumR_congr (fun i hi=>by
  have h1 : i<A.length:=by omega
  have h2 : i<B.length:=by omega
  rw[dist_R _ _ m (by rw[gdl h1];exact hA.2 _ (List.getElem_mem h1)) (by rw[gdl h2];exact hB.2 _ (List.getElem_mem h2))])
 rw[e1,e2,sumR_swap]
theorem turT_cols {T : Tb} (hv : valid T) : cols (turT T)=T.C.length:=by
 have h0 : 0<(turT T).C.length:=by
  show 0<(trp (cols T) T.C).length
  rw[trp_len];exact hv.2.1
 rw[← cols_0 (T:=turT T) h0]
 exact trp_rows _ (List.getElem_mem h0)
theorem turT_ok {T : Tb} (hf : fits T) (hv : valid T) (h4 : T.C.length≤4) : fits (turT T)∧valid (turT T):=by
 have hc:=cols_le hf
 have hn0 : 0<T.C.length:=by
  have:=hv.2.1
  unfold cols at this
  cases hcc : T.C with
  | nil=>rw[hcc] at this;simp at this
  | cons a l=>simp
 refine⟨⟨by show (trp (cols T) T.C).length≤5;rw[trp_len];omega,by show (T.F.map swp).length≤10;rw[List.length_map];exact hf.2.1,fun row hr=>by rw[trp_rows row hr];exact h4⟩,hv.1,by rw[turT_cols hv];exact hn0,fun row hr=>⟨by rw[turT_cols hv];exact trp_rows row hr,fun v hv'=>?_⟩,fun x hx=>?_⟩
 ·obtain⟨j,_,rfl⟩:=List.mem_map.1 hr
  obtain⟨l,hl,rfl⟩:=List.mem_map.1 hv'
  obtain⟨i,hi,rfl⟩:=List.mem_iff_getElem.1 hl
  have:=cell_bd hv i j
  rwa [gdl hi] at this
 ·obtain⟨y,hy,rfl⟩:=List.mem_map.1 hx
  obtain⟨q1,q2,q3,q4,q5,q6⟩:=hv.2.2.2 y hy
  refine⟨q3,?_,q1,?_,q5,q6⟩
  ·show y.2.1<((trp (cols T) T.C).length : Int)
   rw[trp_len];exact q4
  ·show y.1<(cols (turT T) : Int)
   rw[turT_cols hv];exact q2
theorem turT_turT {T : Tb} (hv : valid T) : turT (turT T)=T:=by
 have e1 : trp (cols (turT T)) (trp (cols T) T.C)=T.C:=by
  rw[turT_cols hv]
  exact trp_trp rfl (fun row hr=>(hv.2.2.1 row hr).1)
 have e2 : (T.F.map swp).map swp=T.F:=by
  rw[List.map_map]
  have : (swp ∘ swp)=id:=by funext x;rfl
  rw[this,List.map_id]
 show (⟨T.b,trp (cols (turT T)) (trp (cols T) T.C),(T.F.map swp).map swp⟩ : Tb)=T
 rw[e1,e2]
theorem trp_rnds {T : Tb} (hf : fits T) (hv : valid T) (h4 : T.C.length≤4) {N : List (List Int)} (h : N∈rnds T) : trp (cols T) N∈rnds (turT T):=by
 obtain⟨hf',hv'⟩:=turT_ok hf hv h4
 obtain⟨hcan,hisr⟩:=rnds_can hv h
 have hNl:=hcan.1
 have hNr : ∀ row∈N,row.length=cols T:=fun row hr=>(hcan.2 row hr).1
 have hCr : ∀ row∈T.C,row.length=cols T:=fun row hr=>(hv.2.2.1 row hr).1
 have hcol:=turT_cols hv
 obtain⟨r1,r2,r3,r4,r5⟩:=(rir_isr hf hv hcan).2 hisr
 have hcan' : can (turT T) (trp (cols T) N):=by
  refine⟨by rw[trp_len];exact (trp_len _ _).symm,fun row hr=>⟨by rw[hcol,trp_rows row hr,hNl],fun v hv''=>?_⟩⟩
  obtain⟨j,hj,rfl⟩:=List.mem_map.1 hr
  obtain⟨l,hl,rfl⟩:=List.mem_map.1 hv''
  have h1:=hcan.2 l hl
  have hjl : j<l.length:=by rw[h1.1];exact List.mem_range.1 hj
  rw[List.getD_eq_getElem?_getD,List.getElem?_eq_getElem hjl]
  exact h1.2 _ (List.getElem_mem hjl)
 have hrir : rir (turT T) (trp (cols T) N):=by
  refine⟨fun x hx=>?_,fun j hj i hi=>?_,fun j hj=>?_,fun i hi=>?_,?_⟩
  ·obtain⟨y,hy,rfl⟩:=List.mem_map.1 hx
   obtain⟨q1,q2,q3,q4,q5,q6⟩:=hv.2.2.2 y hy
   have:=r1 y hy
   show ((trp (cols T) N).getD y.2.1.toNat []).getD y.1.toNat 0=y.2.2
   rw[trp_at (by omega)];exact this
  ·rw[trp_len] at hj
   rw[trp_row hj,List.length_map] at hi
   show isn T.b (((trp (cols T) N).getD j []).getD i 0) (((trp (cols T) T.C).getD j []).getD i 0)
   rw[trp_at hj,trp_at hj]
   exact r2 i hi j (by rw[gdl hi,hNr _ (List.getElem_mem hi)];exact hj)
  ·rw[trp_len] at hj
   show isn T.b (sm ((trp (cols T) N).getD j [])) (sm ((trp (cols T) T.C).getD j []))
   rw[rsm_trp _ _ hj,rsm_trp _ _ hj]
   exact r4 j hj
  ·rw[hcol] at hi
   show isn T.b (due (trp (cols T) N) i) (due (trp (cols T) T.C) i)
   rw[due_trp hNl hNr hi,due_trp rfl hCr hi]
   exact r3 i (by omega)
  ·show isn T.b (sm (rsm (trp (cols T) N))) (sm (rsm (trp (cols T) T.C)))
   rw[tot_trp hNl hNr,tot_trp rfl hCr]
   exact r5
 have hisr':=(rir_isr hf' hv' hcan').1 hrir
 exact rnds_mem.2 ⟨⟨hcan'.1,fun row hr=>(hcan'.2 row hr).1⟩,hisr'⟩
theorem turT_half {T : Tb} (hf : fits T) (hv : valid T) (h4 : T.C.length≤4) : (rnds T).length≤(rnds (turT T)).length∧(rnds T≠[]→rnds (turT T)≠[]∧(best (turT T)).c≤(best T).c):=by
 have hsh : ∀ N∈rnds T,N.length=T.C.length∧∀ row∈N,row.length=cols T:=fun N hN=>by
  have:=(rnds_can hv hN).1
  exact⟨this.1,fun row hr=>(this.2 row hr).1⟩
 refine⟨len_inj (f:=trp (cols T)) (rnds_nodup hv) (fun N hN=>trp_rnds hf hv h4 hN) (fun A hA B hB e=>?_),fun hne=>?_⟩
 ·rw[← trp_trp (hsh A hA).1 (hsh A hA).2,← trp_trp (hsh B hB).1 (hsh B hB).2,e]
 ·have hm:=best_mem hne
  have hm':=trp_rnds hf hv h4 hm
  refine⟨fun e=>by rw[e] at hm';simp at hm',?_⟩
  have h1:=(best_least (turT_ok hf hv h4).2 hm').1
  have h2 : chg (turT T).C (trp (cols T) (best T).b)=chg T.C (best T).b:=chg_trp ⟨rfl,fun row hr=>(hv.2.2.1 row hr).1⟩ (hsh _ hm)
  rw[h2,← best_c hne] at h1
  exact h1
theorem turT_eq {T : Tb} (hf : fits T) (hv : valid T) (h4 : T.C.length≤4) : (rnds (turT T)).length=(rnds T).length∧(rnds T≠[]→(best (turT T)).c=(best T).c):=by
 obtain⟨hf',hv'⟩:=turT_ok hf hv h4
 have h4' : (turT T).C.length≤4:=by show (trp (cols T) T.C).length≤4;rw[trp_len];exact cols_le hf
 obtain⟨a1,a2⟩:=turT_half hf hv h4
 obtain⟨b1,b2⟩:=turT_half hf' hv' h4'
 rw[turT_turT hv] at b1 b2
 refine⟨by omega,fun hne=>?_⟩
 obtain⟨q1,q2⟩:=a2 hne
 have q3:=(b2 q1).2
 omega
end Go.Xe.TRX
