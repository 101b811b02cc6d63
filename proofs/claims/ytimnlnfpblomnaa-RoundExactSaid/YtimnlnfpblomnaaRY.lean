/- What the functions of the layer round come to: a count is in the range that a reader concludes (RoundKnown). Conditions: none. -/
import Derived.Test.YtimnlnfpblomnaaTTI
import Derived.Test.YtimnlnfpblomnaaTRZ
-- MOD TR
namespace Go.Xe.TRX
open Go Go.Xe Go.Proofs
open Nat renaming reduceLeDiff → qA, reduceSub → qB, reduceAdd → qC, reduceEqDiff → qD, reduceLT → qE
open Int renaming reduceNegSucc → qF, reduceEq → qG
open Go.Xe.V renaming seq → sA, block → sB, scope → sC, skip → sD, close → sE
open Go.Xe renaming pth → P
open Go.Xe.Rnd
set_option maxRecDepth 100000
set_option maxHeartbeats 1600000
set_option linter.unusedSimpArgs false
theorem rnds_cell {T : Tb} {N : List (List Int)} (h : N∈rnds T) {r k : Nat} (hr : r<N.length) (hk : k<(N[r]).length) (hc : r<T.C.length) (hk2 : k<(T.C[r]).length) : rd T.b (N[r])[k] (T.C[r])[k]:=by
 have:=((rnds_mem.1 h).2.1 r hr).1 k (by rw[gdl hr];exact hk)
 rwa [gdl hr,gdl hc,List.getD_eq_getElem?_getD,List.getElem?_eq_getElem hk,List.getD_eq_getElem?_getD,List.getElem?_eq_getElem hk2] at this
theorem best_mem {T : Tb} (h : rnds T≠[]) : (best T).b∈rnds T:=rsf_mem h
end Go.Xe.TRX
/- What the functions of the layer round come to: the table of neighbours with a number. Conditions: none. -/
-- MOD TR
namespace Go.Xe.TRX
open Go Go.Xe Go.Proofs
open Nat renaming reduceLeDiff → qA, reduceSub → qB, reduceAdd → qC, reduceEqDiff → qD, reduceLT → qE
open Int renaming reduceNegSucc → qF, reduceEq → qG
open Go.Xe.V renaming seq → sA, block → sB, scope → sC, skip → sD, close → sE
open Go.Xe renaming pth → P
open Go.Xe.Rnd
set_option maxRecDepth 100000
set_option maxHeartbeats 1600000
set_option linter.unusedSimpArgs false
def cl (l : List Int) : Nat×List Value:=(l.length,Li l)
theorem Li_app (a b : List Int) : Li (a++b)=Li a++Li b:=by simp[Li]
end Go.Xe.TRX
/- What the functions of the layer round come to: no rounding is better than the best one (RoundLeast). Conditions: none. -/
-- MOD TR
namespace Go.Xe.TRX
open Go Go.Xe Go.Proofs
open Nat renaming reduceLeDiff → qA, reduceSub → qB, reduceAdd → qC, reduceEqDiff → qD, reduceLT → qE
open Int renaming reduceNegSucc → qF, reduceEq → qG
open Go.Xe.V renaming seq → sA, block → sB, scope → sC, skip → sD, close → sE
open Go.Xe renaming pth → P
open Go.Xe.Rnd
set_option maxRecDepth 100000
set_option maxHeartbeats 1600000
set_option linter.unusedSimpArgs false
theorem Bf_irr (a : List (List Int)) : ¬ Bf a a:=fun h=>Bf_ne h h
end Go.Xe.TRX
/- What the functions of the layer round come to: each number of a rounding is in its range (RoundAll). Conditions: none. -/
-- MOD TR
namespace Go.Xe.TRX
open Go Go.Xe Go.Proofs
open Nat renaming reduceLeDiff → qA, reduceSub → qB, reduceAdd → qC, reduceEqDiff → qD, reduceLT → qE
open Int renaming reduceNegSucc → qF, reduceEq → qG
open Go.Xe.V renaming seq → sA, block → sB, scope → sC, skip → sD, close → sE
open Go.Xe renaming pth → P
open Go.Xe.Rnd
set_option maxRecDepth 100000
set_option maxHeartbeats 1600000
set_option linter.unusedSimpArgs false
end Go.Xe.TRX
/- Tables whose lines add up to nothing can be rounded so that they still do. Conditions: none. -/
namespace Go.Xe.Rnd
def ls (Z : List Nat) (p : Nat→Nat) (r : Nat) (d : Nat→Int) : Int:=sm (Z.map fun z=>if p z=r then d z else 0)
section
variable {Z : List Nat} {p : Nat→Nat} {r : Nat} {d e : Nat→Int}
theorem ls_cons (z : Nat) (Z : List Nat) (p : Nat→Nat) (r : Nat) (d : Nat→Int) : ls (z::Z) p r d=(if p z=r then d z else 0)+ls Z p r d:=rfl
theorem ls_add (p : Nat→Nat) (r : Nat) (d e : Nat→Int) : ∀ Z,ls Z p r (fun z=>d z+e z)=ls Z p r d+ls Z p r e
 | []=>rfl
 | z::Z=>by
  rw[ls_cons,ls_cons,ls_cons,ls_add p r d e Z]
  split<;>omega
theorem ls_mul (p : Nat→Nat) (r : Nat) (k : Int) (d : Nat→Int) : ∀ Z,ls Z p r (fun z=>k*d z)=k*ls Z p r d
 | []=>(Int.mul_zero k).symm
 | z::Z=>by
  rw[ls_cons,ls_cons,ls_mul p r k d Z,Int.mul_add]
  split
  ·rfl
  ·rw[Int.mul_zero]
theorem ls_congr : ∀ {Z : List Nat},(∀ z∈Z,p z=r→d z=e z)→ls Z p r d=ls Z p r e
 | [],_=>rfl
 | z::Z,h=>by
  rw[ls_cons,ls_cons,ls_congr (fun y hy=>h y (by simp[hy]))]
  by_cases hz : p z=r
  ·rw[if_pos hz,if_pos hz,h z (by simp) hz]
  ·rw[if_neg hz,if_neg hz]
theorem ls_zero : ∀ {Z : List Nat},(∀ z∈Z,p z=r→d z=0)→ls Z p r d=0
 | [],_=>rfl
 | z::Z,h=>by
  rw[ls_cons,ls_zero (fun y hy=>h y (by simp[hy]))]
  by_cases hz : p z=r
  ·rw[if_pos hz,h z (by simp) hz];rfl
  ·rw[if_neg hz];rfl
theorem ls_dvd {M : Int} : ∀ {Z : List Nat},(∀ z∈Z,p z=r→M ∣ d z)→M ∣ ls Z p r d
 | [],_=>⟨0,(Int.mul_zero M).symm⟩
 | z::Z,h=>by
  rw[ls_cons]
  refine Int.dvd_add ?_ (ls_dvd (fun y hy=>h y (by simp[hy])))
  by_cases hz : p z=r
  ·rw[if_pos hz];exact h z (by simp) hz
  ·rw[if_neg hz];exact⟨0,(Int.mul_zero M).symm⟩
theorem ls_one (p : Nat→Nat) (r : Nat) (k : Int) {z1 : Nat} : ∀ {Z : List Nat},Z.Nodup→z1∈Z→ls Z p r (fun z=>if z=z1 then k else 0)=if p z1=r then k else 0
 | [],_,h=>by simp at h
 | z::Z,hn,h=>by
  rw[List.nodup_cons] at hn
  rw[ls_cons]
  rcases List.mem_cons.1 h with rfl|h
  ·rw[ls_zero (fun y hy _=>by rw[if_neg];rintro rfl;exact hn.1 hy)]
   simp
  ·have hz : z≠z1:=by rintro rfl;exact hn.1 h
   rw[ls_one p r k hn.2 h]
   simp[hz]
theorem ls_filter (p : Nat→Nat) (r : Nat) (d : Nat→Int) (q : Nat→Bool) : ∀ Z,ls (Z.filter q) p r d=ls Z p r (fun z=>if q z=true then d z else 0)
 | []=>rfl
 | z::Z=>by
  rw[ls_cons,List.filter_cons]
  by_cases hq : q z=true
  ·rw[if_pos hq,ls_cons,ls_filter p r d q Z,if_pos hq]
  ·rw[if_neg hq,ls_filter p r d q Z,if_neg hq]
   simp
theorem ls_erase (p : Nat→Nat) (r : Nat) (d : Nat→Int) {z1 : Nat} : ∀ {Z : List Nat},z1∈Z→ls Z p r d=(if p z1=r then d z1 else 0)+ls (Z.erase z1) p r d
 | [],h=>by simp at h
 | z::Z,h=>by
  by_cases hz : z=z1
  ·subst hz
   rw[List.erase_cons_head,ls_cons]
  ·have h' : z1∈Z:=by
    rcases List.mem_cons.1 h with e|e
    ·exact absurd e.symm hz
    ·exact e
   rw[List.erase_cons_tail (by simpa using hz),ls_cons,ls_cons,ls_erase p r d h']
   omega
end
theorem pig : ∀ {Z : List Nat} {Cl : List Nat} {g : Nat→Nat},Z.Nodup→(∀ z∈Z,g z∈Cl)→Cl.length<Z.length→∃ z1∈Z,∃ z2∈Z,z1≠z2∧g z1=g z2
 | [],_,_,_,_,h=>absurd h (Nat.not_lt_zero _)
 | z::Z,Cl,g,hn,hg,hl=>by
  rw[List.nodup_cons] at hn
  by_cases hx : ∃ z2∈Z,g z2=g z
  ·obtain⟨z2,h2,e⟩:=hx
   exact⟨z,by simp,z2,by simp[h2],by rintro rfl;exact hn.1 h2,e.symm⟩
  ·have hgz:=hg z (by simp)
   have hle : (Cl.erase (g z)).length=Cl.length-1:=List.length_erase_of_mem hgz
   have hpos : 0<Cl.length:=List.length_pos_of_mem hgz
   obtain⟨z1,h1,z2,h2,h3,h4⟩:=pig (Z:=Z) (Cl:=Cl.erase (g z)) (g:=g) hn.2 (fun y hy=>(List.mem_erase_of_ne (fun e=>hx ⟨y,hy,e⟩)).2 (hg y (by simp[hy]))) (by rw[hle];simp only[List.length_cons] at hl;omega)
   exact⟨z1,by simp[h1],z2,by simp[h2],h3,h4⟩
theorem filt1 {q : Nat→Bool} : ∀ {Z : List Nat} {z : Nat},z∈Z→q z=false→(Z.filter q).length+1≤Z.length
 | [],_,h,_=>by simp at h
 | w::Z,z,h,hq=>by
  rw[List.filter_cons]
  rcases List.mem_cons.1 h with rfl|h
  ·rw[hq]
   have:=List.length_filter_le q Z
   simp only[List.length_cons]
   simp;omega
  ·have ih:=filt1 h hq
   split
   ·simp only[List.length_cons];omega
   ·simp only[List.length_cons];omega
theorem filt2 {q : Nat→Bool} : ∀ {Z : List Nat} {z1 z2 : Nat},z1∈Z→z2∈Z→z1≠z2→q z1=false→q z2=false→(Z.filter q).length+2≤Z.length
 | [],_,_,h,_,_,_,_=>by simp at h
 | w::Z,z1,z2,h1,h2,hne,q1,q2=>by
  rw[List.filter_cons]
  rcases List.mem_cons.1 h1 with e1|h1'
  ·subst e1
   have h2' : z2∈Z:=by
    rcases List.mem_cons.1 h2 with e|e
    ·exact absurd e.symm hne
    ·exact e
   have:=filt1 h2' q2
   rw[q1]
   simp only[List.length_cons]
   simp;omega
  ·rcases List.mem_cons.1 h2 with e2|h2'
   ·subst e2
    have:=filt1 h1' q1
    rw[q2]
    simp only[List.length_cons]
    simp;omega
   ·have ih:=filt2 h1' h2' hne q1 q2
    split
    ·simp only[List.length_cons];omega
    ·simp only[List.length_cons];omega
theorem cnt : ∀ {Rl Z : List Nat} {p : Nat→Nat},Rl.Nodup→(∀ r∈Rl,∃ z1∈Z,∃ z2∈Z,z1≠z2∧p z1=r∧p z2=r)→2*Rl.length≤Z.length
 | [],_,_,_,_=>by simp
 | r::Rl,Z,p,hn,h=>by
  rw[List.nodup_cons] at hn
  obtain⟨z1,h1,z2,h2,h3,h4,h5⟩:=h r (by simp)
  have hf:=filt2 (q:=fun z=>!(p z == r)) h1 h2 h3 (by simp[h4]) (by simp[h5])
  have ih:=cnt (Rl:=Rl) (Z:=Z.filter fun z=>!(p z == r)) (p:=p) hn.2 (fun r' hr'=>by
   obtain⟨y1,k1,y2,k2,k3,k4,k5⟩:=h r' (by simp[hr'])
   have hne : r'≠r:=by rintro rfl;exact hn.1 hr'
   exact⟨y1,by simp[k1,k4,hne],y2,by simp[k2,k5,hne],k3,k4,k5⟩)
  simp only[List.length_cons]
  omega
theorem kern : ∀ {n : Nat} {Rl Cl Z : List Nat} {p g : Nat→Nat},Rl.length=n→Z.Nodup→Rl.Nodup→(∀ z∈Z,p z∈Rl)→(∀ z∈Z,g z∈Cl)→Rl.length+Cl.length≤Z.length→Z≠[]→∃ d : Nat→Int,(∃ z∈Z,d z≠0)∧(∀ r,ls Z p r d=0)∧∀ c,ls Z g c d=0
 | 0,Rl,Cl,Z,p,g,hl,hZ,hR,hp,hg,hc,h0=>by
  have : Rl=[]:=List.length_eq_zero_iff.1 hl
  subst this
  cases Z with
  | nil=>exact absurd rfl h0
  | cons z Z=>have:=hp z (by simp);simp at this
 | n+1,Rl,Cl,Z,p,g,hl,hZ,hR,hp,hg,hc,h0=>by
  obtain⟨z1,h1,z2,h2,h3,h4⟩:=pig hZ hg (by omega)
  by_cases hr : p z1=p z2
  ·refine⟨fun z=>(if z=z1 then 1 else 0)+(if z=z2 then -1 else 0),⟨z1,h1,by simp[h3]⟩,fun r=>?_,fun c=>?_⟩
   ·rw[ls_add,ls_one p r 1 hZ h1,ls_one p r (-1) hZ h2,hr]
    split<;>omega
   ·rw[ls_add,ls_one g c 1 hZ h1,ls_one g c (-1) hZ h2,h4]
    split<;>omega
  ·have hz2 : z2∈Z.erase z1:=(List.mem_erase_of_ne (Ne.symm h3)).2 h2
   have hlen : (Z.erase z1).length=Z.length-1:=List.length_erase_of_mem h1
   have hlr : (Rl.erase (p z2)).length=Rl.length-1:=List.length_erase_of_mem (hp z2 h2)
   have hsub : ∀ z,z∈Z.erase z1→z∈Z:=fun z hz=>List.mem_of_mem_erase hz
   have hne1 : ∀ z,z∈Z.erase z1→z≠z1:=fun z hz e=>by
    rw[e] at hz
    exact (List.Nodup.not_mem_erase hZ) hz
   obtain⟨d,⟨w,hw,hw0⟩,hd1,hd2⟩:=kern (n:=n) (Rl:=Rl.erase (p z2)) (Cl:=Cl) (Z:=Z.erase z1) (p:=fun z=>if p z=p z2 then p z1 else p z) (g:=g) (by omega) (hZ.erase _) (hR.erase _) (fun z hz=>by
     split
     ·exact (List.mem_erase_of_ne hr).2 (hp z1 h1)
     ·rename_i hne
      exact (List.mem_erase_of_ne hne).2 (hp z (hsub z hz))) (fun z hz=>hg z (hsub z hz)) (by omega) (fun e=>by rw[e] at hz2;simp at hz2)
   obtain⟨k,hk⟩ : ∃ k,k=ls (Z.erase z1) p (p z1) d:=⟨_,rfl⟩
   have hrow2 : ls (Z.erase z1) p (p z2) d=-k:=by
    have e1 : ls (Z.erase z1) (fun z=>if p z=p z2 then p z1 else p z) (p z1) d=ls (Z.erase z1) p (p z1) d+ls (Z.erase z1) p (p z2) d:=by
     have : ∀ Y : List Nat,ls Y (fun z=>if p z=p z2 then p z1 else p z) (p z1) d=ls Y p (p z1) d+ls Y p (p z2) d:=by
      intro Y
      induction Y with
      | nil=>rfl
      | cons y Y ih=>
       rw[ls_cons,ls_cons,ls_cons,ih]
       by_cases q1 : p y=p z2
       ·have q2 : ¬ p y=p z1:=by rw[q1];exact Ne.symm hr
        simp only[if_pos q1,if_neg q2,if_true];omega
       ·simp only[if_neg q1];omega
     exact this _
    have:=hd1 (p z1)
    omega
   have hother : ∀ r,r≠p z1→r≠p z2→ls (Z.erase z1) p r d=0:=by
    intro r hr1 hr2
    rw[← hd1 r]
    have : ∀ Y : List Nat,ls Y p r d=ls Y (fun z=>if p z=p z2 then p z1 else p z) r d:=by
     intro Y
     induction Y with
     | nil=>rfl
     | cons y Y ih=>
      rw[ls_cons,ls_cons,ih]
      by_cases q1 : p y=p z2
      ·have q2 : ¬ p y=r:=by rw[q1];exact Ne.symm hr2
       have q3 : ¬ p z1=r:=Ne.symm hr1
       simp only[if_pos q1,if_neg q2,if_neg q3]
      ·simp only[if_neg q1]
    exact this _
   have hE : ∀ (q : Nat→Nat) (r : Nat),ls Z q r (fun z=>if z=z1 then 0 else d z)=ls (Z.erase z1) q r d:=by
    intro q r
    rw[ls_erase q r _ h1]
    simp only[if_true]
    rw[ls_congr (e:=d) (fun z hz _=>by rw[if_neg (hne1 z hz)])]
    split<;>omega
   refine⟨fun z=>(if z=z1 then 0 else d z)+((if z=z1 then -k else 0)+(if z=z2 then k else 0)),?_,fun r=>?_,fun c=>?_⟩
   ·by_cases hx : ∃ z∈Z.erase z1,z≠z2∧d z≠0
    ·obtain⟨z,a1,a2,a3⟩:=hx
     refine⟨z,hsub z a1,?_⟩
     simp only[if_neg (hne1 z a1),if_neg a2]
     omega
    ·exfalso
     have hall : ∀ z∈Z.erase z1,z≠z2→d z=0:=fun z a1 a2=>Decidable.by_contra (fun a3=>hx ⟨z,a1,a2,a3⟩)
     have e1 : ls (Z.erase z1) g (g z2) d=d z2:=by
      have : ls (Z.erase z1) g (g z2) d=ls (Z.erase z1) g (g z2) (fun z=>if z=z2 then d z2 else 0):=ls_congr (fun z hz _=>by
       by_cases e : z=z2
       ·rw[if_pos e,e]
       ·rw[if_neg e,hall z hz e])
      rw[this,ls_one g (g z2) _ (hZ.erase _) hz2,if_pos rfl]
     have e2:=hd2 (g z2)
     by_cases e : w=z2
     ·rw[e] at hw0;omega
     ·exact hw0 (hall w hw e)
   ·rw[ls_add,ls_add,ls_one p r (-k) hZ h1,ls_one p r k hZ h2,hE]
    by_cases r1 : r=p z1
    ·subst r1
     rw[← hk,if_pos rfl,if_neg (Ne.symm hr)];omega
    ·by_cases r2 : r=p z2
     ·subst r2
      rw[hrow2,if_neg hr,if_pos rfl];omega
     ·rw[hother r r1 r2,if_neg (Ne.symm r1),if_neg (Ne.symm r2)];omega
   ·rw[ls_add,ls_add,ls_one g c (-k) hZ h1,ls_one g c k hZ h2,hE,hd2 c,h4]
    split<;>omega
end Go.Xe.Rnd
/- Tables whose lines add up to nothing can be rounded so that they still do: the rounding. Conditions: none. -/
namespace Go.Xe.Rnd
theorem filt_lt {p q : Nat→Bool} : ∀ {W : List Nat} {w : Nat},(∀ k∈W,p k=true→q k=true)→w∈W→q w=true→p w=false→(W.filter p).length<(W.filter q).length
 | [],_,_,h,_,_=>by simp at h
 | v::W,w,hpq,h,hq,hp=>by
  have hle : ∀ V : List Nat,(∀ k∈V,p k=true→q k=true)→(V.filter p).length≤(V.filter q).length:=by
   intro V
   induction V with
   | nil=>intro _;simp
   | cons y V ih=>
    intro hV
    have ih':=ih (fun k hk=>hV k (by simp[hk]))
    rw[List.filter_cons,List.filter_cons]
    by_cases h1 : p y=true
    ·rw[if_pos h1,if_pos (hV y (by simp) h1)]
     simp only[List.length_cons];omega
    ·rw[if_neg h1]
     split
     ·simp only[List.length_cons];omega
     ·exact ih'
  rw[List.filter_cons,List.filter_cons]
  rcases List.mem_cons.1 h with e|h'
  ·subst e
   rw[if_pos hq,if_neg (by rw[hp];simp)]
   have:=hle W (fun k hk=>hpq k (by simp[hk]))
   simp only[List.length_cons];omega
  ·have ih:=filt_lt (fun k hk=>hpq k (by simp[hk])) h' hq hp
   by_cases h1 : p v=true
   ·rw[if_pos h1,if_pos (hpq v (by simp) h1)]
    simp only[List.length_cons];omega
   ·rw[if_neg h1]
    split
    ·simp only[List.length_cons];omega
    ·exact ih
theorem first {σ a : Nat→Int} : ∀ {W : List Nat},W≠[]→(∀ z∈W,0<a z)→∃ w∈W,∀ z∈W,σ w*a z≤σ z*a w
 | [],h,_=>absurd rfl h
 | v::W,_,ha=>by
  by_cases h0 : W=[]
  ·subst h0
   refine⟨v,by simp,fun z hz=>?_⟩
   rw[List.mem_singleton] at hz
   rw[hz];exact Int.le_refl _
  ·obtain⟨w,hw,hm⟩:=first h0 (fun z hz=>ha z (by simp[hz]))
   have aw:=ha w (by simp[hw])
   have av:=ha v (by simp)
   by_cases hc : σ w*a v≤σ v*a w
   ·refine⟨w,by simp[hw],fun z hz=>?_⟩
    rcases List.mem_cons.1 hz with rfl|hz
    ·exact hc
    ·exact hm z hz
   ·refine⟨v,by simp,fun z hz=>?_⟩
    rcases List.mem_cons.1 hz with rfl|hz
    ·exact Int.le_refl _
    ·have h1:=hm z hz
     have az:=ha z (by simp[hz])
     refine Int.le_of_mul_le_mul_right (a:=a w) ?_ aw
     have h2 : σ v*a w≤σ w*a v:=by omega
     have h3 : σ v*a w*a z≤σ w*a v*a z:=Int.mul_le_mul_of_nonneg_right h2 (Int.le_of_lt az)
     have h4 : σ w*a z*a v≤σ z*a w*a v:=Int.mul_le_mul_of_nonneg_right h1 (Int.le_of_lt av)
     have e1 : σ v*a z*a w=σ v*a w*a z:=by rw[Int.mul_assoc,Int.mul_comm (a z),← Int.mul_assoc]
     have e2 : σ w*a v*a z=σ w*a z*a v:=by rw[Int.mul_assoc,Int.mul_comm (a v),← Int.mul_assoc]
     have e3 : σ z*a w*a v=σ z*a v*a w:=by rw[Int.mul_assoc,Int.mul_comm (a w),← Int.mul_assoc]
     rw[e1,← e3]
     rw[e2] at h3
     exact Int.le_trans h3 h4
def free (L U : Nat→Int) (s : Int) (x : Nat→Int) (k : Nat) : Bool:=!(decide (x k=s*L k) || decide (x k=s*U k))
theorem free_iff {L U : Nat→Int} {s : Int} {x : Nat→Int} {k : Nat} : free L U s x k=true↔x k≠s*L k∧x k≠s*U k:=by simp[free]
theorem exist {K N : Nat} {p g : Nat→Nat} {L U : Nat→Int} {b : Int} (hb : 0<b) (hp : ∀ k,k<K→p k<N) (hg : ∀ k,k<K→g k<N) (hLU : ∀ k,k<K→b ∣ L k∧(U k=L k∨U k=L k+b)) :
  ∀ {n : Nat} {s : Int} {x : Nat→Int},0<s→((List.range K).filter (free L U s x)).length≤n→(∀ k,k<K→s*L k≤x k∧x k≤s*U k)→(∀ r,ls (List.range K) p r x=0)→(∀ c,ls (List.range K) g c x=0) →
  ∃ y : Nat→Int,(∀ k,k<K→y k=L k∨y k=U k)∧(∀ r,ls (List.range K) p r y=0)∧∀ c,ls (List.range K) g c y=0:=by
 intro n
 induction n with
 | zero=>
  intro s x hs hn hx hr hc
  have hno : ∀ k,k<K→x k=s*L k∨x k=s*U k:=by
   intro k hk
   apply Decidable.by_contra
   intro h
   have hf : free L U s x k=true:=free_iff.2 ⟨fun e=>h (.inl e),fun e=>h (.inr e)⟩
   have hm : k∈(List.range K).filter (free L U s x):=List.mem_filter.2 ⟨List.mem_range.2 hk,hf⟩
   have:=List.length_pos_of_mem hm
   omega
  refine⟨fun k=>if x k=s*L k then L k else U k,fun k hk=>?_,?_,?_⟩
  ·simp only
   split
   ·exact .inl rfl
   ·exact .inr rfl
  ·intro r
   have h1:=ls_mul p r s (fun k=>if x k=s*L k then L k else U k) (List.range K)
   have h2 : ls (List.range K) p r (fun k=>s*(if x k=s*L k then L k else U k))=ls (List.range K) p r x:=ls_congr (fun k hk _=>by
    have hk':=List.mem_range.1 hk
    split
    ·rename_i e;exact e.symm
    ·rename_i e
     rcases hno k hk' with h|h
     ·exact absurd h e
     ·exact h.symm)
   rw[h2,hr r] at h1
   rcases Int.mul_eq_zero.1 h1.symm with h|h
   ·omega
   ·exact h
  ·intro r
   have h1:=ls_mul g r s (fun k=>if x k=s*L k then L k else U k) (List.range K)
   have h2 : ls (List.range K) g r (fun k=>s*(if x k=s*L k then L k else U k))=ls (List.range K) g r x:=ls_congr (fun k hk _=>by
    have hk':=List.mem_range.1 hk
    split
    ·rename_i e;exact e.symm
    ·rename_i e
     rcases hno k hk' with h|h
     ·exact absurd h e
     ·exact h.symm)
   rw[h2,hc r] at h1
   rcases Int.mul_eq_zero.1 h1.symm with h|h
   ·omega
   ·exact h
 | succ n ih=>
  intro s x hs hn hx hr hc
  by_cases h0 : ((List.range K).filter (free L U s x)).length≤n
  ·exact ih hs h0 hx hr hc
  obtain⟨Z,hZ⟩ : ∃ Z,Z=(List.range K).filter (free L U s x):=⟨_,rfl⟩
  rw[← hZ] at hn h0
  have hZm : ∀ z,z∈Z↔z<K∧free L U s x z=true:=fun z=>by rw[hZ,List.mem_filter,List.mem_range]
  have hZn : Z.Nodup:=by rw[hZ];exact List.Pairwise.filter _ List.nodup_range
  have hZ0 : Z≠[]:=by rintro e;rw[e] at h0;simp at h0
  -- a free entry is no multiple
  have hfree : ∀ z,z∈Z→s*L z<x z∧x z<s*U z∧U z=L z+b:=by
   intro z hz
   obtain⟨h1,h2⟩:=(hZm z).1 hz
   obtain⟨h3,h4⟩:=free_iff.1 h2
   obtain⟨h5,h6⟩:=hx z h1
   obtain⟨_,h8⟩:=hLU z h1
   refine⟨by omega,by omega,?_⟩
   rcases h8 with h8|h8
   ·rw[h8] at h6 h4;omega
   ·exact h8
  have hmul : ∀ k,k<K→k∉Z→s*b ∣ x k:=by
   intro k hk hnz
   obtain⟨h1,h2⟩:=hLU k hk
   have hl : s*b ∣ s*L k:=Int.mul_dvd_mul_left s h1
   have hu : s*b ∣ s*U k:=by
    rcases h2 with h2|h2
    ·rw[h2];exact hl
    ·rw[h2];exact Int.mul_dvd_mul_left s (Int.dvd_add h1 (Int.dvd_refl b))
   have : ¬ free L U s x k=true:=fun hh=>hnz ((hZm k).2 ⟨hk,hh⟩)
   rw[free_iff] at this
   by_cases e : x k=s*L k
   ·rw[e];exact hl
   ·have e2 : x k=s*U k:=Decidable.by_contra (fun e2=>this ⟨e,e2⟩)
    rw[e2];exact hu
  have hsb : 0<s*b:=Int.mul_pos hs hb
  have htwo : ∀ (q : Nat→Nat),(∀ r,ls (List.range K) q r x=0)→∀ z∈Z,∃ z2∈Z,z≠z2∧q z=q z2:=by
   intro q hq z hz
   apply Decidable.by_contra
   intro hno
   have hzK:=((hZm z).1 hz).1
   have hd : s*b ∣ ls (List.range K) q (q z) (fun k=>if k=z then 0 else x k):=ls_dvd (fun k hk hqk=>by
    have hk':=List.mem_range.1 hk
    split
    ·exact⟨0,(Int.mul_zero _).symm⟩
    ·rename_i hne
     exact hmul k hk' (fun hkz=>hno ⟨k,hkz,fun e=>hne e.symm,hqk.symm⟩))
   have hsum : ls (List.range K) q (q z) x=ls (List.range K) q (q z) (fun k=>if k=z then 0 else x k)+x z:=by
    have e1 : ls (List.range K) q (q z) x=ls (List.range K) q (q z) (fun k=>(if k=z then 0 else x k)+(if k=z then x z else 0)):=ls_congr (fun k _ _=>by
     by_cases e : k=z
     ·rw[if_pos e,if_pos e,e];omega
     ·rw[if_neg e,if_neg e];omega)
    rw[e1,ls_add,ls_one q (q z) (x z) List.nodup_range (List.mem_range.2 hzK),if_pos rfl]
   rw[hq] at hsum
   have hdx : s*b ∣ x z:=by
    have : x z=-ls (List.range K) q (q z) (fun k=>if k=z then 0 else x k):=by omega
    rw[this];exact Int.dvd_neg.2 hd
   obtain⟨f1,f2,f3⟩:=hfree z hz
   have hdl : s*b ∣ s*L z:=Int.mul_dvd_mul_left s (hLU z hzK).1
   have hdd : s*b ∣ x z-s*L z:=Int.dvd_sub hdx hdl
   have:=Int.le_of_dvd (by omega) hdd
   rw[f3,Int.mul_add] at f2
   omega
  have hcount : ∀ q : Nat→Nat,(∀ k,k<K→q k<N)→(∀ r,ls (List.range K) q r x=0)→∃ Rl : List Nat,Rl.Nodup∧(∀ z∈Z,q z∈Rl)∧2*Rl.length≤Z.length:=by
   intro q hqN hq
   refine⟨(List.range N).filter (fun r=>Z.any fun z=>q z == r),List.Pairwise.filter _ List.nodup_range,fun z hz=>?_,?_⟩
   ·rw[List.mem_filter]
    exact⟨List.mem_range.2 (hqN z ((hZm z).1 hz).1),by rw[List.any_eq_true];exact⟨z,hz,by simp⟩⟩
   ·refine cnt (p:=q) (List.Pairwise.filter _ List.nodup_range) (fun r hr=>?_)
    rw[List.mem_filter,List.any_eq_true] at hr
    obtain⟨_,z,hz,e⟩:=hr
    have e' : q z=r:=by simpa using e
    obtain⟨z2,h1,h2,h3⟩:=htwo q hq z hz
    exact⟨z,hz,z2,h1,h2,e',by rw[← h3];exact e'⟩
  obtain⟨Rl,r1,r2,r3⟩:=hcount p hp hr
  obtain⟨Cl,c1,c2,c3⟩:=hcount g hg hc
  obtain⟨d,⟨w0,hw0,hd0⟩,hd1,hd2⟩:=kern rfl hZn r1 r2 c2 (by omega) hZ0
  -- the step
  obtain⟨D,hD⟩ : ∃ D : Nat→Int,D=fun k=>if free L U s x k=true then d k else 0:=⟨_,rfl⟩
  have hDr : ∀ r,ls (List.range K) p r D=0:=fun r=>by rw[hD,← ls_filter,← hZ];exact hd1 r
  have hDc : ∀ r,ls (List.range K) g r D=0:=fun r=>by rw[hD,← ls_filter,← hZ];exact hd2 r
  have hDZ : ∀ k,k∈Z→D k=d k:=fun k hk=>by rw[hD];exact if_pos ((hZm k).1 hk).2
  have hDn : ∀ k,k<K→k∉Z→D k=0:=fun k hk hnz=>by
   rw[hD];exact if_neg (fun hh=>hnz ((hZm k).2 ⟨hk,hh⟩))
  obtain⟨a,ha⟩ : ∃ a : Nat→Int,a=fun k=>if 0≤d k then d k else -d k:=⟨_,rfl⟩
  obtain⟨σ,hσ⟩ : ∃ σ : Nat→Int,σ=fun k=>if 0≤d k then s*U k-x k else x k-s*L k:=⟨_,rfl⟩
  have hW : ∀ k,k∈Z.filter (fun z=>decide (d z≠0))↔k∈Z∧d k≠0:=fun k=>by rw[List.mem_filter];simp
  have hapos : ∀ k,d k≠0→0<a k:=fun k hk=>by rw[ha];simp only;split<;>omega
  obtain⟨w,hw,hmin⟩:=first (σ:=σ) (a:=a) (W:=Z.filter (fun z=>decide (d z≠0))) (fun e=>by
   have : w0∈Z.filter (fun z=>decide (d z≠0)):=(hW w0).2 ⟨hw0,hd0⟩
   rw[e] at this;simp at this) (fun z hz=>hapos z ((hW z).1 hz).2)
  obtain⟨hwZ,hwd⟩:=(hW w).1 hw
  have haw:=hapos w hwd
  have hσpos : ∀ k,k∈Z→0<σ k:=fun k hk=>by
   obtain⟨f1,f2,_⟩:=hfree k hk
   rw[hσ];simp only;split<;>omega
  have hσw:=hσpos w hwZ
  have hs' : 0<a w*s:=Int.mul_pos haw hs
  have hmL : ∀ k,a w*s*L k=a w*(s*L k):=fun k=>Int.mul_assoc _ _ _
  have hmU : ∀ k,a w*s*U k=a w*(s*U k):=fun k=>Int.mul_assoc _ _ _
  have hbound : ∀ k,k<K→a w*s*L k≤a w*x k+σ w*D k∧a w*x k+σ w*D k≤a w*s*U k:=by
   intro k hk
   obtain⟨x1,x2⟩:=hx k hk
   have y1 : a w*(s*L k)≤a w*x k:=Int.mul_le_mul_of_nonneg_left x1 (Int.le_of_lt haw)
   have y2 : a w*x k≤a w*(s*U k):=Int.mul_le_mul_of_nonneg_left x2 (Int.le_of_lt haw)
   rw[hmL,hmU]
   by_cases hkz : k∈Z
   ·rw[hDZ k hkz]
    by_cases hdk : d k=0
    ·rw[hdk,Int.mul_zero];omega
    ·have hm:=hmin k ((hW k).2 ⟨hkz,hdk⟩)
     by_cases hpos : 0≤d k
     ·have e1 : a k=d k:=by rw[ha];exact if_pos hpos
      have e2 : σ k=s*U k-x k:=by rw[hσ];exact if_pos hpos
      rw[e1,e2,Int.sub_mul] at hm
      have h1 : 0≤σ w*d k:=Int.mul_nonneg (Int.le_of_lt hσw) hpos
      have c1:=Int.mul_comm (s*U k) (a w)
      have c2:=Int.mul_comm (x k) (a w)
      omega
     ·have e1 : a k=-d k:=by rw[ha];exact if_neg hpos
      have e2 : σ k=x k-s*L k:=by rw[hσ];exact if_neg hpos
      rw[e1,e2,Int.sub_mul,Int.mul_neg] at hm
      have h1 : 0≤σ w * -d k:=Int.mul_nonneg (Int.le_of_lt hσw) (by omega)
      rw[Int.mul_neg] at h1
      have c1:=Int.mul_comm (s*L k) (a w)
      have c2:=Int.mul_comm (x k) (a w)
      omega
   ·rw[hDn k hk hkz,Int.mul_zero];omega
  refine ih (s:=a w*s) (x:=fun k=>a w*x k+σ w*D k) hs' ?_ hbound (fun r=>?_) (fun c=>?_)
  ·have hlt:=filt_lt (p:=free L U (a w*s) (fun k=>a w*x k+σ w*D k)) (q:=free L U s x) (W:=List.range K) (w:=w) ?_ (List.mem_range.2 ((hZm w).1 hwZ).1) ((hZm w).1 hwZ).2 ?_
   ·rw[← hZ] at hlt;omega
   ·intro k hk hf
    have hk':=List.mem_range.1 hk
    apply Decidable.by_contra
    intro hnf
    have hnz : k∉Z:=fun hh=>hnf ((hZm k).1 hh).2
    obtain⟨f1,f2⟩:=free_iff.1 hf
    simp only[hDn k hk' hnz,Int.mul_zero,Int.add_zero,hmL,hmU] at f1 f2
    rw[free_iff] at hnf
    apply hnf
    exact⟨fun e=>f1 (by rw[e]),fun e=>f2 (by rw[e])⟩
   ·have hfw:=hDZ w hwZ
    by_cases hpos : 0≤d w
    ·have e1 : a w=d w:=by rw[ha];exact if_pos hpos
     have e2 : σ w=s*U w-x w:=by rw[hσ];exact if_pos hpos
     have e3 : a w*x w+σ w*D w=a w*s*U w:=by
      rw[hfw,hmU,e2,← e1,Int.sub_mul]
      have c1:=Int.mul_comm (s*U w) (a w)
      have c2:=Int.mul_comm (x w) (a w)
      omega
     simp[free,e3]
    ·have e1 : a w=-d w:=by rw[ha];exact if_neg hpos
     have e2 : σ w=x w-s*L w:=by rw[hσ];exact if_neg hpos
     have e4 : d w=-a w:=by omega
     have e3 : a w*x w+σ w*D w=a w*s*L w:=by
      rw[hfw,hmL,e2,e4,Int.mul_neg,Int.sub_mul]
      have c1:=Int.mul_comm (s*L w) (a w)
      have c2:=Int.mul_comm (x w) (a w)
      omega
     simp[free,e3]
  ·rw[ls_add,ls_mul,ls_mul,hr,hDr,Int.mul_zero,Int.mul_zero];rfl
  ·rw[ls_add,ls_mul,ls_mul,hc,hDc,Int.mul_zero,Int.mul_zero];rfl
end Go.Xe.Rnd
