/- Tables whose lines add up to nothing can be rounded so that they still do: the rounding. Conditions: none. -/
import Derived.Test.YtimnlnfpblomnaaRX
namespace Go.Xe.Rnd
theorem filt_lt {p q : Nat→Bool} : ∀ {W : List Nat} {w : Nat},(∀ k∈W,p k=true→q k=true)→w∈W→q w=true→p w=false→(W.filter p).length<(W.filter q).length
 | [],_,_,h,_,_=>by simp at h
 | v::W,w,hpq,h,hq,hp=>by
  have hle : ∀ V : List Nat,(∀ k∈V,p k=true→q k=true)→(V.filter p).length≤(V.filter q).length:=by
   intro V
   induction V with
   | nil=>intro _;simp
   | cons y V ih=>
    intro hV
    have ih':=ih (fun k hk=>hV k (by simp[hk]))
    rw[List.filter_cons,List.filter_cons]
    by_cases h1 : p y=true
    ·rw[if_pos h1,if_pos (hV y (by simp) h1)]
     simp only[List.length_cons];omega
    ·rw[if_neg h1]
     split
     ·simp only[List.length_cons];omega
     ·exact ih'
  rw[List.filter_cons,List.filter_cons]
  rcases List.mem_cons.1 h with e|h'
  ·subst e
   rw[if_pos hq,if_neg (by rw[hp];simp)]
   have:=hle W (fun k hk=>hpq k (by simp[hk]))
   simp only[List.length_cons];omega
  ·have ih:=filt_lt (fun k hk=>hpq k (by simp[hk])) h' hq hp
   by_cases h1 : p v=true
   ·rw[if_pos h1,if_pos (hpq v (by simp) h1)]
    simp only[List.length_cons];omega
   ·rw[if_neg h1]
    split
    ·simp only[List.length_cons];omega
    ·exact ih
theorem first {σ a : Nat→Int} : ∀ {W : List Nat},W≠[]→(∀ z∈W,0<a z)→∃ w∈W,∀ z∈W,σ w*a z≤σ z*a w
 | [],h,_=>absurd rfl h
 | v::W,_,ha=>by
  by_cases h0 : W=[]
  ·subst h0
   refine⟨v,by simp,fun z hz=>?_⟩
   rw[List.mem_singleton] at hz
   rw[hz];exact Int.le_refl _
  ·obtain⟨w,hw,hm⟩:=first h0 (fun z hz=>ha z (by simp[hz]))
   have aw:=ha w (by simp[hw])
   have av:=ha v (by simp)
   by_cases hc : σ w*a v≤σ v*a w
   ·refine⟨w,by simp[hw],fun z hz=>?_⟩
    rcases List.mem_cons.1 hz with rfl|hz
    ·exact hc
    ·exact hm z hz
   ·refine⟨v,by simp,fun z hz=>?_⟩
    rcases List.mem_cons.1 hz with rfl|hz
    ·exact Int.le_refl _
    ·have h1:=hm z hz
     have az:=ha z (by simp[hz])
     refine Int.le_of_mul_le_mul_right (a:=a w) ?_ aw
     have h2 : σ v*a w≤σ w*a v:=by omega
     have h3 : σ v*a w*a z≤σ w*a v*a z:=Int.mul_le_mul_of_nonneg_right h2 (Int.le_of_lt az)
     have h4 : σ w*a z*a v≤σ z*a w*a v:=Int.mul_le_mul_of_nonneg_right h1 (Int.le_of_lt av)
     have e1 : σ v*a z*a w=σ v*a w*a z:=by rw[Int.mul_assoc,Int.mul_comm (a z),← Int.mul_assoc]
     have e2 : σ w*a v*a z=σ w*a z*a v:=by rw[Int.mul_assoc,Int.mul_comm (a v),← Int.mul_assoc]
     have e3 : σ z*a w*a v=σ z*a v*a w:=by rw[Int.mul_assoc,Int.mul_comm (a w),← Int.mul_assoc]
     rw[e1,← e3]
     rw[e2] at h3
     exact Int.le_trans h3 h4
def free (L U : Nat→Int) (s : Int) (x : Nat→Int) (k : Nat) : Bool:=!(decide (x k=s*L k) || decide (x k=s*U k))
theorem free_iff {L U : Nat→Int} {s : Int} {x : Nat→Int} {k : Nat} : free L U s x k=true↔x k≠s*L k∧x k≠s*U k:=by simp[free]
theorem exist {K N : Nat} {p g : Nat→Nat} {L U : Nat→Int} {b : Int} (hb : 0<b) (hp : ∀ k,k<K→p k<N) (hg : ∀ k,k<K→g k<N) (hLU : ∀ k,k<K→b ∣ L k∧(U k=L k∨U k=L k+b)) :
  ∀ {n : Nat} {s : Int} {x : Nat→Int},0<s→((List.range K).filter (free L U s x)).length≤n→(∀ k,k<K→s*L k≤x k∧x k≤s*U k)→(∀ r,ls (List.range K) p r x=0)→(∀ c,ls (List.range K) g c x=0) →
  ∃ y : Nat→Int,(∀ k,k<K→y k=L k∨y k=U k)∧(∀ r,ls (List.range K) p r y=0)∧∀ c,ls (List.range K) g c y=0:=by
 intro n
 induction n with
 | zero=>
  intro s x hs hn hx hr hc
  have hno : ∀ k,k<K→x k=s*L k∨x k=s*U k:=by
   intro k hk
   apply Decidable.by_contra
   intro h
   have hf : free L U s x k=true:=free_iff.2 ⟨fun e=>h (.inl e),fun e=>h (.inr e)⟩
   have hm : k∈(List.range K).filter (free L U s x):=List.mem_filter.2 ⟨List.mem_range.2 hk,hf⟩
   have:=List.length_pos_of_mem hm
   omega
  refine⟨fun k=>if x k=s*L k then L k else U k,fun k hk=>?_,?_,?_⟩
  ·simp only
   split
   ·exact .inl rfl
   ·exact .inr rfl
  ·intro r
   have h1:=ls_mul p r s (fun k=>if x k=s*L k then L k else U k) (List.range K)
   have h2 : ls (List.range K) p r (fun k=>s*(if x k=s*L k then L k else U k))=ls (List.range K) p r x:=ls_congr (fun k hk _=>by
    have hk':=List.mem_range.1 hk
    split
    ·rename_i e;exact e.symm
    ·rename_i e
     rcases hno k hk' with h|h
     ·exact absurd h e
     ·exact h.symm)
   rw[h2,hr r] at h1
   rcases Int.mul_eq_zero.1 h1.symm with h|h
   ·omega
   ·exact h
  ·intro r
   have h1:=ls_mul g r s (fun k=>if x k=s*L k then L k else U k) (List.range K)
   have h2 : ls (List.range K) g r (fun k=>s*(if x k=s*L k then L k else U k))=ls (List.range K) g r x:=ls_congr (fun k hk _=>by
    have hk':=List.mem_range.1 hk
    split
    ·rename_i e;exact e.symm
    ·rename_i e
     rcases hno k hk' with h|h
     ·exact absurd h e
     ·exact h.symm)
   rw[h2,hc r] at h1
   rcases Int.mul_eq_zero.1 h1.symm with h|h
   ·omega
   ·exact h
 | succ n ih=>
  intro s x hs hn hx hr hc
  by_cases h0 : ((List.range K).filter (free L U s x)).length≤n
  ·exact ih hs h0 hx hr hc
  obtain⟨Z,hZ⟩ : ∃ Z,Z=(List.range K).filter (free L U s x):=⟨_,rfl⟩
  rw[← hZ] at hn h0
  have hZm : ∀ z,z∈Z↔z<K∧free L U s x z=true:=fun z=>by rw[hZ,List.mem_filter,List.mem_range]
  have hZn : Z.Nodup:=by rw[hZ];exact List.Pairwise.filter _ List.nodup_range
  have hZ0 : Z≠[]:=by rintro e;rw[e] at h0;simp at h0
  -- a free entry is no multiple
  have hfree : ∀ z,z∈Z→s*L z<x z∧x z<s*U z∧U z=L z+b:=by
   intro z hz
   obtain⟨h1,h2⟩:=(hZm z).1 hz
   obtain⟨h3,h4⟩:=free_iff.1 h2
   obtain⟨h5,h6⟩:=hx z h1
   obtain⟨_,h8⟩:=hLU z h1
   refine⟨by omega,by omega,?_⟩
   rcases h8 with h8|h8
   ·rw[h8] at h6 h4;omega
   ·exact h8
  have hmul : ∀ k,k<K→k∉Z→s*b ∣ x k:=by
   intro k hk hnz
   obtain⟨h1,h2⟩:=hLU k hk
   have hl : s*b ∣ s*L k:=Int.mul_dvd_mul_left s h1
   have hu : s*b ∣ s*U k:=by
    rcases h2 with h2|h2
    ·rw[h2];exact hl
    ·rw[h2];exact Int.mul_dvd_mul_left s (Int.dvd_add h1 (Int.dvd_refl b))
   have : ¬ free L U s x k=true:=fun hh=>hnz ((hZm k).2 ⟨hk,hh⟩)
   rw[free_iff] at this
   by_cases e : x k=s*L k
   ·rw[e];exact hl
   ·have e2 : x k=s*U k:=Decidable.by_contra (fun e2=>this ⟨e,e2⟩)
    rw[e2];exact hu
  have hsb : 0<s*b:=Int.mul_pos hs hb
  have htwo : ∀ (q : Nat→Nat),(∀ r,ls (List.range K) q r x=0)→∀ z∈Z,∃ z2∈Z,z≠z2∧q z=q z2:=by
   intro q hq z hz
   apply Decidable.by_contra
   intro hno
   have hzK:=((hZm z).1 hz).1
   have hd : s*b ∣ ls (List.range K) q (q z) (fun k=>if k=z then 0 else x k):=ls_dvd (fun k hk hqk=>by
    have hk':=List.mem_range.1 hk
    split
    ·exact⟨0,(Int.mul_zero _).symm⟩
    ·rename_i hne
     exact hmul k hk' (fun hkz=>hno ⟨k,hkz,fun e=>hne e.symm,hqk.symm⟩))
   have hsum : ls (List.range K) q (q z) x=ls (List.range K) q (q z) (fun k=>if k=z then 0 else x k)+x z:=by
    have e1 : ls (List.range K) q (q z) x=ls (List.range K) q (q z) (fun k=>(if k=z then 0 else x k)+(if k=z then x z else 0)):=ls_congr (fun k _ _=>by
     by_cases e : k=z
     ·rw[if_pos e,if_pos e,e];omega
     ·rw[if_neg e,if_neg e];omega)
    rw[e1,ls_add,ls_one q (q z) (x z) List.nodup_range (List.mem_range.2 hzK),if_pos rfl]
   rw[hq] at hsum
   have hdx : s*b ∣ x z:=by
    have : x z=-ls (List.range K) q (q z) (fun k=>if k=z then 0 else x k):=by omega
    rw[this];exact Int.dvd_neg.2 hd
   obtain⟨f1,f2,f3⟩:=hfree z hz
   have hdl : s*b ∣ s*L z:=Int.mul_dvd_mul_left s (hLU z hzK).1
   have hdd : s*b ∣ x z-s*L z:=Int.dvd_sub hdx hdl
   have:=Int.le_of_dvd (by omega) hdd
   rw[f3,Int.mul_add] at f2
   omega
  have hcount : ∀ q : Nat→Nat,(∀ k,k<K→q k<N)→(∀ r,ls (List.range K) q r x=0)→∃ Rl : List Nat,Rl.Nodup∧(∀ z∈Z,q z∈Rl)∧2*Rl.length≤Z.length:=by
   intro q hqN hq
   refine⟨(List.range N).filter (fun r=>Z.any fun z=>q z == r),List.Pairwise.filter _ List.nodup_range,fun z hz=>?_,?_⟩
   ·rw[List.mem_filter]
    exact⟨List.mem_range.2 (hqN z ((hZm z).1 hz).1),by rw[List.any_eq_true];exact⟨z,hz,by simp⟩⟩
   ·refine cnt (p:=q) (List.Pairwise.filter _ List.nodup_range) (fun r hr=>?_)
    rw[List.mem_filter,List.any_eq_true] at hr
    obtain⟨_,z,hz,e⟩:=hr
    have e' : q z=r:=by simpa using e
    obtain⟨z2,h1,h2,h3⟩:=htwo q hq z hz
    exact⟨z,hz,z2,h1,h2,e',by rw[← h3];exact e'⟩
  obtain⟨Rl,r1,r2,r3⟩:=hcount p hp hr
  obtain⟨Cl,c1,c2,c3⟩:=hcount g hg hc
  obtain⟨d,⟨w0,hw0,hd0⟩,hd1,hd2⟩:=kern rfl hZn r1 r2 c2 (by omega) hZ0
  -- the step
  obtain⟨D,hD⟩ : ∃ D : Nat→Int,D=fun k=>if free L U s x k=true then d k else 0:=⟨_,rfl⟩
  have hDr : ∀ r,ls (List.range K) p r D=0:=fun r=>by rw[hD,← ls_filter,← hZ];exact hd1 r
  have hDc : ∀ r,ls (List.range K) g r D=0:=fun r=>by rw[hD,← ls_filter,← hZ];exact hd2 r
  have hDZ : ∀ k,k∈Z→D k=d k:=fun k hk=>by rw[hD];exact if_pos ((hZm k).1 hk).2
  have hDn : ∀ k,k<K→k∉Z→D k=0:=fun k hk hnz=>by
   rw[hD];exact if_neg (fun hh=>hnz ((hZm k).2 ⟨hk,hh⟩))
  obtain⟨a,ha⟩ : ∃ a : Nat→Int,a=fun k=>if 0≤d k then d k else -d k:=⟨_,rfl⟩
  obtain⟨σ,hσ⟩ : ∃ σ : Nat→Int,σ=fun k=>if 0≤d k then s*U k-x k else x k-s*L k:=⟨_,rfl⟩
  have hW : ∀ k,k∈Z.filter (fun z=>decide (d z≠0))↔k∈Z∧d k≠0:=fun k=>by rw[List.mem_filter];simp
  have hapos : ∀ k,d k≠0→0<a k:=fun k hk=>by rw[ha];simp only;split<;>omega
  obtain⟨w,hw,hmin⟩:=first (σ:=σ) (a:=a) (W:=Z.filter (fun z=>decide (d z≠0))) (fun e=>by
   have : w0∈Z.filter (fun z=>decide (d z≠0)):=(hW w0).2 ⟨hw0,hd0⟩
   rw[e] at this;simp at this) (fun z hz=>hapos z ((hW z).1 hz).2)
  obtain⟨hwZ,hwd⟩:=(hW w).1 hw
  have haw:=hapos w hwd
  have hσpos : ∀ k,k∈Z→0<σ k:=fun k hk=>by
   obtain⟨f1,f2,_⟩:=hfree k hk
   rw[hσ];simp only;split<;>omega
  have hσw:=hσpos w hwZ
  have hs' : 0<a w*s:=Int.mul_pos haw hs
  have hmL : ∀ k,a w*s*L k=a w*(s*L k):=fun k=>Int.mul_assoc _ _ _
  have hmU : ∀ k,a w*s*U k=a w*(s*U k):=fun k=>Int.mul_assoc _ _ _
  have hbound : ∀ k,k<K→a w*s*L k≤a w*x k+σ w*D k∧a w*x k+σ w*D k≤a w*s*U k:=by
   intro k hk
   obtain⟨x1,x2⟩:=hx k hk
   have y1 : a w*(s*L k)≤a w*x k:=Int.mul_le_mul_of_nonneg_left x1 (Int.le_of_lt haw)
   have y2 : a w*x k≤a w*(s*U k):=Int.mul_le_mul_of_nonneg_left x2 (Int.le_of_lt haw)
   rw[hmL,hmU]
   by_cases hkz : k∈Z
   ·rw[hDZ k hkz]
    by_cases hdk : d k=0
    ·rw[hdk,Int.mul_zero];omega
    ·have hm:=hmin k ((hW k).2 ⟨hkz,hdk⟩)
     by_cases hpos : 0≤d k
     ·have e1 : a k=d k:=by rw[ha];exact if_pos hpos
      have e2 : σ k=s*U k-x k:=by rw[hσ];exact if_pos hpos
      rw[e1,e2,Int.sub_mul] at hm
      have h1 : 0≤σ w*d k:=Int.mul_nonneg (Int.le_of_lt hσw) hpos
      have c1:=Int.mul_comm (s*U k) (a w)
      have c2:=Int.mul_comm (x k) (a w)
      omega
     ·have e1 : a k=-d k:=by rw[ha];exact if_neg hpos
      have e2 : σ k=x k-s*L k:=by rw[hσ];exact if_neg hpos
      rw[e1,e2,Int.sub_mul,Int.mul_neg] at hm
      have h1 : 0≤σ w * -d k:=Int.mul_nonneg (Int.le_of_lt hσw) (by omega)
      rw[Int.mul_neg] at h1
      have c1:=Int.mul_comm (s*L k) (a w)
      have c2:=Int.mul_comm (x k) (a w)
      omega
   ·rw[hDn k hk hkz,Int.mul_zero];omega
  refine ih (s:=a w*s) (x:=fun k=>a w*x k+σ w*D k) hs' ?_ hbound (fun r=>?_) (fun c=>?_)
  ·have hlt:=filt_lt (p:=free L U (a w*s) (fun k=>a w*x k+σ w*D k)) (q:=free L U s x) (W:=List.range K) (w:=w) ?_ (List.mem_range.2 ((hZm w).1 hwZ).1) ((hZm w).1 hwZ).2 ?_
   ·rw[← hZ] at hlt;omega
   ·intro k hk hf
    have hk':=List.mem_range.1 hk
    apply Decidable.by_contra
    intro hnf
    have hnz : k∉Z:=fun hh=>hnf ((hZm k).1 hh).2
    obtain⟨f1,f2⟩:=free_iff.1 hf
    simp only[hDn k hk' hnz,Int.mul_zero,Int.add_zero,hmL,hmU] at f1 f2
    rw[free_iff] at hnf
    apply hnf
    exact⟨fun e=>f1 (by rw[e]),fun e=>f2 (by rw[e])⟩
   ·have hfw:=hDZ w hwZ
    by_cases hpos : 0≤d w
    ·have e1 : a w=d w:=by rw[ha];exact if_pos hpos
     have e2 : σ w=s*U w-x w:=by rw[hσ];exact if_pos hpos
     have e3 : a w*x w+σ w*D w=a w*s*U w:=by
      rw[hfw,hmU,e2,← e1,Int.sub_mul]
      have c1:=Int.mul_comm (s*U w) (a w)
      have c2:=Int.mul_comm (x w) (a w)
      omega
     simp[free,e3]
    ·have e1 : a w=-d w:=by rw[ha];exact if_neg hpos
     have e2 : σ w=x w-s*L w:=by rw[hσ];exact if_neg hpos
     have e4 : d w=-a w:=by omega
     have e3 : a w*x w+σ w*D w=a w*s*L w:=by
      rw[hfw,hmL,e2,e4,Int.mul_neg,Int.sub_mul]
      have c1:=Int.mul_comm (s*L w) (a w)
      have c2:=Int.mul_comm (x w) (a w)
      omega
     simp[free,e3]
  ·rw[ls_add,ls_mul,ls_mul,hr,hDr,Int.mul_zero,Int.mul_zero];rfl
  ·rw[ls_add,ls_mul,ls_mul,hc,hDc,Int.mul_zero,Int.mul_zero];rfl
end Go.Xe.Rnd
/- A table without fixes has a rounding. Conditions: none. -/
namespace Go.Xe.TRX
open Go Go.Xe Go.Proofs
open Go.Xe.Rnd
def sumR (w : Nat) (f : Nat→Int) : Int:=sm ((List.range w).map f)
theorem sumR_s (w : Nat) (f : Nat→Int) : sumR (w+1) f=sumR w f+f w:=by
 unfold sumR
 rw[List.range_succ,List.map_append,sm_app]
 show _+(f w+0)=_
 rw[Int.add_zero]
theorem sumR_congr {f g : Nat→Int} : ∀ {w : Nat},(∀ j,j<w→f j=g j)→sumR w f=sumR w g
 | 0,_=>rfl
 | w+1,h=>by rw[sumR_s,sumR_s,sumR_congr (fun j hj=>h j (by omega)),h w (by omega)]
theorem sumR_neg (f : Nat→Int) : ∀ w,sumR w (fun j=>-f j)=-sumR w f
 | 0=>rfl
 | w+1=>by rw[sumR_s,sumR_s,sumR_neg f w];omega
theorem sumR_add (f g : Nat→Int) : ∀ w,sumR w (fun j=>f j+g j)=sumR w f+sumR w g
 | 0=>rfl
 | w+1=>by rw[sumR_s,sumR_s,sumR_s,sumR_add f g w];omega
theorem sumR_zero : ∀ w,sumR w (fun _=>0)=0
 | 0=>rfl
 | w+1=>by rw[sumR_s,sumR_zero w];rfl
theorem sumR_swap (a : Nat→Nat→Int) (m : Nat) : ∀ n,sumR n (fun i=>sumR m (a i))=sumR m (fun j=>sumR n (fun i=>a i j))
 | 0=>(sumR_zero m).symm
 | n+1=>by
  rw[sumR_s,sumR_swap a m n]
  have : sumR m (fun j=>sumR (n+1) (fun i=>a i j))=sumR m (fun j=>sumR n (fun i=>a i j)+a n j):=sumR_congr (fun j _=>sumR_s _ _)
  rw[this,sumR_add]
theorem sm_R : ∀ (l : List Int),sm l=sumR l.length (fun j=>l.getD j 0)
 | []=>rfl
 | x::l=>by
  have h : ∀ w,sumR (w+1) (fun j=>(x::l).getD j 0)=x+sumR w (fun j=>l.getD j 0):=by
   intro w
   induction w with
   | zero=>
    rw[sumR_s]
    show 0+x=x+0
    omega
   | succ w ih=>
    rw[sumR_s,ih,sumR_s]
    show x+sumR w _+l.getD w 0=_
    omega
  show x+sm l=sumR (l.length+1) _
  rw[h,sm_R l]
theorem sm_map (f : List Int→Int) (C : List (List Int)) : sm (C.map f)=sumR C.length (fun i=>f (C.getD i [])):=by
 rw[sm_R,List.length_map]
 refine sumR_congr (fun j hj=>?_)
 rw[List.getD_eq_getElem?_getD,List.getElem?_eq_getElem (by rw[List.length_map];exact hj),List.getElem_map,gdl hj]
 rfl
theorem ls_app (p : Nat→Nat) (r : Nat) (d : Nat→Int) (A B : List Nat) : ls (A++B) p r d=ls A p r d+ls B p r d:=by
 unfold ls
 rw[List.map_append,sm_app]
theorem rng_add (a b : Nat) : List.range (a+b)=List.range a++(List.range b).map (a+·):=by
 apply List.ext_getElem
 ·simp
 ·intro i h1 h2
  rw[List.getElem_append]
  split
  ·simp
  ·rename_i h
   simp at h ⊢
   omega
theorem blk {P w j : Nat} (hj : j<w) : (P*w+j)/w=P∧(P*w+j)%w=j:=by
 have hw : 0<w:=by omega
 constructor
 ·rw[Nat.mul_comm,Nat.mul_add_div hw,Nat.div_eq_of_lt hj,Nat.add_zero]
 ·rw[Nat.mul_comm,Nat.mul_add_mod,Nat.mod_eq_of_lt hj]
theorem ls_rows (A : Nat→Nat→Int) {w : Nat} (i : Nat) : ∀ P,ls (List.range (P*w)) (fun k=>k/w) i (fun k=>A (k/w) (k%w))=if i<P then sumR w (A i) else 0
 | 0=>by simp[ls,sm]
 | P+1=>by
  rw[Nat.succ_mul,rng_add,ls_app,ls_rows A i P]
  have e : ls ((List.range w).map (P*w+·)) (fun k=>k/w) i (fun k=>A (k/w) (k%w))=if i=P then sumR w (A P) else 0:=by
   unfold ls
   rw[List.map_map]
   have e1 : sm ((List.range w).map ((fun z=>if z/w=i then A (z/w) (z%w) else 0) ∘ fun x=>P*w+x))=sumR w (fun j=>if i=P then A P j else 0):=by
    show sumR w _=_
    refine sumR_congr (fun j hj=>?_)
    obtain⟨b1,b2⟩:=blk (P:=P) hj
    simp only[Function.comp,b1,b2]
    by_cases h : i=P
    ·rw[if_pos h.symm,if_pos h]
    ·rw[if_neg (fun e=>h e.symm),if_neg h]
   rw[e1]
   by_cases h : i=P
   ·simp only[if_pos h]
   ·simp only[if_neg h];exact sumR_zero w
  rw[e]
  by_cases h : i=P
  ·subst h
   rw[if_neg (by omega),if_pos rfl,if_pos (by omega)];omega
  ·rw[if_neg h]
   by_cases h2 : i<P
   ·rw[if_pos h2,if_pos (by omega)];omega
   ·rw[if_neg h2,if_neg (by omega)];rfl
theorem pick (f : Nat→Int) (j : Nat) : ∀ w,sumR w (fun k=>if k=j then f k else 0)=if j<w then f j else 0
 | 0=>rfl
 | w+1=>by
  rw[sumR_s,pick f j w]
  by_cases h : w=j
  ·subst h
   rw[if_neg (by omega),if_pos rfl,if_pos (by omega)];omega
  ·rw[if_neg h]
   by_cases h2 : j<w
   ·rw[if_pos h2,if_pos (by omega)];omega
   ·rw[if_neg h2,if_neg (by omega)];rfl
theorem ls_cols (A : Nat→Nat→Int) {w : Nat} (j : Nat) : ∀ P,ls (List.range (P*w)) (fun k=>k%w) j (fun k=>A (k/w) (k%w))=if j<w then sumR P (fun i=>A i j) else 0
 | 0=>by
  rw[Nat.zero_mul]
  show (0 : Int)=_
  split<;>rfl
 | P+1=>by
  rw[Nat.succ_mul,rng_add,ls_app,ls_cols A j P]
  have e : ls ((List.range w).map (P*w+·)) (fun k=>k%w) j (fun k=>A (k/w) (k%w))=if j<w then A P j else 0:=by
   unfold ls
   rw[List.map_map,← pick (fun k=>A P k) j w]
   show sumR w _=_
   refine sumR_congr (fun k hk=>?_)
   obtain⟨b1,b2⟩:=blk (P:=P) hk
   simp only[Function.comp,b1,b2]
  rw[e]
  split
  ·rw[sumR_s]
  ·rfl
theorem lo_dvd {b n : Int} (hb : 2≤b) (hn : 0≤n) : b ∣ lo b n∧b ∣ hi b n∧lo b n≤n∧n≤hi b n∧(hi b n=lo b n∨hi b n=lo b n+b):=by
 have h1:=lo_mul hb hn
 have h2:=lo_mul (b:=b) (n:=n+b-1) hb (by omega)
 have d1 : b ∣ lo b n:=Int.dvd_of_emod_eq_zero h1.1
 have d2 : b ∣ hi b n:=by unfold hi;exact Int.dvd_of_emod_eq_zero h2.1
 have e : hi b n=lo b (n+b-1):=rfl
 refine⟨d1,d2,h1.2.1,by omega,?_⟩
 obtain⟨q,hq⟩:=Int.dvd_sub d2 d1
 have g1 : -b<hi b n-lo b n:=by omega
 have g2 : hi b n-lo b n<2*b:=by omega
 rw[hq] at g1 g2
 have q1 : -1<q:=by
  have : b * -1<b*q:=by omega
  exact Int.lt_of_mul_lt_mul_left this (by omega)
 have q2 : q<2:=by
  have : b*q<b*2:=by omega
  exact Int.lt_of_mul_lt_mul_left this (by omega)
 rcases (by omega : q=0∨q=1) with rfl|rfl
 ·left;omega
 ·right;omega
theorem rnds_some {T : Tb} (hf : fits T) (hv : valid T) (hF : T.F=[]) : rnds T≠[]:=by
 obtain⟨n,hn⟩ : ∃ n,n=T.C.length:=⟨_,rfl⟩
 obtain⟨m,hm⟩ : ∃ m,m=cols T:=⟨_,rfl⟩
 obtain⟨a,ha⟩ : ∃ a : Nat→Nat→Int,a=fun i j=>(T.C.getD i []).getD j 0:=⟨_,rfl⟩
 have hb:=hv.1
 have ann : ∀ i j,0≤a i j:=fun i j=>by rw[ha];exact cell_nn hv i j
 have snn : ∀ (f : Nat→Int) w,(∀ j,0≤f j)→0≤sumR w f:=by
  intro f w h
  induction w with
  | zero=>exact Int.le_refl _
  | succ w ih=>rw[sumR_s];have:=h w;omega
 obtain⟨R,hR⟩ : ∃ R : Nat→Int,R=fun i=>sumR m (a i):=⟨_,rfl⟩
 obtain⟨Cc,hCc⟩ : ∃ Cc : Nat→Int,Cc=fun j=>sumR n (fun i=>a i j):=⟨_,rfl⟩
 obtain⟨tot,htot⟩ : ∃ tot,tot=sumR n R:=⟨_,rfl⟩
 have htot2 : tot=sumR m Cc:=by rw[htot,hR,hCc];exact sumR_swap a m n
 have Rnn : ∀ i,0≤R i:=fun i=>by rw[hR];exact snn _ _ (ann i)
 have Cnn : ∀ j,0≤Cc j:=fun j=>by rw[hCc];exact snn _ _ (fun i=>ann i j)
 have tnn : 0≤tot:=by rw[htot];exact snn _ _ Rnn
 obtain⟨A,hA⟩ : ∃ A : Nat→Nat→Int,A=fun i j=>if i<n then (if j<m then a i j else -R i) else (if j<m then -Cc j else tot):=⟨_,rfl⟩
 obtain⟨L,hL⟩ : ∃ L : Nat→Nat→Int,L=fun i j=>if i<n then (if j<m then lo T.b (a i j) else -hi T.b (R i)) else (if j<m then -hi T.b (Cc j) else lo T.b tot):=⟨_,rfl⟩
 obtain⟨U,hU⟩ : ∃ U : Nat→Nat→Int,U=fun i j=>if i<n then (if j<m then hi T.b (a i j) else -lo T.b (R i)) else (if j<m then -lo T.b (Cc j) else hi T.b tot):=⟨_,rfl⟩
 have hAll : ∀ i j,T.b ∣ L i j∧(U i j=L i j∨U i j=L i j+T.b)∧L i j≤A i j∧A i j≤U i j:=by
  intro i j
  rw[hL,hU,hA]
  simp only
  by_cases h1 : i<n
  ·by_cases h2 : j<m
   ·simp only[if_pos h1,if_pos h2]
    obtain⟨q1,q2,q3,q4,q5⟩:=lo_dvd hb.1 (ann i j)
    exact⟨q1,q5,q3,q4⟩
   ·simp only[if_pos h1,if_neg h2]
    obtain⟨q1,q2,q3,q4,q5⟩:=lo_dvd hb.1 (Rnn i)
    exact⟨Int.dvd_neg.2 q2,by omega,by omega,by omega⟩
  ·by_cases h2 : j<m
   ·simp only[if_neg h1,if_pos h2]
    obtain⟨q1,q2,q3,q4,q5⟩:=lo_dvd hb.1 (Cnn j)
    exact⟨Int.dvd_neg.2 q2,by omega,by omega,by omega⟩
   ·simp only[if_neg h1,if_neg h2]
    obtain⟨q1,q2,q3,q4,q5⟩:=lo_dvd hb.1 tnn
    exact⟨q1,q5,q3,q4⟩
 have hrow : ∀ i,i<n+1→sumR (m+1) (A i)=0:=by
  intro i hi
  rw[sumR_s]
  by_cases h1 : i<n
  ·have e1 : sumR m (A i)=R i:=by
    rw[hR]
    refine sumR_congr (fun j hj=>?_)
    rw[hA];simp only[if_pos h1,if_pos hj]
   have e2 : A i m=-R i:=by rw[hA];simp only[if_pos h1,if_neg (Nat.lt_irrefl m)]
   omega
  ·have e1 : sumR m (A i)=-sumR m Cc:=by
    rw[← sumR_neg]
    refine sumR_congr (fun j hj=>?_)
    rw[hA];simp only[if_neg h1,if_pos hj]
   have e2 : A i m=tot:=by rw[hA];simp only[if_neg h1,if_neg (Nat.lt_irrefl m)]
   omega
 have hcol : ∀ j,j<m+1→sumR (n+1) (fun i=>A i j)=0:=by
  intro j hj
  rw[sumR_s]
  by_cases h1 : j<m
  ·have e1 : sumR n (fun i=>A i j)=Cc j:=by
    rw[hCc]
    refine sumR_congr (fun i hi=>?_)
    rw[hA];simp only[if_pos h1,if_pos hi]
   have e2 : A n j=-Cc j:=by rw[hA];simp only[if_pos h1,if_neg (Nat.lt_irrefl n)]
   omega
  ·have e1 : sumR n (fun i=>A i j)=-sumR n R:=by
    rw[← sumR_neg]
    refine sumR_congr (fun i hi=>?_)
    rw[hA];simp only[if_neg h1,if_pos hi]
   have e2 : A n j=tot:=by rw[hA];simp only[if_neg h1,if_neg (Nat.lt_irrefl n)]
   omega
 have hw : 0<m+1:=Nat.succ_pos m
 obtain⟨y,y1,y2,y3⟩:=exist (K:=(n+1)*(m+1)) (N:=(n+1)+(m+1)) (p:=fun k=>k/(m+1)) (g:=fun k=>k%(m+1)) (L:=fun k=>L (k/(m+1)) (k%(m+1))) (U:=fun k=>U (k/(m+1)) (k%(m+1))) (b:=T.b) (by omega)
  (fun k hk=>by have : k/(m+1)<n+1:=Nat.div_lt_of_lt_mul (by rw[Nat.mul_comm];exact hk);omega)
  (fun k _=>by have:=Nat.mod_lt k hw;omega)
  (fun k _=>⟨(hAll _ _).1,(hAll _ _).2.1⟩) (n:=(n+1)*(m+1)) (s:=1) (x:=fun k=>A (k/(m+1)) (k%(m+1))) (by decide) (by
   refine Nat.le_trans (List.length_filter_le _ _) ?_
   simp) (fun k _=>by
   obtain⟨_,_,q3,q4⟩:=hAll (k/(m+1)) (k%(m+1))
   omega) (fun r=>by
   rw[ls_rows A r (n+1)]
   split
   ·rename_i h;exact hrow r h
   ·rfl) (fun r=>by
   rw[ls_cols A r (n+1)]
   split
   ·rename_i h;exact hcol r h
   ·rfl)
 obtain⟨Y,hY⟩ : ∃ Y : Nat→Nat→Int,Y=fun i j=>y (i*(m+1)+j):=⟨_,rfl⟩
 have hyY : y=fun k=>Y (k/(m+1)) (k%(m+1)):=by
  funext k
  rw[hY]
  simp only
  rw[Nat.div_add_mod']
 have hYv : ∀ i j,i<n+1→j<m+1→Y i j=L i j∨Y i j=U i j:=by
  intro i j hi hj
  have hk : i*(m+1)+j<(n+1)*(m+1):=by
   have : (i+1)*(m+1)≤(n+1)*(m+1):=Nat.mul_le_mul_right _ (by omega)
   rw[Nat.succ_mul] at this
   omega
  have:=y1 _ hk
  obtain⟨b1,b2⟩:=blk (P:=i) hj
  simp only[b1,b2] at this
  rw[hY];exact this
 have hYr : ∀ i,i<n+1→sumR (m+1) (Y i)=0:=by
  intro i hi
  have:=y2 i
  rw[hyY,ls_rows Y i (n+1),if_pos hi] at this
  exact this
 have hYc : ∀ j,j<m+1→sumR (n+1) (fun i=>Y i j)=0:=by
  intro j hj
  have:=y3 j
  rw[hyY,ls_cols Y j (n+1),if_pos hj] at this
  exact this
 obtain⟨N,hN⟩ : ∃ N : List (List Int),N=(List.range n).map fun i=>(List.range m).map (Y i):=⟨_,rfl⟩
 have hNl : N.length=n:=by rw[hN];simp
 have hNg : ∀ i,i<n→N.getD i []=(List.range m).map (Y i):=by
  intro i hi
  rw[hN,List.getD_eq_getElem?_getD,List.getElem?_map,List.getElem?_range hi]
  rfl
 have hNd : ∀ i j,i<n→j<m→(N.getD i []).getD j 0=Y i j:=by
  intro i j hi hj
  rw[hNg i hi,List.getD_eq_getElem?_getD,List.getElem?_map,List.getElem?_range hj]
  rfl
 have hCl : ∀ i,i<n→(T.C.getD i []).length=m:=by
  intro i hi
  have h : i<T.C.length:=by omega
  rw[gdl h,hm]
  exact (hv.2.2.1 _ (List.getElem_mem h)).1
 have hin : ∀ i j,i<n→j<m→rd T.b (Y i j) (a i j):=by
  intro i j hi hj
  have:=hYv i j (by omega) (by omega)
  rw[hL,hU] at this
  simp only[if_pos hi,if_pos hj] at this
  exact this
 have hrm : ∀ i,i<n→rd T.b (-Y i m) (R i):=by
  intro i hi
  have:=hYv i m (by omega) (by omega)
  rw[hL,hU] at this
  simp only[if_pos hi,if_neg (Nat.lt_irrefl m)] at this
  unfold rd
  omega
 have hcm : ∀ j,j<m→rd T.b (-Y n j) (Cc j):=by
  intro j hj
  have:=hYv n j (by omega) (by omega)
  rw[hL,hU] at this
  simp only[if_neg (Nat.lt_irrefl n),if_pos hj] at this
  unfold rd
  omega
 have htm : rd T.b (Y n m) tot:=by
  have:=hYv n m (by omega) (by omega)
  rw[hL,hU] at this
  simp only[if_neg (Nat.lt_irrefl n),if_neg (Nat.lt_irrefl m)] at this
  exact this
 have hsr : ∀ i,i<n→sm (N.getD i [])=-Y i m:=by
  intro i hi
  have h1:=hYr i (by omega)
  rw[sumR_s] at h1
  have h2 : sm (N.getD i [])=sumR m (Y i):=by rw[hNg i hi];rfl
  omega
 have hsC : ∀ i,i<n→sm (T.C.getD i [])=R i:=by
  intro i hi
  rw[sm_R,hCl i hi,hR,ha]
 have hNrow : ∀ r∈N,r.length=m:=by
  intro r hr
  rw[hN] at hr
  obtain⟨i,_,rfl⟩:=List.mem_map.1 hr
  simp
 have hCrow : ∀ r∈T.C,r.length=m:=fun r hr=>by rw[hm];exact (hv.2.2.1 r hr).1
 have hc4 : m≤4:=by rw[hm];exact cols_le hf
 have hdN : ∀ j,j<m→due N j=-Y n j:=by
  intro j hj
  have h1:=hYc j (by omega)
  rw[sumR_s] at h1
  have h2 : due N j=sumR n (fun i=>Y i j):=by
   unfold due
   rw[sm_map,hNl]
   exact sumR_congr (fun i hi=>hNd i j hi hj)
  omega
 have hdC : ∀ j,due T.C j=Cc j:=by
  intro j
  unfold due
  rw[sm_map,hCc,ha,hn]
 have hlo0 : lo T.b 0=0:=by unfold lo;simp
 intro he
 have hmem : N∈rnds T:=by
  refine rnds_mem.2 ⟨⟨by rw[hNl,hn],fun r hr=>by rw[hNrow r hr,hm]⟩,fun r hr=>?_,fun j _=>?_,?_⟩
  ·have hr' : r<n:=by omega
   refine⟨fun k hk=>?_,?_,fun k _ x hx=>by rw[hF] at hx;simp at hx⟩
   ·have hk' : k<m:=by rw[hNg r hr'] at hk;simpa using hk
    rw[hNd r k hr' hk']
    have:=hin r k hr' hk'
    rw[ha] at this
    exact this
   ·rw[hsr r hr',hsC r hr']
    exact hrm r hr'
  ·by_cases hj : j<m
   ·rw[hdN j hj,hdC j];exact hcm j hj
   ·rw[due_out hNrow (by omega),due_out hCrow (by omega)]
    exact .inl hlo0.symm
  ·rw[l4_sum (fun r hr=>by rw[hNrow r hr];exact hc4),l4_sum (fun r hr=>by rw[hCrow r hr];exact hc4)]
   have e1 : sm (rsm N)=Y n m:=by
    have h1:=hYc m (by omega)
    rw[sumR_s] at h1
    have h2 : sm (rsm N)=sumR n (fun i=>-Y i m):=by
     unfold rsm
     rw[sm_map,hNl]
     exact sumR_congr (fun i hi=>hsr i hi)
    rw[sumR_neg] at h2
    omega
   have e2 : sm (rsm T.C)=tot:=by
    unfold rsm
    rw[sm_map,htot,← hn]
    exact sumR_congr (fun i hi=>hsC i hi)
   rw[e1,e2];exact htm
 rw[he] at hmem
 simp at hmem
end Go.Xe.TRX
