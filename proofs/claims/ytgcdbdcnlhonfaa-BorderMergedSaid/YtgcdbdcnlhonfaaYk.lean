/- Totals that are divided by weights: sums of lists, the first greatest element, and the parts. Conditions: none. -/
import Derived.Test.YtgcdbdcnlhonfaaZt
import Derived.Test.YtgcdbdcnlhonfaaZb
namespace Go.Xe.Rnd
def sm : List Int→Int
 | []=>0
 | x::l=>x+sm l
theorem sm_app : ∀ (a b : List Int),sm (a++b)=sm a+sm b
 | [],b=>by simp[sm]
 | x::a,b=>by simp only[List.cons_append,sm,sm_app a b];omega
theorem sm_take {l : List Int} {k : Nat} (h : k<l.length) : sm (l.take (k+1))=sm (l.take k)+l[k]:=by
 rw[List.take_succ_eq_append_getElem h,sm_app];simp[sm]
theorem sm_bound {c : Int} : ∀ {l : List Int},(∀ x∈l,0≤x∧x≤c)→0≤sm l∧sm l≤l.length*c
 | [],_=>by simp[sm]
 | x::l,h=>by
  have h1:=h x (by simp)
  have h2:=sm_bound (l:=l) (fun y hy=>h y (by simp[hy]))
  simp only[sm,List.length_cons]
  have : ((l.length+1 : Nat) : Int)*c=(l.length : Int)*c+c:=by push_cast;rw[Int.add_mul];simp
  omega
theorem sm_map_mul (c : Int) : ∀ l : List Int,sm (l.map fun x=>c*x)=c*sm l
 | []=>by simp[sm]
 | x::l=>by simp only[List.map_cons,sm,sm_map_mul c l,Int.mul_add]
structure FMx (l : List Int) (i : Nat) : Prop where
 lt : i<l.length
 ge : ∀ j,j<l.length→l.getD j 0≤l.getD i 0
 first : ∀ j,j<i→l.getD j 0<l.getD i 0
def fmx : List Int→Nat
 | []=>0
 | [_]=>0
 | x::y::l=>if x<(y::l).getD (fmx (y::l)) 0 then fmx (y::l)+1 else 0
theorem fmx_ok : ∀ {l : List Int},l≠[]→FMx l (fmx l)
 | [],h=>absurd rfl h
 | [x],_=>⟨by simp[fmx],fun j hj=>by simp at hj;subst hj;simp[fmx],fun j hj=>by simp[fmx] at hj⟩
 | x::y::l,_=>by
  have ih:=fmx_ok (l:=y::l) (by simp)
  simp only[fmx]
  split
  ·rename_i hx
   refine⟨by have:=ih.lt;simp only[List.length_cons] at this ⊢;omega,fun j hj=>?_,fun j hj=>?_⟩
   ·cases j with
    | zero=>simp only[List.getD_cons_zero,List.getD_cons_succ];omega
    | succ j=>simp only[List.getD_cons_succ];exact ih.ge j (by simp only[List.length_cons] at hj ⊢;omega)
   ·cases j with
    | zero=>simp only[List.getD_cons_zero,List.getD_cons_succ];omega
    | succ j=>simp only[List.getD_cons_succ];exact ih.first j (by omega)
  ·rename_i hx
   refine⟨by simp,fun j hj=>?_,fun j hj=>by omega⟩
   cases j with
   | zero=>exact Int.le_refl _
   | succ j=>
    simp only[List.getD_cons_zero,List.getD_cons_succ]
    have:=ih.ge j (by simp only[List.length_cons] at hj ⊢;omega)
    omega
def dvn (S : Int) : Nat→List Int→List Int→List Int
 | 0,o,_=>o
 | n+1,o,g=>dvn S n (o.set (fmx g) (o.getD (fmx g) 0+1)) (g.set (fmx g) (g.getD (fmx g) 0-S))
def par (t S : Int) (ws : List Int) : List Int:=ws.map fun w=>(t*w).tdiv S
def lak (t S : Int) (ws : List Int) : List Int:=ws.map fun w=>t*w-(t*w).tdiv S*S
def rst (t S : Int) (ws : List Int) : Int:=t-sm (par t S ws)
def dv (ws : List Int) (t : Int) : List Int:=dvn (sm ws) (rst t (sm ws) ws).toNat (par t (sm ws) ws) (lak t (sm ws) ws)
theorem par_len (t S : Int) (ws : List Int) : (par t S ws).length=ws.length:=by simp[par]
theorem lak_len (t S : Int) (ws : List Int) : (lak t S ws).length=ws.length:=by simp[lak]
theorem lak_at {t S w : Int} (ht : 0≤t) (hw : 0≤w) (hS : 0<S) : 0≤t*w-(t*w).tdiv S*S∧t*w-(t*w).tdiv S*S<S:=by
 have h0 : 0≤t*w:=Int.mul_nonneg ht hw
 rw[Int.tdiv_eq_ediv_of_nonneg h0]
 have h1:=Int.emod_nonneg (t*w) (show S≠0 by omega)
 have h2:=Int.emod_lt_of_pos (t*w) hS
 have h3:=Int.emod_add_mul_ediv (t*w) S
 have h4 : S*(t*w/S)=(t*w/S)*S:=Int.mul_comm _ _
 omega
theorem sm_sub (a b : Int→Int) : ∀ l : List Int,sm (l.map fun x=>a x-b x)=sm (l.map a)-sm (l.map b)
 | []=>rfl
 | x::l=>by simp only[List.map_cons,sm,sm_sub a b l];omega
theorem sm_mulr (c : Int) (f : Int→Int) : ∀ l : List Int,sm (l.map fun x=>f x*c)=sm (l.map f)*c
 | []=>by simp[sm]
 | x::l=>by simp only[List.map_cons,sm,sm_mulr c f l,Int.add_mul]
theorem lak_sum {ws : List Int} {t : Int} : sm (lak t (sm ws) ws)=rst t (sm ws) ws*sm ws:=by
 unfold lak rst par
 rw[sm_sub (fun w=>t*w) (fun w=>(t*w).tdiv (sm ws)*sm ws),sm_map_mul,sm_mulr (sm ws) (fun w=>(t*w).tdiv (sm ws)),Int.sub_mul]
theorem rst_bound {ws : List Int} {t : Int} (ht : 0≤t) (hw : ∀ w∈ws,0≤w) (hS : 0<sm ws) : 0≤rst t (sm ws) ws∧rst t (sm ws) ws<ws.length:=by
 have h1 : ∀ x∈lak t (sm ws) ws,0≤x∧x≤sm ws-1:=by
  intro x hx
  obtain⟨w,hw1,rfl⟩:=List.mem_map.1 hx
  have:=lak_at ht (hw w hw1) hS
  omega
 obtain⟨h2,h3⟩:=sm_bound h1
 have h6 : ws.length≠0:=by
  intro h0
  have : ws=[]:=List.length_eq_zero_iff.1 h0
  subst this
  simp[sm] at hS
 rw[lak_sum,lak_len] at *
 generalize hr : rst t (sm ws) ws=r at *
 generalize sm ws=S at *
 refine⟨?_,?_⟩
 ·apply Int.not_lt.1;intro hlt
  have : r*S<0:=Int.mul_neg_of_neg_of_pos hlt hS
  omega
 ·apply Int.not_le.1;intro hle
  have h4 : (ws.length : Int)*S≤r*S:=Int.mul_le_mul_of_nonneg_right hle (by omega)
  have h5 : (ws.length : Int)*(S-1)=(ws.length : Int)*S-ws.length:=by rw[Int.mul_sub];simp
  omega
def gap (S : Int) (g : List Int) : List Int:=g.map fun x=>S-x
theorem gap_len (S : Int) (g : List Int) : (gap S g).length=g.length:=by simp[gap]
theorem gap_at {S : Int} {g : List Int} {j : Nat} (h : j<(gap S g).length) : (gap S g)[j]=S-g.getD j 0:=by
 have : j<g.length:=by simpa [gap] using h
 simp[gap,List.getD_eq_getElem?_getD,List.getElem?_eq_getElem this]
theorem gap_set (S : Int) (g : List Int) (i : Nat) (x : Int) : (gap S g).set i (S-x)=gap S (g.set i x):=by simp[gap,List.map_set]
theorem par_take {t S : Int} {ws : List Int} {k : Nat} (h : k<ws.length) : par t S (ws.take (k+1))=par t S (ws.take k)++[(t*ws[k]).tdiv S]:=by
 unfold par;rw[List.take_succ_eq_append_getElem h,List.map_append];rfl
theorem lak_take {t S : Int} {ws : List Int} {k : Nat} (h : k<ws.length) : lak t S (ws.take (k+1))=lak t S (ws.take k)++[t*ws[k]-(t*ws[k]).tdiv S*S]:=by
 unfold lak;rw[List.take_succ_eq_append_getElem h,List.map_append];rfl
theorem prod_bound {t w S : Int} (ht : 0≤t∧t≤100000) (hw : 0≤w∧w≤10000) (hS : 0<S∧S≤120000) : (0≤t*w∧t*w≤1000000000)∧(0≤(t*w).tdiv S∧(t*w).tdiv S≤1000000000)∧(0≤((t*w).tdiv S+1)*S∧((t*w).tdiv S+1)*S≤2000000000)∧(0≤(t*w).tdiv S*S∧(t*w).tdiv S*S≤1000000000)∧((t*w).tdiv S+1)*S-t*w=S-(t*w-(t*w).tdiv S*S):=by
 have h0 : 0≤t*w:=Int.mul_nonneg ht.1 hw.1
 have h1 : t*w≤100000*10000:=Int.mul_le_mul ht.2 hw.2 hw.1 (by decide)
 have h2:=lak_at ht.1 hw.1 hS.1
 have h3 : ((t*w).tdiv S+1)*S=(t*w).tdiv S*S+S:=by rw[Int.add_mul];simp
 have h4 : 0≤(t*w).tdiv S:=by rw[Int.tdiv_eq_ediv_of_nonneg h0];exact Int.ediv_nonneg h0 (by omega)
 have h5 : (t*w).tdiv S*1≤(t*w).tdiv S*S:=Int.mul_le_mul_of_nonneg_left (by omega) h4
 omega
theorem getD_mem {l : List Int} {i : Nat} (h : i<l.length) : l.getD i 0∈l:=by
 rw[List.getD_eq_getElem?_getD,List.getElem?_eq_getElem h];exact List.getElem_mem h
theorem mem_set {l : List Int} {i : Nat} {x y : Int} (h : y∈l.set i x) : y∈l∨y=x:=(List.mem_or_eq_of_mem_set h)
end Go.Xe.Rnd
/- The parts of a total: they add up to it, each differs from its share by less than 1, a greater weight never gets less, and weights that are multiplied by the same number have the same parts. Conditions: none. -/
namespace Go.Xe.Rnd
theorem gd {l : List Int} {i : Nat} (h : i<l.length) : l.getD i 0=l[i]:=by rw[List.getD_eq_getElem?_getD,List.getElem?_eq_getElem h];rfl
theorem gd_set {l : List Int} {i j : Nat} {x : Int} (h : i<l.length) : (l.set i x).getD j 0=if j=i then x else l.getD j 0:=by
 rw[List.getD_eq_getElem?_getD,List.getD_eq_getElem?_getD,List.getElem?_set]
 by_cases e : j=i
 ·subst e;simp[h]
 ·rw[if_neg (fun h=>e h.symm),if_neg e]
theorem sm_set : ∀ {l : List Int} {i : Nat} {x : Int},i<l.length→sm (l.set i x)=sm l-l.getD i 0+x
 | [],i,x,h=>by simp at h
 | y::l,0,x,_=>by simp only[List.set_cons_zero,sm,List.getD_cons_zero];omega
 | y::l,i+1,x,h=>by
  have:=sm_set (l:=l) (i:=i) (x:=x) (by simpa using h)
  simp only[List.set_cons_succ,sm,List.getD_cons_succ,this];omega
theorem sm_pos : ∀ {l : List Int},0<sm l→∃ i,i<l.length∧0<l.getD i 0
 | [],h=>by simp[sm] at h
 | x::l,h=>by
  by_cases hx : 0<x
  ·exact⟨0,by simp,by simpa using hx⟩
  ·obtain⟨i,h1,h2⟩:=sm_pos (l:=l) (by simp only[sm] at h;omega)
   exact⟨i+1,by simp only[List.length_cons];omega,by simpa using h2⟩
theorem le_sm : ∀ {l : List Int},(∀ x∈l,0≤x)→∀ x∈l,x≤sm l
 | [],_,x,hx=>by simp at hx
 | y::l,h,x,hx=>by
  have h1:=h y (by simp)
  have h2 : 0≤sm l:=by
   clear hx
   induction l with
   | nil=>simp[sm]
   | cons z l ih=>
    have hz:=h z (by simp)
    have:=ih (fun x hx=>h x (by simp only[List.mem_cons] at hx ⊢;rcases hx with rfl|hx;exact .inl rfl;exact .inr (.inr hx)))
    simp only[sm];omega
  simp only[sm]
  rcases List.mem_cons.1 hx with rfl|hx
  ·omega
  ·have:=le_sm (l:=l) (fun x hx=>h x (by simp[hx])) x hx
   omega
structure Inv (t S : Int) (a o g : List Int) (R : Nat) : Prop where
 ol : o.length=a.length
 gl : g.length=a.length
 eq : ∀ i,i<a.length→t*a.getD i 0=o.getD i 0*S+g.getD i 0
 bd : ∀ i,i<a.length→-S<g.getD i 0∧g.getD i 0<S
 df : ∀ i k,i<a.length→k<a.length→g.getD i 0-g.getD k 0≤S
 sg : sm g=R*S
 so : sm o+R=t
 o0 : ∀ x∈o,0≤x
theorem Inv.step {t S : Int} {a o g : List Int} {R : Nat} (hS : 0<S) (h : Inv t S a o g (R+1)) : Inv t S a (o.set (fmx g) (o.getD (fmx g) 0+1)) (g.set (fmx g) (g.getD (fmx g) 0-S)) R:=by
 have hsg : 0<sm g:=by
  rw[h.sg]
  exact Int.mul_pos (by omega) hS
 obtain⟨q,hq1,hq2⟩:=sm_pos hsg
 have hgn : g≠[]:=fun e=>by rw[e] at hq1;simp at hq1
 have hf:=fmx_ok hgn
 have hm:=hf.ge q hq1
 have hfl:=hf.lt
 have hgl:=h.gl
 have hol:=h.ol
 have hflo : fmx g<o.length:=by omega
 refine⟨by rw[List.length_set];exact hol,by rw[List.length_set];exact hgl,fun i hi=>?_,fun i hi=>?_,fun i k hi hk=>?_,?_,?_,fun x hx=>?_⟩
 ·rw[gd_set hflo,gd_set hfl,h.eq i hi]
  by_cases e : i=fmx g
  ·rw[if_pos e,if_pos e,e,Int.add_mul];omega
  ·rw[if_neg e,if_neg e]
 ·rw[gd_set hfl]
  have:=h.bd i hi
  by_cases e : i=fmx g
  ·rw[if_pos e];rw[e] at this;omega
  ·rw[if_neg e];exact this
 ·rw[gd_set hfl,gd_set hfl]
  have h1:=h.df i k hi hk
  have h2:=hf.ge i (by omega)
  by_cases e : i=fmx g
  ·by_cases e' : k=fmx g
   ·rw[if_pos e,if_pos e'];omega
   ·rw[if_pos e,if_neg e'];rw[e] at h1;omega
  ·by_cases e' : k=fmx g
   ·rw[if_neg e,if_pos e'];omega
   ·rw[if_neg e,if_neg e'];exact h1
 ·rw[sm_set hfl,h.sg]
  have : ((R+1 : Nat) : Int)*S=R*S+S:=by push_cast;rw[Int.add_mul];simp
  omega
 ·rw[sm_set hflo]
  have:=h.so
  push_cast at this
  omega
 ·rcases mem_set hx with hx|rfl
  ·exact h.o0 x hx
  ·have:=h.o0 _ (getD_mem hflo);omega
theorem Inv.end {t S : Int} {a : List Int} (hS : 0<S) : ∀ {R : Nat} {o g : List Int},Inv t S a o g R→∃ g',Inv t S a (dvn S R o g) g' 0
 | 0,_,g,h=>⟨g,h⟩
 | R+1,_,_,h=>Inv.end hS (R:=R) (h.step hS)
theorem map_gd {f : Int→Int} {l : List Int} {i : Nat} (h : i<l.length) : (l.map f).getD i 0=f (l.getD i 0):=by
 rw[gd (by simpa using h),gd h,List.getElem_map]
theorem dv_inv {a : List Int} {t : Int} (ht : 0≤t) (ha : ∀ w∈a,0≤w) (hS : 0<sm a) : ∃ g,Inv t (sm a) a (dv a t) g 0:=by
 obtain⟨r1,r2⟩:=rst_bound ht ha hS
 have hR : ((rst t (sm a) a).toNat : Int)=rst t (sm a) a:=by omega
 have hl : ∀ i,i<a.length→0≤(lak t (sm a) a).getD i 0∧(lak t (sm a) a).getD i 0<sm a:=by
  intro i hi
  unfold lak
  rw[map_gd hi]
  exact lak_at ht (ha _ (getD_mem hi)) hS
 refine Inv.end hS (o:=par t (sm a) a) (g:=lak t (sm a) a) ⟨par_len _ _ _,lak_len _ _ _,fun i hi=>?_,fun i hi=>?_,fun i k hi hk=>?_,?_,?_,fun x hx=>?_⟩
 ·unfold par lak
  rw[map_gd hi,map_gd hi];omega
 ·have:=hl i hi;omega
 ·have:=hl i hi;have:=hl k hk;omega
 ·rw[lak_sum,hR]
 ·rw[hR];unfold rst;omega
 ·obtain⟨w,hw,rfl⟩:=List.mem_map.1 hx
  have h0 : 0≤t*w:=Int.mul_nonneg ht (ha w hw)
  rw[Int.tdiv_eq_ediv_of_nonneg h0]
  exact Int.ediv_nonneg h0 (by omega)
theorem dv_shares {a : List Int} {t : Int} (ht : 0≤t) (ha : ∀ w∈a,0≤w) (hS : 0<sm a) : (dv a t).length=a.length∧sm (dv a t)=t∧(∀ x∈dv a t,0≤x∧x≤t) ∧
  (∀ i,i<a.length→-sm a<(dv a t).getD i 0*sm a-t*a.getD i 0∧(dv a t).getD i 0*sm a-t*a.getD i 0<sm a) ∧
  ∀ i k,i<a.length→k<a.length→a.getD k 0<a.getD i 0→(dv a t).getD k 0≤(dv a t).getD i 0:=by
 obtain⟨g,h⟩:=dv_inv ht ha hS
 have hs : sm (dv a t)=t:=by have:=h.so;omega
 refine⟨h.ol,hs,fun x hx=>⟨h.o0 x hx,hs ▸ le_sm h.o0 x hx⟩,fun i hi=>?_,fun i k hi hk hik=>?_⟩
 ·have h1:=h.eq i hi
  have h2:=h.bd i hi
  omega
 ·apply Int.not_lt.1
  intro hlt
  have h1:=h.eq i hi
  have h2:=h.eq k hk
  have h3:=h.df i k hi hk
  have h4 : (dv a t).getD i 0*sm a+sm a≤(dv a t).getD k 0*sm a:=by
   have : ((dv a t).getD i 0+1)*sm a≤(dv a t).getD k 0*sm a:=Int.mul_le_mul_of_nonneg_right (by omega) (by omega)
   rw[Int.add_mul] at this;omega
  have h5 : t*a.getD k 0+t≤t*a.getD i 0:=by
   have : t*(a.getD k 0+1)≤t*a.getD i 0:=Int.mul_le_mul_of_nonneg_left (by omega) ht
   rw[Int.mul_add] at this;omega
  have ht0 : t=0:=by omega
  have e1:=h.o0 _ (getD_mem (l:=dv a t) (i:=i) (by rw[h.ol];exact hi))
  have e2:=le_sm h.o0 _ (getD_mem (l:=dv a t) (i:=k) (by rw[h.ol];exact hk))
  omega
end Go.Xe.Rnd
/- An executable reading of the model's code over an abstract heap (part 35): a closed call run in pieces: what lies between two of them is written out, and of the memory only what is named. Conditions: as part 33's. -/
namespace Go.Xe
open Go
def pd : Nat→HT
 | 0=>.e
 | d+1=>.n .dead (pd d) (pd d)
theorem getH_pd : ∀ (d j : Nat),getH (pd d) j=.dead
 | 0,j=>rfl
 | d+1,0=>rfl
 | d+1,j+1=>by
  have e : getH (pd (d+1)) (j+1)=Bool.rec (motive:=fun _=>FO) (getH (pd d) (Nat.div j 2)) (getH (pd d) (Nat.div j 2)) (Nat.beq (Nat.mod j 2) 0):=rfl
  rw[e,getH_pd d]
  cases Nat.beq (Nat.mod j 2) 0<;>rfl
noncomputable def startL (ids : List Nat) : HT→HT→(HT→RF)→RF:=
 List.rec (motive:=fun _=>HT→HT→(HT→RF)→RF) (fun _ T k=>k T) (fun i _ ih E T k=>HT.rec (motive:=fun _=>RF) (.fail 120) (fun o _ r _ _=>setH o T i fun T'=>ih r T' k) E) ids
section
variable {P : Program} [Gl P]
def Objs (cp : Code→FCode) (Hs : Heap) : List Nat→HT→Prop
 | [],_=>True
 | i::is,.n o _ r=>FOR cp o (Hs.get i)∧Objs cp Hs is r
 | _::_,.e=>False
def StOk (cp : Code→FCode) (t : TT) (ids : List Nat) (E : HT) (nx : Nat) (tm : Array Value) (Hs : Heap) : Prop:=TR t tm∧nx=Hs.next∧Objs cp Hs ids E
theorem startL_ok {cp : Code→FCode} {Hs : Heap} : ∀ {ids : List Nat} {E T : HT} {k : HT→RF},Good (startL ids E T k)→(∀ j,FOR cp (getH T j) (Hs.get j))→Objs cp Hs ids E →
  ∃ T',startL ids E T k=k T'∧∀ j,FOR cp (getH T' j) (Hs.get j)
 | [],E,T,k,_,hT,_=>⟨T,rfl,hT⟩
 | i::is,.e,T,k,h,_,_=>not_good (n:=120) h
 | i::is,.n o l r,T,k,h,hT,hO=>by
  have h' : Good (setH o T i fun T'=>startL is r T' k):=h
  obtain⟨T1,h1,h2⟩:=setH_good h'
  rw[h2] at h'
  obtain⟨T2,h3,h4⟩:=startL_ok (ids:=is) h' (fun j=>by
   rw[h1]
   by_cases e : j=i
   ·rw[if_pos e,e];exact hO.1
   ·rw[if_neg e];exact hT j) hO.2
  exact⟨T2,(show startL (i::is) (.n o l r) T k=_ from h2.trans h3),h4⟩
variable [Orc P]
theorem last_ok {F : Nat→FFunc} (hF : FnOk P F) {n nx d : Nat} {c : Code} {x : FCode} (hl : comp P c=x) {t : TT} {ids : List Nat} {E : HT} {fn : Func} (hok : ∀ r∈fn.results.toList,resOk P r=true) {res : List FRes} (hres : fn.results.toList.map (compR P)=res)
  (h : startL ids E (pd d) (fun T=>afterF (execF P F n x none [] t (.mk nx T)) res endT)=.rt .e [] (.mk 0 .e)) {tm : Array Value} {Hs : Heap} (hs : StOk (comp P) t ids E nx tm Hs) :
  ∃ e a H1,exec P n none c ⟨tm,[],Hs⟩=some (e,a)∧(∀ id,e≠.exit id)∧xunmark a.marks a.heap=some H1∧xresults P H1 fn a.tmps=some (.bool true):=by
 subst hl
 subst hres
 obtain⟨h1,h2,h3⟩:=hs
 have hg : Good (startL ids E (pd d) (fun T=>afterF (execF P F n (comp P c) none [] t (.mk nx T)) (fn.results.toList.map (compR P)) endT)):=by
  intro q hq;rw[h] at hq;cases hq
 obtain⟨T,e1,e2⟩:=startL_ok hg (cp:=comp P) (Hs:=Hs) (fun j=>by rw[getH_pd];trivial) h3
 rw[e1] at h hg
 have hg2 : Good (execF P F n (comp P c) none [] t (.mk nx T)):=by
  intro q hq
  rw[hq] at hg
  exact not_good (n:=q) hg
 obtain⟨e,a,f1,f2⟩:=execF_ok hF n c none [] t (.mk nx T) tm Hs h1 (show HR (comp P) (.mk nx T) Hs from ⟨h2,e2⟩) hg2
 have fin : ∀ t' m' H',TR t' a.tmps→HR (comp P) H' a.heap→a.marks=m'→endF (fn.results.toList.map (compR P)) t' m' H' endT=.rt .e [] (.mk 0 .e) →
   ∃ H1,xunmark a.marks a.heap=some H1∧xresults P H1 fn a.tmps=some (.bool true):=by
  intro t' m' H' k1 k2 k3 k4
  have hg3 : Good (endF (fn.results.toList.map (compR P)) t' m' H' endT):=by
   intro q hq;rw[k4] at hq;cases hq
  obtain⟨v,H1,Hs1,g1,g2,g3,g4⟩:=endF_ok hok k1 (m:=m') k2 hg3
  rw[g4] at k4 hg3
  have hv : v=.bool true:=by
   unfold endT at k4 hg3
   rcases asBool_good hg3 with⟨a,b⟩|⟨a,b⟩|⟨_,_,b⟩
   ·exact a
   ·rw[b] at k4;cases k4
   ·rw[b] at k4;cases k4
  subst hv
  exact⟨Hs1,by rw[k3];exact g1,g2⟩
 cases hxr : execF P F n (comp P c) none [] t (.mk nx T) with
 | fail q=>exact absurd hxr (hg2 q)
 | ex id t' m' H'=>rw[hxr] at hg;exact not_good (n:=71) hg
 | nx t' m' H'=>
  rw[hxr] at h f2
  cases e with
  | ret=>exact f2.elim
  | exit id=>exact f2.elim
  | normal=>
   obtain⟨q1,q2,q3⟩:=f2
   obtain⟨H1,k1,k2⟩:=fin t' m' H' q1 q2 q3 h
   exact⟨_,a,H1,f1,(by intro id h;cases h),k1,k2⟩
 | rt t' m' H'=>
  rw[hxr] at h f2
  cases e with
  | normal=>exact f2.elim
  | exit id=>exact f2.elim
  | ret=>
   obtain⟨q1,q2,q3⟩:=f2
   obtain⟨H1,k1,k2⟩:=fin t' m' H' q1 q2 q3 h
   exact⟨_,a,H1,f1,(by intro id h;cases h),k1,k2⟩
end
theorem closed_x {P : Program} [Gl P] (O : Orc P) (hmix : P.follows .mixedOrders=true) {Hs0 Hs' : Heap}
  (hst : ∀ w : World,O.base≤w.heap.size→O.I w→∃ θ,Rel P θ Hs0 w∧At P θ w∧∀ i p,θ i=some p→p.rw=false) {N f : Nat} (h : xcall P (exec P N) f #[] Hs0=some (.bool true,Hs'))
  (hfn : ∃ fn, P.funcs[f]? = some fn ∧ fn.body.isSome = true ∧ (fn.name == "runtime.NumGoroutine") = false) :
  (∀ (w : World) (r : Option Nat) (n : Nat), O.base ≤ w.heap.size → O.I w → CallsIn (FW r) n P f #[] w (Quiet (.bool true) w)) ∧ ∃ fn, P.funcs[f]? = some fn ∧ fn.body.isSome = true ∧ (fn.name == "runtime.NumGoroutine") = false := by
 refine⟨fun w r n hb hI=>?_,hfn⟩
 obtain⟨θ,hrel,hat,hno⟩:=hst w hb hI
 refine ((xcall_ok (exec_ok hmix N) h hrel hat (args':=#[]) AR.nil r n).1).mono ?_
 rintro e w' ⟨v',θ',k1,k2,k3,k4⟩
 cases k4
 exact⟨k1,k2.size,fun b hb=>k2.frame b hb (fun i p hp hrw=>by rw[hno i p hp] at hrw;cases hrw),k2.os,k2.tape,k2.output⟩
theorem start_x {P : Program} (O : Orc P) (hb : O.base=0) : ∀ w : World,O.base≤w.heap.size→O.I w→∃ θ,Rel P θ Heap.empty w∧@At P (Gl.none P) O θ w∧∀ i p,θ i=some p→p.rw=false:=by
 letI:=Gl.none P
 exact fun w _ hI=>⟨fun _=>none,⟨(fun i o hi=>by simp[Heap.get,Heap.empty,Tr.get] at hi),(fun i p hp=>by cases hp),⟨_,.ro (fun i p hp=>by cases hp) (fun i c el k hi=>by simp[Heap.get,Heap.empty,Tr.get] at hi)⟩⟩,⟨by rw[hb];exact Nat.zero_le _,hI,fun i p hp=>(by cases hp),fun g hg=>(by cases hg)⟩,fun i p hp=>by cases hp⟩
def sdrop : Nat→Code→Code
 | n+1,.seq _ b=>sdrop n b
 | _,c=>c
def fsdrop : Nat→FCode→FCode
 | n+1,.seq _ b=>fsdrop n b
 | _,c=>c
end Go.Xe
/- An executable reading of the model's code over an abstract heap (part 36): the pieces of a closed call, put together. Conditions: as part 33's. -/
namespace Go.Xe
open Go
section
variable {P : Program} [Gl P]
theorem comp_drop : ∀ (n : Nat) (c : Code),comp P (sdrop n c)=fsdrop n (comp P c)
 | 0,c=>by simp[sdrop,fsdrop]
 | n+1,c=>by
  cases c with
  | seq a b=>simp only[sdrop,comp,fsdrop];exact comp_drop n b
  | region i ops d=>cases d<;>simp only[sdrop,comp,fsdrop]<;>split<;>simp[fsdrop]
  | _=>simp[sdrop,comp,fsdrop]
theorem of_entry {fn : Func} {c : Code} {k : Nat} {x : FCode} {tp : TT} {as : List Pth} {rs : List FRes} (h2 : fn.body=some c) (h : compF P fn k=.mk x tp as rs) : comp P c=x∧fn.results.toList.map (compR P)=rs:=by
 unfold compF at h
 rw[h2] at h
 simp only[FFunc.mk.injEq] at h
 exact⟨h.1,h.2.2.2⟩
theorem stOk_start {n : Nat} : StOk (comp P) (mkTT n) [] .e 0 (Array.replicate n undef) Heap.empty:=⟨mkTT_TR n,rfl,trivial⟩
variable [Orc P]
theorem piece_last {F : Nat→FFunc} (hF : FnOk P F) {c : Code} {x : FCode} (hc : comp P c=x) (o n : Nat) {nx d : Nat} {t : TT} {ids : List Nat} {E : HT} {fn : Func} (hok : okF P fn=true) {res : List FRes} (hres : fn.results.toList.map (compR P)=res)
  (h : startL ids E (pd d) (fun T=>afterF (execF P F n (fsdrop o x) none [] t (.mk nx T)) res endT)=.rt .e [] (.mk 0 .e)) {tm : Array Value} {Hs : Heap} (hs : StOk (comp P) t ids E nx tm Hs) :
  ∃ e a H1,exec P n none (sdrop o c) ⟨tm,[],Hs⟩=some (e,a)∧(∀ id,e≠.exit id)∧xunmark a.marks a.heap=some H1∧xresults P H1 fn a.tmps=some (.bool true):=by
 subst hc
 have hok' : ∀ r∈fn.results.toList,resOk P r=true:=by
  unfold okF at hok
  simp only[Bool.and_eq_true,List.all_eq_true] at hok
  exact hok.2
 exact last_ok hF (comp_drop o c) hok' hres h hs
theorem xcall_of {f N : Nat} {fn : Func} {c : Code} {Hs H1 : Heap} {e : XE} {a : AS} {v : Value} (h0 : Orc.O P f=none) (h1 : P.funcs[f]?=some fn) (h2 : fn.body=some c) (h3 : okF P fn=true)
  (hx : exec P N none c ⟨Array.replicate fn.ntmps undef,[],Hs⟩=some (e,a)) (hne : ∀ id,e≠.exit id) (hu : xunmark a.marks a.heap=some H1) (hv : xresults P H1 fn a.tmps=some v) :
  xcall P (exec P N) f #[] Hs = some (v, H1) ∧ ∃ fn, P.funcs[f]? = some fn ∧ fn.body.isSome = true ∧ (fn.name == "runtime.NumGoroutine") = false := by
 have hn : (fn.name == "runtime.NumGoroutine") = false := by
  unfold okF at h3
  simp only[Bool.and_eq_true,Bool.not_eq_true'] at h3
  exact h3.1
 refine⟨?_,fn,h1,by rw[h2];rfl,hn⟩
 unfold xcall
 simp only[h0,h1,h2,hn,if_true]
 have e5 : (#[] : Array Value)++Array.replicate (fn.ntmps-(#[] : Array Value).size) undef=Array.replicate fn.ntmps undef:=by simp
 rw[e5,hx]
 cases e with
 | exit id=>exact absurd rfl (hne id)
 | normal=>simp only[hu,hv]
 | ret=>simp only[hu,hv]
end
end Go.Xe
/- An executable reading of the model's code over an abstract heap (part 37): closed calls where one table among the package-level variables is known. Conditions: as part 33's; the table lies where the variable lies. -/
namespace Go.Xe
open Go
def TabAt (g : Nat) (tab : List Value) (w : World) : Prop:=∃ c el fz,w.heap[g]?=some (.cells c el fz)∧∀ (k : Nat) (v : Value),tab[k]?=some v→c[k]?=some v
theorem TabAt.keep {g : Nat} {tab : List Value} {w w' : World} (hb : ∀ b,b<g+1→w'.heap[b]?=w.heap[b]?) (h : TabAt g tab w) : TabAt g tab w':=by
 obtain⟨c,el,fz,h1,h2⟩:=h
 exact⟨c,el,fz,(hb g (Nat.lt_succ_self g)).trans h1,h2⟩
end Go.Xe
