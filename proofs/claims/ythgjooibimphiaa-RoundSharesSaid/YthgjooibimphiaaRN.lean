/- What the functions of the layer round come to: Divide, and the reference's. Conditions: none. -/
import Derived.Test.YthgjooibimphiaaTSB
import Derived.Test.YthgjooibimphiaaWa
import Derived.Test.YthgjooibimphiaaTRZ
-- MOD TR
namespace Go.Xe.TRX
open Go Go.Xe Go.Proofs
open Nat renaming reduceLeDiff → qA, reduceSub → qB, reduceAdd → qC, reduceEqDiff → qD, reduceLT → qE
open Int renaming reduceNegSucc → qF, reduceEq → qG
open Go.Xe.V renaming seq → sA, block → sB, scope → sC, skip → sD, close → sE
open Go.Xe renaming pth → P
open Go.Xe.Rnd
set_option maxRecDepth 100000
set_option maxHeartbeats 3200000
set_option linter.unusedSimpArgs false
noncomputable def d37 : FCode:=(.seq (.run (.go (.move (.con (.slice none 0 0))) (P 4)::
.go (.move (.con (.int .i64 (.ofNat 0)))) (P 5)::
[])) (.seq (.block 0 (.seq (.run (.go (.move (tm 0)) (P 7)::
.go (.len 0 (tm 7)) (P 8)::
.go (.bin .gtr 3 (tm 8) (.con (.int .i64 (.ofNat 12)))) (P 9)::
.go (.move (tm 9)) (P 6)::
[])) (.cond (tm 6) (.seq (.run (.go (.move (.con (.slice none 0 0))) (P 4)::
.go (.move (.con (.int .i64 (.ofNat 3)))) (P 5)::
[])) .ret) (.seq (.run (.go (.move (tm 0)) (P 11)::
.go (.call (.con (.func (.func 62) ⟨[]⟩ ⟨[]⟩)) []) (P 12)::
.go (.makeFunc 59 [tm 12] []) (P 13)::
.go (.call (.con (.func (.func 61) ⟨[]⟩ ⟨[]⟩)) [(tm 11),(tm 13)]) (P 14)::
.go (.un .not (tm 14)) (P 15)::
.go (.move (tm 15)) (P 16)::
.gd (P 16) false (.call (.con (.func (.func 63) ⟨[]⟩ ⟨[]⟩)) []) (P 17)::
.gd (P 16) false (.move (tm 1)) (P 18)::
.gd (P 16) false (.call (.con (.func (.func 59) ⟨[]⟩ ⟨[]⟩)) [(tm 17),(tm 18)]) (P 19)::
.gd (P 16) false (.un .not (tm 19)) (P 20)::
.go (.pick (tm 16) (.con (.bool true)) (tm 20)) (P 21)::
.go (.move (tm 21)) (P 10)::
[])) (.cond (tm 10) (.seq (.run (.go (.move (.con (.slice none 0 0))) (P 4)::
.go (.move (.con (.int .i64 (.ofNat 2)))) (P 5)::
[])) .ret) (.seq (.run (.go (.move (tm 0)) (P 23)::
.go (.call (.con (.func (.func 64) ⟨[]⟩ ⟨[]⟩)) [tm 23]) (P 24)::
.go (.bin .eql 3 (tm 24) (.con (.int .i64 (.ofNat 0)))) (P 25)::
.go (.move (tm 25)) (P 22)::
[])) (.cond (tm 22) (.seq (.run (.go (.move (.con (.slice none 0 0))) (P 4)::
.go (.move (.con (.int .i64 (.ofNat 7)))) (P 5)::
[])) .ret) .skip))))))) (.seq (.run (.go (.move (tm 0)) (P 26)::
.go (.move (tm 1)) (P 27)::
.go (.call (.con (.func (.func 65) ⟨[]⟩ ⟨[]⟩)) [(tm 26),(tm 27)]) (P 28)::
.go (.move (tm 28)) (P 4)::
.go (.move (.con (.int .i64 (.ofNat 0)))) (P 5)::
[])) .ret)))
theorem de37 : @compF Try.prog (Gl.none Try.prog) Try.f37 2=.mk d37 (mkTT 29) [(P 0),(P 1)] [.tmp (P 4),.tmp (P 5)]:=by kernel_rfl
theorem dg37 : Try.prog.funcs[37]?=some Try.f37:=Try.func37
theorem do37 : okF Try.prog Try.f37=true:=by kernel_rfl
def de (l : List Int) (tt : Int) : Int:=if 12<l.length then 3 else if ¬ (∀ v∈l,0≤v∧v≤10000)∨¬ (0≤tt∧tt≤100000) then 2 else if sm l=0 then 7 else 0
theorem de_0 {l : List Int} {tt : Int} : de l tt=0↔l.length≤12∧(∀ v∈l,0≤v∧v≤10000)∧(0≤tt∧tt≤100000)∧0<sm l:=by
 unfold de
 by_cases h1 : 12<l.length
 ·rw[if_pos h1];constructor<;>intro h<;>omega
 ·rw[if_neg h1]
  by_cases h2 : ¬ (∀ v∈l,0≤v∧v≤10000)∨¬ (0≤tt∧tt≤100000)
  ·rw[if_pos h2]
   refine⟨fun h=>by omega,fun ⟨_,h3,h4,_⟩=>?_⟩
   rcases h2 with h2|h2
   ·exact absurd h3 h2
   ·exact absurd h4 h2
  ·rw[if_neg h2]
   have h3 : ∀ v∈l,0≤v∧v≤10000:=Decidable.not_not.1 (fun h=>h2 (.inl h))
   have h4 : 0≤tt∧tt≤100000:=Decidable.not_not.1 (fun h=>h2 (.inr h))
   have h5:=(sm_bound h3).1
   by_cases h6 : sm l=0
   ·rw[if_pos h6];constructor<;>intro h<;>omega
   ·rw[if_neg h6];exact⟨fun _=>⟨by omega,h3,h4,by omega⟩,fun _=>rfl⟩
theorem f37_ok {H : Heap} {x : Value} {l : List Int} (tt : Int) (h : LS H x l) (hn : l.length≤1048576) : F Try.prog 37 ⟨[x,I tt]⟩ H (fun w X=>Grow H X∧((de l tt≠0∧w=.tuple ⟨[.slice none 0 0,I (de l tt)]⟩)∨(de l tt=0∧∃ v,w=.tuple ⟨[v,I 0]⟩∧LS X v (dv l tt)))):=by
 have hl:=h.len
 refine F.entryL rfl dg37 do37 de37 rfl (by kernel_rfl) ?_
 simp only[sets]
 refine V.re [(0,x),(1,I tt)] (N:=29) zE zY ?_
 intro t hF hA
 simp only[Kn,and_true] at hA
 refine zS ?_
 refine V.l0 ?_
 refine zS ?_
 have zf:=@hl
 refine V.lz ?_
 refine zS ?_
 refine V.condP zP (fun h1=>?_) (fun h1=>?_)
 ·have e1 : de l tt=3:=by unfold de;rw[if_pos (by omega)]
  refine zS ?_
  refine V.l0 ?_
  refine zS ?_
  refine V.ret (V.rets rfl (Lv.retF (by simp +contextual (disch:=first|omega|simp only[nx];omega) only[D1,cells_alloc_at,cells_alloc_ne,cells_set_at,cells_set_ne,yres,yres1,yresL,qA,qB,qC,D5,hF,hA,↓reduceIte,qD,qE];rfl) ?_))
  exact⟨.refl _,.inl ⟨by omega,by rw[e1]⟩⟩
 ·refine zS ?_
  refine V.run ?_
  refine VI.s0 1 ?_
  simp only[ds]
  refine VI.callA rfl (f62_ok _) zA (fun H2 g2=>?_)
  refine VI.s0 1 ?_
  simp only[ds]
  refine VI.callA rfl (f61_ok 0 10000 (h.grow g2) hn) zA (fun H3 g3=>?_)
  refine VI.s0 2 ?_
  simp only[ds]
  first|refine VI.callGt zG (fun hc=>zI) (fun hc=>f63_ok _) (fun hc=>zI) (fun H4 g4=>?_)|refine VI.callGf zG (fun hc=>zI) (fun hc=>f63_ok _) (fun hc=>zI) (fun H4 g4=>?_)
  refine VI.s0 1 ?_
  simp only[ds]
  first|refine VI.callGt zG (fun hc=>zI) (fun hc=>f59_ok 0 100000 tt _) (fun hc=>zI) (fun H5 g5=>?_)|refine VI.callGf zG (fun hc=>zI) (fun hc=>f59_ok 0 100000 tt _) (fun hc=>zI) (fun H5 g5=>?_)
  refine VI.l0 ?_
  have g5:=((g2.trans g3).trans g4).trans g5
  refine zS ?_
  refine V.condP zP (fun h2=>?_) (fun h2=>?_)
  ·have e1 : de l tt=2:=by
    unfold de
    rw[if_neg (by omega),if_pos]
    rcases h2 with h2|h2
    ·exact .inl h2
    ·exact .inr h2
   refine zS ?_
   refine V.l0 ?_
   refine zS ?_
   refine V.ret (V.rets rfl (Lv.retF (by simp +contextual (disch:=first|omega|simp only[nx];omega) only[D1,cells_alloc_at,cells_alloc_ne,cells_set_at,cells_set_ne,yres,yres1,yresL,qA,qB,qC,D5,hF,hA,↓reduceIte,qD,qE];rfl) ?_))
   exact⟨g5,.inl ⟨by omega,by rw[e1]⟩⟩
  ·have h3 : ∀ v∈l,0≤v∧v≤10000:=Decidable.not_not.1 (fun hh=>h2 (.inl hh))
   have h4 : 0≤tt∧tt≤100000:=Decidable.not_not.1 (fun hh=>h2 (.inr hh))
   refine zS ?_
   refine V.run ?_
   refine VI.s0 1 ?_
   simp only[ds]
   refine VI.callA rfl (f64_ok (h.grow g5) (by omega) (fun v hv=>by have:=h3 v hv;omega)) zA (fun H6 g6=>?_)
   refine VI.l0 ?_
   have g6:=g5.trans g6
   refine zS ?_
   refine V.condP zP (fun h5=>?_) (fun h5=>?_)
   ·have e1 : de l tt=7:=by
     unfold de
     rw[if_neg (by omega),if_neg (by rintro (hh|hh);exact hh h3;exact hh h4),if_pos h5]
    refine zS ?_
    refine V.l0 ?_
    refine zS ?_
    refine V.ret (V.rets rfl (Lv.retF (by simp +contextual (disch:=first|omega|simp only[nx];omega) only[D1,cells_alloc_at,cells_alloc_ne,cells_set_at,cells_set_ne,yres,yres1,yresL,qA,qB,qC,D5,hF,hA,↓reduceIte,qD,qE];rfl) ?_))
    exact⟨g6,.inl ⟨by omega,by rw[e1]⟩⟩
   ·have h6:=(sm_bound h3).1
    have e1 : de l tt=0:=de_0.2 ⟨by omega,h3,h4,by omega⟩
    refine zS ?_
    refine V.run ?_
    refine VI.s0 2 ?_
    simp only[ds]
    refine VI.callR zA (f65_ok (h.grow g6) (by omega) h3 h4 (by omega)) zA (fun v X ⟨g7,col,ho⟩=>?_)
    obtain⟨p,n,c,rfl⟩:=Oc.slice ho
    refine VI.l0 ?_
    refine zS ?_
    refine V.ret (V.rets rfl (Lv.retF (by simp +contextual (disch:=first|omega|simp only[nx];omega) only[D1,cells_alloc_at,cells_alloc_ne,cells_set_at,cells_set_ne,yres,yres1,yresL,qA,qB,qC,D5,hF,hA,↓reduceIte,qD,qE];rfl) ?_))
    exact⟨g6.trans g7,.inr ⟨e1,_,rfl,ho.ls⟩⟩
end Go.Xe.TRX
/- What the functions of the layer round come to: the reference's Divide. Conditions: none. -/
-- MOD TR
namespace Go.Xe.TRX
open Go Go.Xe Go.Proofs
open Nat renaming reduceLeDiff → qA, reduceSub → qB, reduceAdd → qC, reduceEqDiff → qD, reduceLT → qE
open Int renaming reduceNegSucc → qF, reduceEq → qG
open Go.Xe.V renaming seq → sA, block → sB, scope → sC, skip → sD, close → sE
open Go.Xe renaming pth → P
open Go.Xe.Rnd
set_option maxRecDepth 100000
set_option maxHeartbeats 3200000
set_option linter.unusedSimpArgs false
theorem gD {l : List Int} {k : Nat} (h : k<l.length) : l[k]=l.getD k 0:=by
 rw[List.getD_eq_getElem?_getD,List.getElem?_eq_getElem h];rfl
end Go.Xe.TRX
/- Rules of reasoning over the executable reading of the model's code (part Z28): guarded calls of functions that change memory. Conditions: none; for every program. -/
namespace Go.Xe
open Go
section
variable {P : Program} [Gl P] [Orc P] {rnd : Option Nat} {Q : FQ} {K : List FFr} {t : TT} {m : List Nat} {H : Heap} {is : List FI} {p d : Pth} {w : Bool} {fa : FA} {args : List FA} {g : FuncId} {a b l : List Value} {S : Value→Heap→Prop} {pre : List Heap} {R : TT→List Heap→Prop}
end
end Go.Xe
/- The statement RoundDivides: the function. Conditions: none. -/
-- MOD TR
namespace Go.Xe.TRX
open Go Go.Xe Go.Proofs
open Nat renaming reduceLeDiff → qA, reduceSub → qB, reduceAdd → qC, reduceEqDiff → qD, reduceLT → qE
open Int renaming reduceNegSucc → qF, reduceEq → qG
open Go.Xe.V renaming seq → sA, block → sB, scope → sC, skip → sD, close → sE
open Go.Xe renaming pth → P
open Go.Xe.Rnd
set_option maxRecDepth 100000
set_option maxHeartbeats 3200000
set_option linter.unusedSimpArgs false
end Go.Xe.TRX
/- The parts of a total: they add up to it, each differs from its share by less than 1, a greater weight never gets less, and weights that are multiplied by the same number have the same parts. Conditions: none. -/
namespace Go.Xe.Rnd
theorem gd {l : List Int} {i : Nat} (h : i<l.length) : l.getD i 0=l[i]:=by rw[List.getD_eq_getElem?_getD,List.getElem?_eq_getElem h];rfl
theorem gd_set {l : List Int} {i j : Nat} {x : Int} (h : i<l.length) : (l.set i x).getD j 0=if j=i then x else l.getD j 0:=by
 rw[List.getD_eq_getElem?_getD,List.getD_eq_getElem?_getD,List.getElem?_set]
 by_cases e : j=i
 ·subst e;simp[h]
 ·rw[if_neg (fun h=>e h.symm),if_neg e]
theorem sm_set : ∀ {l : List Int} {i : Nat} {x : Int},i<l.length→sm (l.set i x)=sm l-l.getD i 0+x
 | [],i,x,h=>by simp at h
 | y::l,0,x,_=>by simp only[List.set_cons_zero,sm,List.getD_cons_zero];omega
 | y::l,i+1,x,h=>by
  have:=sm_set (l:=l) (i:=i) (x:=x) (by simpa using h)
  simp only[List.set_cons_succ,sm,List.getD_cons_succ,this];omega
theorem sm_pos : ∀ {l : List Int},0<sm l→∃ i,i<l.length∧0<l.getD i 0
 | [],h=>by simp[sm] at h
 | x::l,h=>by
  by_cases hx : 0<x
  ·exact⟨0,by simp,by simpa using hx⟩
  ·obtain⟨i,h1,h2⟩:=sm_pos (l:=l) (by simp only[sm] at h;omega)
   exact⟨i+1,by simp only[List.length_cons];omega,by simpa using h2⟩
theorem le_sm : ∀ {l : List Int},(∀ x∈l,0≤x)→∀ x∈l,x≤sm l
 | [],_,x,hx=>by simp at hx
 | y::l,h,x,hx=>by
  have h1:=h y (by simp)
  have h2 : 0≤sm l:=by
   clear hx
   induction l with
   | nil=>simp[sm]
   | cons z l ih=>
    have hz:=h z (by simp)
    have:=ih (fun x hx=>h x (by simp only[List.mem_cons] at hx ⊢;rcases hx with rfl|hx;exact .inl rfl;exact .inr (.inr hx)))
    simp only[sm];omega
  simp only[sm]
  rcases List.mem_cons.1 hx with rfl|hx
  ·omega
  ·have:=le_sm (l:=l) (fun x hx=>h x (by simp[hx])) x hx
   omega
structure Inv (t S : Int) (a o g : List Int) (R : Nat) : Prop where
 ol : o.length=a.length
 gl : g.length=a.length
 eq : ∀ i,i<a.length→t*a.getD i 0=o.getD i 0*S+g.getD i 0
 bd : ∀ i,i<a.length→-S<g.getD i 0∧g.getD i 0<S
 df : ∀ i k,i<a.length→k<a.length→g.getD i 0-g.getD k 0≤S
 sg : sm g=R*S
 so : sm o+R=t
 o0 : ∀ x∈o,0≤x
theorem Inv.step {t S : Int} {a o g : List Int} {R : Nat} (hS : 0<S) (h : Inv t S a o g (R+1)) : Inv t S a (o.set (fmx g) (o.getD (fmx g) 0+1)) (g.set (fmx g) (g.getD (fmx g) 0-S)) R:=by
 have hsg : 0<sm g:=by
  rw[h.sg]
  exact Int.mul_pos (by omega) hS
 obtain⟨q,hq1,hq2⟩:=sm_pos hsg
 have hgn : g≠[]:=fun e=>by rw[e] at hq1;simp at hq1
 have hf:=fmx_ok hgn
 have hm:=hf.ge q hq1
 have hfl:=hf.lt
 have hgl:=h.gl
 have hol:=h.ol
 have hflo : fmx g<o.length:=by omega
 refine⟨by rw[List.length_set];exact hol,by rw[List.length_set];exact hgl,fun i hi=>?_,fun i hi=>?_,fun i k hi hk=>?_,?_,?_,fun x hx=>?_⟩
 ·rw[gd_set hflo,gd_set hfl,h.eq i hi]
  by_cases e : i=fmx g
  ·rw[if_pos e,if_pos e,e,Int.add_mul];omega
  ·rw[if_neg e,if_neg e]
 ·rw[gd_set hfl]
  have:=h.bd i hi
  by_cases e : i=fmx g
  ·rw[if_pos e];rw[e] at this;omega
  ·rw[if_neg e];exact this
 ·rw[gd_set hfl,gd_set hfl]
  have h1:=h.df i k hi hk
  have h2:=hf.ge i (by omega)
  by_cases e : i=fmx g
  ·by_cases e' : k=fmx g
   ·rw[if_pos e,if_pos e'];omega
   ·rw[if_pos e,if_neg e'];rw[e] at h1;omega
  ·by_cases e' : k=fmx g
   ·rw[if_neg e,if_pos e'];omega
   ·rw[if_neg e,if_neg e'];exact h1
 ·rw[sm_set hfl,h.sg]
  have : ((R+1 : Nat) : Int)*S=R*S+S:=by push_cast;rw[Int.add_mul];simp
  omega
 ·rw[sm_set hflo]
  have:=h.so
  push_cast at this
  omega
 ·rcases mem_set hx with hx|rfl
  ·exact h.o0 x hx
  ·have:=h.o0 _ (getD_mem hflo);omega
theorem Inv.end {t S : Int} {a : List Int} (hS : 0<S) : ∀ {R : Nat} {o g : List Int},Inv t S a o g R→∃ g',Inv t S a (dvn S R o g) g' 0
 | 0,_,g,h=>⟨g,h⟩
 | R+1,_,_,h=>Inv.end hS (R:=R) (h.step hS)
theorem map_gd {f : Int→Int} {l : List Int} {i : Nat} (h : i<l.length) : (l.map f).getD i 0=f (l.getD i 0):=by
 rw[gd (by simpa using h),gd h,List.getElem_map]
theorem dv_inv {a : List Int} {t : Int} (ht : 0≤t) (ha : ∀ w∈a,0≤w) (hS : 0<sm a) : ∃ g,Inv t (sm a) a (dv a t) g 0:=by
 obtain⟨r1,r2⟩:=rst_bound ht ha hS
 have hR : ((rst t (sm a) a).toNat : Int)=rst t (sm a) a:=by omega
 have hl : ∀ i,i<a.length→0≤(lak t (sm a) a).getD i 0∧(lak t (sm a) a).getD i 0<sm a:=by
  intro i hi
  unfold lak
  rw[map_gd hi]
  exact lak_at ht (ha _ (getD_mem hi)) hS
 refine Inv.end hS (o:=par t (sm a) a) (g:=lak t (sm a) a) ⟨par_len _ _ _,lak_len _ _ _,fun i hi=>?_,fun i hi=>?_,fun i k hi hk=>?_,?_,?_,fun x hx=>?_⟩
 ·unfold par lak
  rw[map_gd hi,map_gd hi];omega
 ·have:=hl i hi;omega
 ·have:=hl i hi;have:=hl k hk;omega
 ·rw[lak_sum,hR]
 ·rw[hR];unfold rst;omega
 ·obtain⟨w,hw,rfl⟩:=List.mem_map.1 hx
  have h0 : 0≤t*w:=Int.mul_nonneg ht (ha w hw)
  rw[Int.tdiv_eq_ediv_of_nonneg h0]
  exact Int.ediv_nonneg h0 (by omega)
theorem dv_shares {a : List Int} {t : Int} (ht : 0≤t) (ha : ∀ w∈a,0≤w) (hS : 0<sm a) : (dv a t).length=a.length∧sm (dv a t)=t∧(∀ x∈dv a t,0≤x∧x≤t) ∧
  (∀ i,i<a.length→-sm a<(dv a t).getD i 0*sm a-t*a.getD i 0∧(dv a t).getD i 0*sm a-t*a.getD i 0<sm a) ∧
  ∀ i k,i<a.length→k<a.length→a.getD k 0<a.getD i 0→(dv a t).getD k 0≤(dv a t).getD i 0:=by
 obtain⟨g,h⟩:=dv_inv ht ha hS
 have hs : sm (dv a t)=t:=by have:=h.so;omega
 refine⟨h.ol,hs,fun x hx=>⟨h.o0 x hx,hs ▸ le_sm h.o0 x hx⟩,fun i hi=>?_,fun i k hi hk hik=>?_⟩
 ·have h1:=h.eq i hi
  have h2:=h.bd i hi
  omega
 ·apply Int.not_lt.1
  intro hlt
  have h1:=h.eq i hi
  have h2:=h.eq k hk
  have h3:=h.df i k hi hk
  have h4 : (dv a t).getD i 0*sm a+sm a≤(dv a t).getD k 0*sm a:=by
   have : ((dv a t).getD i 0+1)*sm a≤(dv a t).getD k 0*sm a:=Int.mul_le_mul_of_nonneg_right (by omega) (by omega)
   rw[Int.add_mul] at this;omega
  have h5 : t*a.getD k 0+t≤t*a.getD i 0:=by
   have : t*(a.getD k 0+1)≤t*a.getD i 0:=Int.mul_le_mul_of_nonneg_left (by omega) ht
   rw[Int.mul_add] at this;omega
  have ht0 : t=0:=by omega
  have e1:=h.o0 _ (getD_mem (l:=dv a t) (i:=i) (by rw[h.ol];exact hi))
  have e2:=le_sm h.o0 _ (getD_mem (l:=dv a t) (i:=k) (by rw[h.ol];exact hk))
  omega
theorem fmx_mul {n : Int} (hn : 0<n) (g : List Int) : fmx (g.map (n*·))=fmx g:=by
 by_cases h0 : g=[]
 ·subst h0;rfl
 ·have hf:=fmx_ok h0
  have hm : g.map (n*·)≠[]:=fun e=>h0 (List.map_eq_nil_iff.1 e)
  refine FMx.uniq (fmx_ok hm) ⟨by simpa using hf.lt,fun j hj=>?_,fun j hj=>?_⟩
  ·have hj' : j<g.length:=by simpa using hj
   rw[map_gd hj',map_gd hf.lt]
   exact Int.mul_le_mul_of_nonneg_left (hf.ge j hj') (by omega)
  ·rw[map_gd (Nat.lt_trans hj hf.lt),map_gd hf.lt]
   exact Int.mul_lt_mul_of_pos_left (hf.first j hj) hn
theorem dvn_mul {n S : Int} (hn : 0<n) : ∀ (R : Nat) (o g : List Int),dvn (n*S) R o (g.map (n*·))=dvn S R o g
 | 0,_,_=>rfl
 | R+1,o,g=>by
  simp only[dvn]
  rw[fmx_mul hn]
  have e : (g.map (n*·)).set (fmx g) ((g.map (n*·)).getD (fmx g) 0-n*S)=(g.set (fmx g) (g.getD (fmx g) 0-S)).map (n*·):=by
   rw[List.map_set]
   by_cases h : fmx g<g.length
   ·rw[map_gd h,Int.mul_sub]
   ·rw[List.set_eq_of_length_le (by simp;omega),List.set_eq_of_length_le (by simp;omega)]
  rw[e]
  exact dvn_mul hn R _ _
theorem dv_mul {n : Int} (hn : 0<n) (a : List Int) (t : Int) : dv (a.map (n*·)) t=dv a t:=by
 have h1 : sm (a.map (n*·))=n*sm a:=sm_map_mul n a
 have h2 : ∀ w : Int,(t*(n*w)).tdiv (n*sm a)=(t*w).tdiv (sm a):=by
  intro w
  have : t*(n*w)=n*(t*w):=by rw[← Int.mul_assoc,← Int.mul_assoc,Int.mul_comm t n]
  rw[this,Int.mul_tdiv_mul_of_pos _ _ hn]
 have h3 : par t (n*sm a) (a.map (n*·))=par t (sm a) a:=by
  unfold par;rw[List.map_map];congr 1;funext w;exact h2 w
 have h4 : lak t (n*sm a) (a.map (n*·))=(lak t (sm a) a).map (n*·):=by
  unfold lak;rw[List.map_map,List.map_map];congr 1;funext w
  show t*(n*w)-(t*(n*w)).tdiv (n*sm a)*(n*sm a)=n*(t*w-(t*w).tdiv (sm a)*sm a)
  rw[h2,Int.mul_sub]
  congr 1
  ·rw[← Int.mul_assoc,← Int.mul_assoc,Int.mul_comm t n]
  ·rw[← Int.mul_assoc,← Int.mul_assoc,Int.mul_comm n]
 unfold dv rst
 rw[h1,h3,h4,dvn_mul hn]
end Go.Xe.Rnd
