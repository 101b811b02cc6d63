/- Roundings as a list: how many there are, and the first of the least change. Conditions: none. -/
import Derived.Test.YtimnlnfpblomnaaTRZ
import Derived.Test.YtimnlnfpblomnaaTSZ
namespace Go.Xe.Rnd
structure Rs where
 w : Nat
 c : Int
 b : List (List Int)
def cmb (x y : Rs) : Rs:=if y.w=0 then x else if x.w=0∨y.c<x.c then ⟨x.w+y.w,y.c,y.b⟩ else ⟨x.w+y.w,x.c,x.b⟩
theorem cmb_w (x y : Rs) : (cmb x y).w=x.w+y.w:=by
 unfold cmb
 split
 ·omega
 ·split<;>rfl
theorem cmb_nz (x : Rs) {y : Rs} (h : y.w≠0) : cmb x y=if x.w=0∨y.c<x.c then ⟨x.w+y.w,y.c,y.b⟩ else ⟨x.w+y.w,x.c,x.b⟩:=by rw[cmb,if_neg h]
theorem cmb_assoc (x y z : Rs) : cmb (cmb x y) z=cmb x (cmb y z):=by
 by_cases hz : z.w=0
 ·have e1 : cmb (cmb x y) z=cmb x y:=by rw[cmb,if_pos hz]
  have e2 : cmb y z=y:=by rw[cmb,if_pos hz]
  rw[e1,e2]
 ·by_cases hy : y.w=0
  ·have e1 : cmb x y=x:=by rw[cmb,if_pos hy]
   have e2 : cmb y z=z:=by
    rw[cmb,if_neg hz,if_pos (.inl hy),hy,Nat.zero_add]
   rw[e1,e2]
  ·have hyz : (cmb y z).w≠0:=by rw[cmb_w];omega
   have hxy : (cmb x y).w≠0:=by rw[cmb_w];omega
   rw[cmb_nz _ hz,cmb_nz _ hyz,cmb_w,cmb_w]
   have e1 : (cmb x y).c=if x.w=0∨y.c<x.c then y.c else x.c:=by rw[cmb,if_neg hy];split<;>rfl
   have e2 : (cmb x y).b=if x.w=0∨y.c<x.c then y.b else x.b:=by rw[cmb,if_neg hy];split<;>rfl
   have e3 : (cmb y z).c=if z.c<y.c then z.c else y.c:=by
    rw[cmb,if_neg hz]
    by_cases h : z.c<y.c
    ·rw[if_pos (.inr h),if_pos h]
    ·rw[if_neg (by omega),if_neg h]
   have e4 : (cmb y z).b=if z.c<y.c then z.b else y.b:=by
    rw[cmb,if_neg hz]
    by_cases h : z.c<y.c
    ·rw[if_pos (.inr h),if_pos h]
    ·rw[if_neg (by omega),if_neg h]
   rw[e1,e2,e3,e4]
   by_cases h1 : x.w=0∨y.c<x.c
   ·rw[if_pos h1,if_pos h1]
    by_cases h2 : z.c<y.c
    ·rw[if_pos h2,if_pos h2,if_pos (by omega),if_pos (by omega),Nat.add_assoc]
    ·rw[if_neg h2,if_neg h2,if_neg (by omega),if_pos h1,Nat.add_assoc]
   ·rw[if_neg h1,if_neg h1]
    by_cases h2 : z.c<y.c
    ·rw[if_pos h2,if_pos h2]
     by_cases h3 : z.c<x.c
     ·rw[if_pos (.inr h3),if_pos (.inr h3),Nat.add_assoc]
     ·rw[if_neg (by omega),if_neg (by omega),Nat.add_assoc]
    ·rw[if_neg h2,if_neg h2,if_neg (by omega),if_neg h1,Nat.add_assoc]
def rsf (f : List (List Int)→Int) : List (List (List Int))→Rs
 | []=>⟨0,0,[]⟩
 | N::L=>cmb ⟨1,f N,N⟩ (rsf f L)
theorem rsf_w (f : List (List Int)→Int) : ∀ L,(rsf f L).w=L.length
 | []=>rfl
 | N::L=>by rw[rsf,cmb_w,rsf_w f L,List.length_cons];exact Nat.add_comm _ _
theorem cmb_0 (f : List (List Int)→Int) (L : List (List (List Int))) : cmb ⟨0,0,[]⟩ (rsf f L)=rsf f L:=by
 cases L with
 | nil=>rfl
 | cons N L=>
  have h : (rsf f (N::L)).w≠0:=by rw[rsf_w];simp
  rw[cmb,if_neg h,if_pos (.inl rfl),Nat.zero_add]
theorem rsf_app (f : List (List Int)→Int) : ∀ A B,rsf f (A++B)=cmb (rsf f A) (rsf f B)
 | [],B=>(cmb_0 f B).symm
 | N::A,B=>by rw[List.cons_append,rsf,rsf_app f A B,rsf,cmb_assoc]
def sft (far : Int) (x : List Int) (r : Rs) : Rs:=if r.w=0 then ⟨0,0,[]⟩ else ⟨r.w,far+r.c,x::r.b⟩
theorem rsf_map {f g : List (List Int)→Int} {far : Int} {x : List Int} (h : ∀ N,f (x::N)=far+g N) : ∀ L,rsf f (L.map (x::·))=sft far x (rsf g L)
 | []=>rfl
 | N::L=>by
  rw[List.map_cons,rsf,rsf_map h L,rsf,h]
  have hw:=rsf_w g L
  by_cases h0 : L.length=0
  ·have e1 : (rsf g L).w=0:=by omega
   have e2 : (sft far x (rsf g L)).w=0:=by rw[sft,if_pos e1]
   rw[cmb,if_pos e2,cmb,if_pos e1,sft,if_neg (by simp)]
  ·have e1 : (rsf g L).w≠0:=by omega
   have e2 : sft far x (rsf g L)=⟨(rsf g L).w,far+(rsf g L).c,x::(rsf g L).b⟩:=by rw[sft,if_neg e1]
   rw[e2,cmb,if_neg e1,cmb,if_neg e1]
   by_cases h2 : (rsf g L).c<g N
   ·rw[if_pos (by simp;omega),if_pos (by simp;omega),sft,if_neg (by simp)]
   ·rw[if_neg (by simp;omega),if_neg (by simp;omega),sft,if_neg (by simp)]
theorem rsf_add {f g : List (List Int)→Int} {far : Int} {x : List Int} (h : ∀ N,f (x::N)=far+g N) (A L : List (List (List Int))) (hL : L≠[]) :
  rsf f (A++L.map (x::·))=if (rsf f A).w=0∨far+(rsf g L).c<(rsf f A).c then ⟨(rsf f A).w+(rsf g L).w,far+(rsf g L).c,x::(rsf g L).b⟩ else ⟨(rsf f A).w+(rsf g L).w,(rsf f A).c,(rsf f A).b⟩:=by
 have e1 : (rsf g L).w≠0:=by rw[rsf_w];intro e;exact hL (List.length_eq_zero_iff.1 e)
 rw[rsf_app,rsf_map h,sft,if_neg e1,cmb,if_neg e1]
theorem rsf_spec (f : List (List Int)→Int) : ∀ L,L≠[]→∃ A B,L=A++(rsf f L).b::B∧(rsf f L).c=f (rsf f L).b∧(∀ N∈A,(rsf f L).c<f N)∧∀ N∈B,(rsf f L).c≤f N
 | [],h=>absurd rfl h
 | N::L,_=>by
  by_cases h0 : L=[]
  ·subst h0
   exact⟨[],[],rfl,rfl,fun _ h=>by simp at h,fun _ h=>by simp at h⟩
  ·obtain⟨A,B,h1,h2,h3,h4⟩:=rsf_spec f L h0
   have e1 : (rsf f L).w≠0:=by rw[rsf_w];intro e;exact h0 (List.length_eq_zero_iff.1 e)
   rw[rsf,cmb,if_neg e1]
   by_cases hc : (rsf f L).c<f N
   ·rw[if_pos (by simp;omega)]
    refine⟨N::A,B,by rw[List.cons_append,← h1],h2,?_,h4⟩
    intro M hM
    rcases List.mem_cons.1 hM with rfl|hM
    ·exact hc
    ·exact h3 M hM
   ·rw[if_neg (by simp;omega)]
    refine⟨[],L,rfl,rfl,fun _ h=>by simp at h,?_⟩
    intro M hM
    rw[h1] at hM
    rcases List.mem_append.1 hM with hM|hM
    ·have:=h3 M hM;show f N≤f M;omega
    ·rcases List.mem_cons.1 hM with rfl|hM
     ·show f N≤_;omega
     ·have:=h4 M hM;show f N≤f M;omega
theorem rsf_mem {f : List (List Int)→Int} {L : List (List (List Int))} (h : L≠[]) : (rsf f L).b∈L:=by
 obtain⟨A,B,h1,_⟩:=rsf_spec f L h
 have h2 : (rsf f L).b∈A++(rsf f L).b::B:=by simp
 exact Eq.mp (congrArg ((rsf f L).b∈·) h1.symm) h2
end Go.Xe.Rnd
/- Roundings as a list: what is in it, and its order. Conditions: none. -/
namespace Go.Xe.TRX
open Go Go.Xe Go.Proofs
open Go.Xe.Rnd
def fol (T : Tb) : Nat→(Nat→Int)→List (List (List Int))
 | 0,g=>if als T.b g (due T.C) then [[]] else []
 | k+1,g=>(cho T (T.C.length-(k+1)) (cols T) []).flatMap fun x=>(fol T k (pl g x)).map (x::·)
def fco (T : Tb) (k : Nat) (N : List (List Int)) : Int:=chg (T.C.drop (T.C.length-k)) N
def sr (T : Tb) (k : Nat) (g : Nat→Int) : Rs:=rsf (fco T k) (fol T k g)
theorem cho_mem {T : Tb} {r : Nat} : ∀ {k : Nat} {l x : List Int},x∈cho T r k l↔∃ y,x=l++y∧y.length=k∧(∀ j,j<k→rd T.b (y.getD j 0) ((T.C.getD r []).getD (l.length+j) 0))∧al T r x
 | 0,l,x=>by
  unfold cho
  constructor
  ·intro h
   split at h
   ·rename_i hal
    rw[List.mem_singleton] at h
    subst h
    exact⟨[],by simp,rfl,fun j hj=>by omega,hal⟩
   ·cases h
  ·rintro⟨y,rfl,hy,_,hal⟩
   have : y=[]:=List.length_eq_zero_iff.1 hy
   subst this
   rw[List.append_nil] at hal ⊢
   rw[if_pos hal];simp
 | k+1,l,x=>by
  show x∈(nbs T.b ((T.C.getD r []).getD l.length 0)).flatMap (fun n=>cho T r k (l++[n]))↔_
  rw[List.mem_flatMap]
  constructor
  ·rintro⟨n,hn,hx⟩
   obtain⟨y,rfl,hy,hr,hal⟩:=cho_mem.1 hx
   refine⟨n::y,by simp,by simp[hy],?_,hal⟩
   intro j hj
   cases j with
   | zero=>exact nbs_mem.1 hn
   | succ j=>
    have:=hr j (by omega)
    rw[List.length_append,List.length_singleton] at this
    rw[show l.length+(j+1)=l.length+1+j by omega]
    exact this
  ·rintro⟨y,rfl,hy,hr,hal⟩
   cases y with
   | nil=>simp at hy
   | cons n y=>
    refine⟨n,nbs_mem.2 (hr 0 (by omega)),cho_mem.2 ⟨y,by simp,by simpa using hy,?_,hal⟩⟩
    intro j hj
    have:=hr (j+1) (by omega)
    rw[List.length_append,List.length_singleton,show l.length+1+j=l.length+(j+1) by omega]
    exact this
theorem row_mem {T : Tb} {r : Nat} {x : List Int} : x∈cho T r (cols T) []↔x.length=cols T∧(∀ j,j<cols T→rd T.b (x.getD j 0) ((T.C.getD r []).getD j 0))∧al T r x:=by
 rw[cho_mem]
 constructor
 ·rintro⟨y,rfl,h1,h2,h3⟩
  refine⟨by simpa using h1,fun j hj=>?_,h3⟩
  have:=h2 j hj
  simpa using this
 ·rintro⟨h1,h2,h3⟩
  exact⟨x,rfl,h1,fun j hj=>by simpa using h2 j hj,h3⟩
theorem due_cons (x : List Int) (N : List (List Int)) (i : Nat) : due (x::N) i=x.getD i 0+due N i:=rfl
theorem due_pl {g : Nat→Int} {x : List Int} {N : List (List Int)} : (fun i=>g i+due (x::N) i)=fun i=>pl g x i+due N i:=by
 funext i
 rw[due_cons];unfold pl;omega
theorem fol_mem {T : Tb} : ∀ {k : Nat} {g : Nat→Int} {N : List (List Int)},k≤T.C.length→(N∈fol T k g↔N.length=k∧(∀ i,i<k→N.getD i []∈cho T (T.C.length-k+i) (cols T) [])∧als T.b (fun i=>g i+due N i) (due T.C))
 | 0,g,N,_=>by
  unfold fol
  have e : ∀ i,g i+due [] i=g i:=fun i=>Int.add_zero _
  constructor
  ·intro h
   split at h
   ·rename_i ha
    rw[List.mem_singleton] at h
    subst h
    refine⟨rfl,fun i hi=>by omega,?_⟩
    simp only[e];exact ha
   ·cases h
  ·rintro⟨h1,_,h3⟩
   have : N=[]:=List.length_eq_zero_iff.1 h1
   subst this
   simp only[e] at h3
   rw[if_pos h3];simp
 | k+1,g,N,hk=>by
  show N∈(cho T (T.C.length-(k+1)) (cols T) []).flatMap (fun x=>(fol T k (pl g x)).map (x::·))↔_
  have er : ∀ i,T.C.length-(k+1)+(i+1)=T.C.length-k+i:=fun i=>by omega
  rw[List.mem_flatMap]
  constructor
  ·rintro⟨x,hx,hN⟩
   obtain⟨M,hM,rfl⟩:=List.mem_map.1 hN
   obtain⟨h1,h2,h3⟩:=(fol_mem (by omega)).1 hM
   refine⟨by simp[h1],?_,by rw[due_pl];exact h3⟩
   intro i hi
   cases i with
   | zero=>exact hx
   | succ i=>
    rw[er]
    exact h2 i (by omega)
  ·rintro⟨h1,h2,h3⟩
   cases N with
   | nil=>simp at h1
   | cons x M=>
    refine⟨x,h2 0 (by omega),List.mem_map.2 ⟨M,(fol_mem (by omega)).2 ⟨by simpa using h1,?_,by rw[← due_pl];exact h3⟩,rfl⟩⟩
    intro i hi
    have:=h2 (i+1) (by omega)
    rw[er] at this
    exact this
def rnds (T : Tb) : List (List (List Int)):=fol T T.C.length (fun _=>0)
theorem rnds_mem {T : Tb} {N : List (List Int)} : N∈rnds T↔(N.length=T.C.length∧∀ row∈N,row.length=cols T)∧isr T N:=by
 unfold rnds
 rw[fol_mem (Nat.le_refl _),Nat.sub_self]
 have e : (fun i=>(0 : Int)+due N i)=due N:=by funext i;exact Int.zero_add _
 rw[e]
 constructor
 ·rintro⟨h1,h2,h3⟩
  have h4 : ∀ i,i<N.length→(N.getD i []).length=cols T∧(∀ j,j<cols T→rd T.b ((N.getD i []).getD j 0) ((T.C.getD i []).getD j 0))∧al T i (N.getD i []):=fun i hi=>by
   have:=h2 i (by omega)
   rw[Nat.zero_add] at this
   exact row_mem.1 this
  refine⟨⟨h1,fun row hr=>?_⟩,fun r hr=>⟨fun k hk=>(h4 r hr).2.1 k (by rw[← (h4 r hr).1];exact hk),(h4 r hr).2.2⟩,h3⟩
  obtain⟨i,hi,rfl⟩:=List.mem_iff_getElem.1 hr
  have:=(h4 i hi).1
  rwa [gdl hi] at this
 ·rintro⟨⟨h1,h2⟩,h3,h4⟩
  refine⟨h1,fun i hi=>?_,h4⟩
  rw[Nat.zero_add]
  have hi' : i<N.length:=by omega
  have hl : (N.getD i []).length=cols T:=by rw[gdl hi'];exact h2 _ (List.getElem_mem hi')
  exact row_mem.2 ⟨hl,fun j hj=>(h3 i hi').1 j (by omega),(h3 i hi').2⟩
def lx : List Int→List Int→Prop
 | a::l,b::r=>a<b∨(a=b∧lx l r)
 | _,_=>False
theorem cell_nn {T : Tb} (hv : valid T) (r j : Nat) : 0≤(T.C.getD r []).getD j 0:=by
 by_cases hr : r<T.C.length
 ·rw[gdl hr]
  by_cases hj : j<T.C[r].length
  ·have:=((hv.2.2.1 _ (List.getElem_mem hr)).2 _ (List.getElem_mem hj)).1
   rw[List.getD_eq_getElem?_getD,List.getElem?_eq_getElem hj];exact this
  ·rw[List.getD_eq_getElem?_getD,List.getElem?_eq_none (by omega)];exact Int.le_refl _
 ·have e : T.C.getD r []=[]:=by rw[List.getD_eq_getElem?_getD,List.getElem?_eq_none (by omega)];rfl
  rw[e];exact Int.le_refl _
end Go.Xe.TRX
/- What the functions of the layer round come to: what a row can become, as an iterator. Conditions: none. -/
-- MOD TR
namespace Go.Xe.TRX
open Go Go.Xe Go.Proofs
open Nat renaming reduceLeDiff → qA, reduceSub → qB, reduceAdd → qC, reduceEqDiff → qD, reduceLT → qE
open Int renaming reduceNegSucc → qF, reduceEq → qG
open Go.Xe.V renaming seq → sA, block → sB, scope → sC, skip → sD, close → sE
open Go.Xe renaming pth → P
open Go.Xe.Rnd
set_option maxRecDepth 100000
set_option maxHeartbeats 1600000
set_option linter.unusedSimpArgs false
noncomputable def d90 : FCode:=(.seq (.run (.go (.box 89 (tm 0)) (P 2)::
.go (.box 3 (tm 1)) (P 3)::
.go (.move (.con .nilFunc)) (P 4)::
[])) (.seq (.run (.go (.makeFunc 94 [] [(tm 2),(tm 3)]) (P 5)::
.go (.move (tm 5)) (P 4)::
[])) .ret))
theorem de90 : @compF Try.prog (Gl.none Try.prog) Try.f90 2=.mk d90 (mkTT 6) [(P 0),(P 1)] [.tmp (P 4)]:=by kernel_rfl
theorem dg90 : Try.prog.funcs[90]?=some Try.f90:=Try.func90
theorem do90 : okF Try.prog Try.f90=true:=by kernel_rfl
noncomputable def d94 : FCode:=(.seq (.run (.go (.box 104 (tm 0)) (P 3)::
[])) (.seq (.run (.go (.alloc 104 [.nilFunc]) (P 4)::
[])) (.seq (.run (.go (.makeFunc 95 [] [(tm 1),(tm 2),(tm 3),(tm 4)]) (P 5)::
.un (.store 1 (tm 4) (tm 5))::
[])) (.run (.go (.load1 (tm 4)) (P 6)::
.go (.call (tm 6) [(.con (.slice none 0 0))]) (P 7)::
[])))))
theorem de94 : @compF Try.prog (Gl.none Try.prog) Try.f94 3=.mk d94 (mkTT 8) [(P 0),(P 1),(P 2)] []:=by kernel_rfl
theorem dg94 : Try.prog.funcs[94]?=some Try.f94:=Try.func94
theorem do94 : okF Try.prog Try.f94=true:=by kernel_rfl
theorem f90_ok {H : Heap} {c f s : Value} {T : Tb} {d : Nat→Int} {r : Int} (h : BV H c f s T) : F Try.prog 90 ⟨[.agg ⟨bl T.b c f s d⟩,I r]⟩ H (fun v X=>Grow H X∧∃ pb pr,v=.func (.func 94) ⟨[]⟩ ⟨[PT pb,PT pr]⟩∧H.next≤pb∧H.next≤pr∧Bx X pb (bl T.b c f s d) 89∧Bx X pr [I r] 3):=by
 obtain⟨pc,nc,cc,ec⟩:=h.t.c.isS
 obtain⟨pf,nf,cf,ef⟩:=h.t.f.isS
 obtain⟨ps,ns,cs,es⟩:=h.s.isS
 subst ec;subst ef;subst es
 refine F.entryL rfl dg90 do90 de90 rfl (by kernel_rfl) ?_
 simp only[sets]
 refine V.re [(0,.agg ⟨bl T.b (.slice pc nc cc) (.slice pf nf cf) (.slice ps ns cs) d⟩),(1,I r)] (N:=6) zE zY ?_
 intro t hF hA
 simp only[Kn,and_true] at hA
 refine zS ?_
 refine V.l0 ?_
 refine V.heap (fun X=>Grow H X∧Bx X H.next (bl T.b (.slice pc nc cc) (.slice pf nf cf) (.slice ps ns cs) d) 89∧Bx X (H.next+1) [I r] 3) ⟨?_,?_,?_⟩ ?_
 ·exact zW
 ·exact zB
 ·exact zB
 rintro H1 ⟨g1,b1,c1⟩
 refine zS ?_
 refine V.l0 ?_
 refine zS ?_
 refine V.ret (V.rets rfl (Lv.retF (by simp +contextual (disch:=first|omega|simp only[nx];omega) only[D1,cells_alloc_at,cells_alloc_ne,cells_set_at,cells_set_ne,yres,yres1,yresL,qA,qB,qC,D5,hF,hA,↓reduceIte,qD,qE];rfl) ?_))
 exact⟨g1,_,_,rfl,Nat.le_refl _,by omega,b1,c1⟩
def okI (L : List (List Int)) (n0 k : Nat) (W : Nat→Prop) (X : Heap) (l : List Value) : Prop:=∃ v G,l=[v]∧n0≤G∧(∀ i,W i→i<G)∧∃ Y : Heap,Y.next=G∧Ow Y X 3 v (Li (L.getD k []))
theorem f94_iter {A H0 : Heap} {c f s : Value} {T : Tb} {d : Nat→Int} {r pb pr : Nat} (h : BV A c f s T) (gA : Grow A H0) (kb : Bx H0 pb (bl T.b c f s d) 89) (kr : Bx H0 pr [I r] 3) (hr : r<T.C.length) (hf : fits T) (hv : valid T) :
  IterW Try.prog 94 [] [PT pb,PT pr] (fun i=>i<A.next∨i=pb∨i=pr) H0 (cho T r (cols T) []).length (okI (cho T r (cols T) [])):=by
 intro j U I' H hn hU hD stab body h0
 obtain⟨kb1,kb2,kb3⟩:=hD pb (.inr (.inl rfl))
 obtain⟨kr1,kr2,kr3⟩:=hD pr (.inr (.inr rfl))
 have kbH : Bx H pb (bl T.b c f s d) 89:=⟨by omega,by have:=kb.2;unfold Heap.cellsAt at this ⊢;rw[kb3];exact this⟩
 have krH : Bx H pr [I r] 3:=⟨by omega,by have:=kr.2;unfold Heap.cellsAt at this ⊢;rw[kr3];exact this⟩
 have gH : Grow A H:=⟨by have:=gA.1;omega,fun i hi=>by rw[(hD i (.inl hi)).2.2,gA.2 i hi]⟩
 show F Try.prog 94 ⟨[.func (.yield j) ⟨[]⟩ ⟨[]⟩,PT pb,PT pr]⟩ H _
 refine F.entryL rfl dg94 do94 de94 rfl (by kernel_rfl) ?_
 simp only[sets]
 refine V.re [(0,.func (.yield j) ⟨[]⟩ ⟨[]⟩),(1,PT pb),(2,PT pr)] (N:=8) zE zY ?_
 intro t hF hA
 simp only[Kn,and_true] at hA
 refine zS ?_
 refine V.l0 ?_
 refine V.heap (fun X=>Grow H X∧Bx X H.next [.func (.yield j) ⟨[]⟩ ⟨[]⟩] 104) ⟨?_,?_⟩ ?_
 ·exact zW
 ·exact zB
 rintro H1 ⟨g1,b1⟩
 refine zS ?_
 refine V.l0 ?_
 refine V.heap (fun X=>Grow H X∧Bx X H.next [.func (.yield j) ⟨[]⟩ ⟨[]⟩] 104∧Bx X H1.next [.nilFunc] 104) ⟨?_,?_,?_⟩ ?_
 ·exact g1.alloc _
 ·exact b1.alloc _
 ·exact zB
 rintro H2 ⟨g2,b2,c2⟩
 have n1:=b1.1
 have n2:=c2.1
 refine zS ?_
 have zf:=c2.2
 refine V.lz ?_
 refine V.heap (fun X=>Grow H X∧Bx X H.next [.func (.yield j) ⟨[]⟩ ⟨[]⟩] 104∧Bx X H1.next [.func (.func 95) ⟨[]⟩ ⟨[PT pb,PT pr,PT H.next,PT H1.next]⟩] 104) ⟨?_,?_,?_⟩ ?_
 ·exact g2.set (by omega) _
 ·exact⟨b2.1,(cells_set_ne _ _ (by omega)).trans b2.2⟩
 ·exact⟨c2.1,cells_set _ _ _ _ _⟩
 rintro X0 ⟨g3,b3,c3⟩
 have nX:=c3.1
 have gU : GrowS U H X0:=g3.s
 have ctx : Ctx T r c f s (.func (.yield j) ⟨[]⟩ ⟨[]⟩) d U I' X0 pb pr H.next H1.next:=by
  refine⟨h.grow (gH.trans g3),hv.1,hr,hf,hv,kbH.grow g3,krH.grow g3,b3,c3,fun i hi=>by have:=hU i hi;omega,?_,?_,?_,?_,?_⟩
  ·intro k W W' X X' hI hW g w1 w2
   exact stab k W W' X X' hI (fun i hi=>by have:=hW i hi;omega) g w1 w2
  ·rintro k W X l hk hI hW hg ⟨v,G,rfl,q1,q2,q3⟩
   exact body k W X [v] hk hI (fun i hi=>by have:=hW i hi;omega) (gU.trans hg) ⟨v,G,rfl,by omega,q2,q3⟩
  ·intro X g
   refine h.grow ⟨by have:=gH.1;have:=g.1;omega,fun i hi=>?_⟩
   obtain⟨q1,q2,q3⟩:=hD i (.inl hi)
   rw[g.2 i (by omega) q2,g3.2 i (by omega),gH.2 i hi]
  ·simp[vEq,vEq0,all2]
  ·exact⟨kb2,kr2,fun hh=>by have:=hU _ hh;omega,fun hh=>by have:=hU _ hh;omega⟩
 have hI0 : I' 0 (fun _=>False) X0:=stab 0 _ _ H X0 h0 (fun _ hh=>hh.elim) g3.s (fun _ hh=>hh) (fun _ hh=>hh.elim)
 have f95':=f95_ok ctx (k:=cols T) (l:=[]) (X:=X0) (W:=fun _=>False) (p:=0) (v:=.slice none 0 0) (by simp) hI0 (fun _ hh=>hh.elim) (.refl _) (.inl ⟨rfl,rfl⟩) (fun _ hx=>by simp at hx) ⟨[],[],by simp,rfl⟩
 have fvc:=FV.fn (P:=Try.prog) (g:=95) (a:=[]) (b:=[PT pb,PT pr,PT H.next,PT H1.next]) (l:=[Value.slice none 0 0]) f95'
 refine zS ?_
 refine V.run ?_
 have zf:=c3.2
 refine VI.sz 1 ?_
 simp only[ds]
 refine VI.callV zA fvc ?_
 rintro w X ⟨rfl,W',_,w2,w3,w4,_⟩
 refine VI.l0 ?_
 refine zS ?_
 refine V.nil (Lv.normal rfl ?_)
 refine⟨gU.trans (w3.mono fun i hi=>hi.elim id (fun hh=>hh.1.elim)),W',fun i hi=>?_,by simpa using w4⟩
 have:=(w2 i hi).1
 rcases this with hh|hh
 ·exact hh.elim
 ·omega
end Go.Xe.TRX
/- What the functions of the layer round come to: ranges that any neighbour widens. Conditions: none. -/
-- MOD TR
namespace Go.Xe.TRX
open Go Go.Xe Go.Proofs
open Nat renaming reduceLeDiff → qA, reduceSub → qB, reduceAdd → qC, reduceEqDiff → qD, reduceLT → qE
open Int renaming reduceNegSucc → qF, reduceEq → qG
open Go.Xe.V renaming seq → sA, block → sB, scope → sC, skip → sD, close → sE
open Go.Xe renaming pth → P
open Go.Xe.Rnd
set_option maxRecDepth 100000
set_option maxHeartbeats 1600000
set_option linter.unusedSimpArgs false
noncomputable def d87 : FCode:=(.seq (.run (.go (.box 89 (tm 0)) (P 1)::
.go (.move (.con (.slice none 0 0))) (P 2)::
[])) (.seq (.run (.go (.move (.con (.slice none 0 0))) (P 3)::
[])) (.seq (.seq (.run (.go (.fieldAddr 0 (tm 1)) (P 9)::
.go (.fieldAddr 1 (tm 9)) (P 10)::
.go (.load1 (tm 10)) (P 11)::
.go (.len 0 (tm 11)) (P 12)::
.go (.move (.con (.int .i64 (.ofNat 0)))) (P 13)::
[])) (.block 0 (.loop (.seq (.run (.go (.bin .lss 3 (tm 13) (tm 12)) (P 14)::
[])) (.seq (.cond (tm 14) .skip (.exit 0)) (.seq (.block 1 (.seq (.run (.go (.indexAddr none 1 (tm 11) (tm 13)) (P 15)::
.go (.load1 (tm 15)) (P 16)::
.go (.move (tm 16)) (P 5)::
[])) (.seq (.run (.go (.move (.con (.slice none 0 0))) (P 6)::
[])) (.seq (.seq (.run (.go (.move (tm 5)) (P 17)::
.go (.len 0 (tm 17)) (P 18)::
.go (.move (.con (.int .i64 (.ofNat 0)))) (P 19)::
[])) (.block 2 (.loop (.seq (.run (.go (.bin .lss 3 (tm 19) (tm 18)) (P 20)::
[])) (.seq (.cond (tm 20) .skip (.exit 2)) (.seq (.block 3 (.seq (.run (.go (.indexAddr none 1 (tm 17) (tm 19)) (P 21)::
.go (.load1 (tm 21)) (P 22)::
.go (.move (tm 22)) (P 8)::
[])) (.draw 13 (.go (.move (tm 6)) (P 23)::
.go (.fieldAddr 0 (tm 1)) (P 24)::
.go (.loadN 3 (tm 24)) (P 25)::
.go (.move (tm 8)) (P 26)::
.go (.call (.con (.func (.func 83) ⟨[]⟩ ⟨[]⟩)) [(tm 25),(tm 26)]) (P 27)::
.go (.fieldAddr 0 (tm 1)) (P 28)::
.go (.loadN 3 (tm 28)) (P 29)::
.go (.move (tm 8)) (P 30)::
.go (.call (.con (.func (.func 82) ⟨[]⟩ ⟨[]⟩)) [(tm 29),(tm 30)]) (P 31)::
.go (.build [(.int .i64 (.ofNat 0)),(.int .i64 (.ofNat 0))] [(0,1,(tm 27)),(1,1,(tm 31))]) (P 32)::
.go (.buildSlice 59 1 [(.int .i64 (.ofNat 0)),(.int .i64 (.ofNat 0))] [(0,2,(tm 32))]) (P 33)::
.go (.append 59 2 16 (tm 23) (tm 33)) (P 34)::
.go (.move (tm 34)) (P 6)::
[]) [.ok,.ok,.ok,.ok,.ok,.ok,.rd none (.loadN 3 (tm 28)) (some (P 29)) [0],.ok,.ok,.ok,.ok,.ok,.ok]))) (.run (.go (.bin .add 3 (tm 19) (.con (.int .i64 (.ofNat 1)))) (P 35)::
.go (.move (tm 35)) (P 19)::
[])))))))) (.run (.go (.move (tm 3)) (P 36)::
.go (.move (tm 6)) (P 37)::
.go (.buildSlice 56 1 [(.slice none 0 0)] [(0,1,(tm 37))]) (P 38)::
.go (.append 56 1 24 (tm 36) (tm 38)) (P 39)::
.go (.move (tm 39)) (P 3)::
[])))))) (.run (.go (.bin .add 3 (tm 13) (.con (.int .i64 (.ofNat 1)))) (P 40)::
.go (.move (tm 40)) (P 13)::
[])))))))) (.seq (.run (.go (.move (tm 3)) (P 41)::
.go (.move (tm 41)) (P 2)::
[])) .ret))))
theorem de87 : @compF Try.prog (Gl.none Try.prog) Try.f87 1=.mk d87 (mkTT 42) [(P 0)] [.tmp (P 2)]:=by kernel_rfl
theorem dg87 : Try.prog.funcs[87]?=some Try.f87:=Try.func87
theorem do87 : okF Try.prog Try.f87=true:=by kernel_rfl
def ecs (b : Int) (l : List Int) : List Value:=(l.map fun n=>A2 (hi b n) (lo b n)).flatten
theorem ecs_len (b : Int) (l : List Int) : (ecs b l).length=l.length*2:=by
 unfold ecs
 rw[flat_len (w:=2) (fun x hx=>by obtain⟨n,_,rfl⟩:=List.mem_map.1 hx;rfl),List.length_map]
theorem ecs_take {b : Int} {l : List Int} {k : Nat} (h : k<l.length) : ecs b (l.take (k+1))=ecs b (l.take k)++A2 (hi b l[k]) (lo b l[k]):=by
 unfold ecs
 rw[tk1 h,List.map_append,List.flatten_append];rfl
theorem tk1n {l : List (List Int)} {k : Nat} (h : k<l.length) : l.take (k+1)=l.take k++[l[k]]:=List.take_succ_eq_append_getElem h
def ecl (b : Int) (l : List Int) : Nat×List Value:=(l.length,ecs b l)
theorem f87_ok {H : Heap} {c f s : Value} {T : Tb} {d : Nat→Int} (h : BV H c f s T) (hf : fits T) (hv : valid T) : F Try.prog 87 ⟨[.agg ⟨bl T.b c f s d⟩]⟩ H (fun w X=>Grow H X∧∃ n0 col vs,H.next≤n0∧Oc n0 col 0 X 56 w T.C.length vs∧Rws n0 col (fun k=>k+1) X 59 vs (T.C.map (ecl T.b))):=by
 obtain⟨pc,nc,cc,ec⟩:=h.t.c.isS
 obtain⟨pf,nf,cf,ef⟩:=h.t.f.isS
 obtain⟨ps,ns,cs,es⟩:=h.s.isS
 subst ec;subst ef;subst es
 have hcl:=h.t.c.len
 have hb:=hv.1
 have hC5:=hf.1
 refine F.entryL rfl dg87 do87 de87 rfl (by kernel_rfl) ?_
 simp only[sets]
 refine V.re [(0,.agg ⟨bl T.b (.slice pc nc cc) (.slice pf nf cf) (.slice ps ns cs) d⟩)] (N:=42) zE zY ?_
 intro t hF hA
 simp only[Kn,and_true] at hA
 refine zS ?_
 refine V.l0 ?_
 refine V.heap (fun X=>Grow H X∧Bx X H.next (bl T.b (.slice pc nc cc) (.slice pf nf cf) (.slice ps ns cs) d) 89) ⟨?_,?_⟩ ?_
 ·exact zW
 ·exact zB
 rintro H1 ⟨g1,b1⟩
 have nb:=b1.1
 refine zS ?_
 refine V.l0 ?_
 refine zS ?_
 have zf:=And.intro b1.2<|@hcl
 refine V.lz ?_
 refine zS ?_
 refine V.loop (fun z t m X=>∃ (r : Nat) (col : Nat→Nat) (vo : Value) (vs : List Value),r≤T.C.length∧z=T.C.length-r∧m=[]∧Grow H1 X∧Oc H1.next col 0 X 56 vo r vs∧Rws H1.next col (fun k=>k+1) X 59 vs ((T.C.take r).map (ecl T.b))∧Full 42 t∧Kn [(1,PT H.next),(3,vo),(11,.slice pc nc cc),(12,I T.C.length),(13,I r)] t) T.C.length ?_ ?_
 ·exact⟨0,fun _=>0,.slice none 0 0,[],by omega,by omega,rfl,.refl _,.nil,⟨by simp,fun k x r hx=>by simp at hx⟩,zF,zK⟩
 clear hF hA
 rintro z t m X ⟨r,col,vo,vs,hr,rfl,rfl,hg,oo,rw0,hF,hA⟩
 simp only[Kn,and_true] at hA
 refine zS ?_
 refine V.l0 ?_
 refine zS ?_
 refine V.condP zP (fun hlt=>?_) (fun hlt=>?_)
 ·have hr' : r<T.C.length:=by omega
  obtain⟨q,u,hq,hu⟩:=h.t.c.at ri hr'
  have hqk:=hq .i64
  have hrow:=hv.2.2.1 _ (List.getElem_mem hr')
  have hl4:=hf.2.2 _ (List.getElem_mem hr')
  obtain⟨l,hl⟩ : ∃ l,l=T.C[r]:=⟨_,rfl⟩
  rw[← hl] at hu hl4 hrow
  obtain⟨hu1,hu2⟩:=hu X (g1.trans hg)
  obtain⟨pu,nu,cu,rfl⟩:=hu2.isS
  have hul:=hu2.len
  have hvl : vs.length=r:=by rw[rw0.1,List.length_map,List.length_take];omega
  refine zS ?_
  have zf:=And.intro @hqk<|@hu1
  refine V.lz ?_
  refine zS ?_
  refine V.l0 ?_
  refine zS ?_
  have zf:=@hul
  refine V.lz ?_
  refine zS ?_
  refine V.loop (fun z t m Y=>∃ (k : Nat) (col1 : Nat→Nat) (vi : Value),k≤l.length∧z=l.length-k∧m=[]∧Grow H1 Y∧Oc H1.next col1 0 Y 56 vo r vs∧Rws H1.next col1 (fun k=>k+1) Y 59 vs ((T.C.take r).map (ecl T.b))∧Oc H1.next col1 (r+1) Y 59 vi k (ecs T.b (l.take k))∧Full 42 t∧Kn [(1,PT H.next),(3,vo),(6,vi),(11,.slice pc nc cc),(12,I T.C.length),(13,I r),(17,.slice pu nu cu),(18,I l.length),(19,I k)] t) l.length ?_ ?_
  ·exact⟨0,col,.slice none 0 0,by omega,by omega,rfl,hg,oo,rw0,.nil,zF,zK⟩
  clear hF hA
  rintro z t m Y ⟨k,col1,vi,hk,rfl,rfl,hgY,oo1,rw1,oi1,hF,hA⟩
  simp only[Kn,and_true] at hA
  refine zS ?_
  refine V.l0 ?_
  refine zS ?_
  refine V.condP zP (fun hlk=>?_) (fun hlk=>?_)
  ·have hk' : k<l.length:=by omega
   obtain⟨p,hp,hx⟩:=(hu Y (g1.trans hgY)).2.at hk'
   have hx1:=hx Y (.refl _)
   have hnk:=hrow.2 _ (List.getElem_mem hk')
   have bY:=b1.grow hgY
   obtain⟨pi,ni,ki,ei⟩:=oi1.slice
   subst ei
   refine zS ?_
   have zf:=And.intro @hp<|@hx1
   refine V.lz ?_
   refine zS ?_
   refine V.draw ?_
   have zf:=bY.2
   refine VD.nz 4 ?_
   simp only[ds]
   refine VD.callA zA (f83_ok (n:=l[k]) (c:=.slice pc nc cc) (f:=.slice pf nf cf) hb (by omega)) zA (fun H2 g2=>?_)
   have b2:=bY.grow g2
   have zf:=b2.2
   refine VD.nz 3 ?_
   simp only[ds]
   refine VD.callA zA (f82_ok (n:=l[k]) (c:=.slice pc nc cc) (f:=.slice pf nf cf) hb (by omega)) zA (fun H3 g3=>?_)
   have b3:=b2.grow g3
   have g23:=g2.trans g3
   have m2:=g2.1
   have m3:=g3.1
   have mY:=hgY.1
   have oi3:=oi1.grow g23
   obtain⟨u,Z,e1,o1,s1,k1,n1,c1,pz,rfl,epz⟩:=Oc.push (w:=2) (bytes:=16) (x:=A2 (hi T.b l[k]) (lo T.b l[k])) (by decide) oi3 (by omega) (by rw[ecs_len,List.length_take];omega) rfl rfl (by omega) (by omega)
   have zf:=@e1
   refine VD.dz ?_ ?_ rfl ?_
   ·exact zM
   ·simp only[dcAll,dcOk,wantD,List.cons_append,List.nil_append,true_and,and_true]
    have zf:=And.intro bY.2<|And.intro b2.2<|b3.2
    exact zR
   refine zS ?_
   refine V.l0 ?_
   refine V.nil (Or.inl ⟨rfl,l.length-(k+1),by omega,?_⟩)
   rw[← ecs_take hk'] at o1
   refine⟨k+1,_,_,by omega,by omega,rfl,?_,?_,?_,o1,zF,zK⟩
   ·exact s1.keepG (hgY.trans g23) (Nat.le_refl _)
   ·exact (oo1.grow g23).st s1 (by omega)
   ·refine (rw1.grow g23).st s1 (fun j hj=>?_)
    rw[List.length_map,List.length_take] at hj
    omega
  ·obtain rfl : k=l.length:=by omega
   rw[List.take_length] at oi1
   refine V.exit ?_
   refine zX ?_
   refine V.nil (Or.inr ⟨by simp,?_⟩)
   refine zX ?_
   obtain⟨pi,ni,ki,ei⟩:=oi1.slice
   subst ei
   have mY:=hgY.1
   obtain⟨u2,Z,e1,o1,s1,k1,n1,c1,pz,rfl,epz⟩:=Oc.push (w:=1) (bytes:=24) (x:=[.slice pi ni ki]) (by decide) oo1 (by omega) (by rw[hvl];omega) rfl rfl (by omega) (by omega)
   refine zS ?_
   have zf:=@e1
   refine V.lz ?_
   refine zS ?_
   refine V.l0 ?_
   refine V.nil (Or.inl ⟨rfl,T.C.length-(r+1),by omega,?_⟩)
   refine⟨r+1,_,_,_,by omega,by omega,rfl,s1.keepG hgY (Nat.le_refl _),o1,?_,zF,zK⟩
   have e2 : T.C.take (r+1)=T.C.take r++[l]:=by rw[hl];exact tk1n hr'
   rw[e2,List.map_append,List.map_cons,List.map_nil]
   have hlr : ((T.C.take r).map (ecl T.b)).length=r:=by rw[List.length_map,List.length_take];omega
   refine (rw1.st s1 (fun j hj=>by omega)).push ?_
   rw[hlr]
   exact oi1.st s1 (by omega)
 ·obtain rfl : r=T.C.length:=by omega
  rw[List.take_length] at rw0
  refine V.exit ?_
  refine zX ?_
  refine V.nil (Or.inr ⟨by simp,?_⟩)
  refine zX ?_
  obtain⟨po,no,ko,eo⟩:=oo.slice
  subst eo
  refine zS ?_
  refine V.l0 ?_
  refine zS ?_
  refine V.ret (V.rets rfl (Lv.retF (by simp +contextual (disch:=first|omega|simp only[nx];omega) only[D1,cells_alloc_at,cells_alloc_ne,cells_set_at,cells_set_ne,yres,yres1,yresL,qA,qB,qC,D5,hF,hA,↓reduceIte,qD,qE];rfl) ?_))
  exact⟨g1.trans hg,H1.next,col,vs,by omega,oo,rw0⟩
end Go.Xe.TRX
