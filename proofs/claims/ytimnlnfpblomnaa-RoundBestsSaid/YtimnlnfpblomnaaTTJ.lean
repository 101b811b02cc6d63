/- What the functions of the layer round come to: all roundings of a table. Conditions: none. -/
import Derived.Test.YtimnlnfpblomnaaTTG
noncomputable section
namespace Go.Xe.TRX
open Go Go.Xe Go.Proofs
open Nat renaming reduceLeDiff ->qA, reduceSub ->qB, reduceAdd ->qC, reduceEqDiff ->qD, reduceLT ->qE
open Int renaming reduceNegSucc ->qF, reduceEq ->qG
open Go.Xe.V renaming seq ->sA, block ->sB, scope ->sC, skip ->sD, close ->sE
open Go.Xe renaming pth ->P
open Go.Xe.Rnd
set_option maxRecDepth 100000
set_option maxHeartbeats 1600000
set_option linter.unusedSimpArgs false
def d78 : FCode:=(.seq (.run (.go (.box 89 (tm 0)) (P 1)::
.go (.alloc 94 [(.int .i64 (.ofNat 0)),(.int .i64 (.ofNat 0)),(.slice none 0 0)]) (P 2)::
.go (.alloc 48 [(.slice none 0 0)]) (P 3)::
[])) (.seq (.run (.go (.loadN 8 (tm 1)) (P 6)::
.go (.call (.con (.func (.func 87) ⟨[]⟩ ⟨[]⟩)) [tm 6]) (P 7)::
.un (.store 1 (tm 3) (tm 7))::
[])) (.seq (.run (.go (.makeMap 127) (P 8)::
.go (.alloc 124 [(.map none)]) (P 4)::
.un (.store 1 (tm 4) (tm 8))::
[])) (.seq (.run (.go (.alloc 125 [.nilFunc]) (P 5)::
[])) (.seq (.run (.go (.makeFunc 88 [] [(tm 1),(tm 4),(tm 5),(tm 3)]) (P 9)::
.un (.store 1 (tm 5) (tm 9))::
[])) (.seq (.draw 6 (.go (.load1 (tm 5)) (P 10)::
.go (.build [(.int .i64 (.ofNat 0)),(.int .i64 (.ofNat 0)),(.int .i64 (.ofNat 0)),(.int .i64 (.ofNat 0)),(.int .i64 (.ofNat 0))] []) (P 11)::
.go (.call (tm 10) [tm 11]) (P 12)::
.go (.load1 (tm 3)) (P 13)::
.un (.store 3 (tm 2) (tm 12))::
.un (.store 1 (tm 3) (tm 13))::
[]) [.ok,.ok,.ok,.rd none (.load1 (tm 3)) (some (P 13)) [0,5],.ok,.ok]) .ret))))))
theorem de78 : @compF Try.prog (Gl.none Try.prog) Try.f78 1=.mk d78 (mkTT 14) [(P 0)] [.many (P 2) 3,.one (P 3)]:=by kernel_rfl
theorem dg78 : Try.prog.funcs[78]?=some Try.f78:=Try.func78
theorem do78 : okF Try.prog Try.f78=true:=by kernel_rfl
theorem ecs_at (b : Int) : ∀ (l : List Int) (j : Nat),j<l.length->(ecs b l)[2*j]?=some (I (hi b (l.getD j 0)))/\(ecs b l)[2*j+1]?=some (I (lo b (l.getD j 0)))
 | [],j,h=>absurd h (Nat.not_lt_zero _)
 | n::l,0,_=>⟨rfl,rfl⟩
 | n::l,j+1,h=>by
  have:=ecs_at b l j (by simpa using h)
  have e : ecs b (n::l)=I (hi b n)::I (lo b n)::ecs b l:=rfl
  rw[e,show 2*(j+1)=2*j+1+1 by omega]
  exact this
def inR (T : Tb) (r : Nat) (x : List Int) : Prop:=∃ N∈rnds T,N.getD r []=x
def SpO (T : Tb) (n0 : Nat) (X : Heap) (w : Value) : Prop:=∃ p : Pl,w=.slice (some ⟨p.po,0,none⟩) T.C.length T.C.length/\n0<=p.po/\Bx X p.po (rows T p) 56/\∀ r,r<T.C.length->n0<=p.pi r/\p.pi r<X.next/\∃ R,Rg X (p.pi r) (cols T) R/\SpR T (inR T) r R
theorem SpO.loc {T : Tb} {n0 n1 : Nat} {X Y : Heap} {w : Value} (h : SpO T n0 X w) (hn : n1<=n0) (g : X.next<=Y.next) (k : ∀ i,n0<=i->i<X.next->Y.get i=X.get i) : SpO T n1 Y w:=by
 obtain⟨p,h1,h0,h2,h3⟩:=h
 refine⟨p,h1,by omega,⟨Nat.lt_of_lt_of_le h2.1 g,?_⟩,λr hr=>?_⟩
 ·have:=h2.2
  unfold Heap.cellsAt at this ⊢
  rw[k _ h0 h2.1];exact this
 ·obtain⟨q0,q1,R,q2,q3⟩:=h3 r hr
  exact⟨by omega,Nat.lt_of_lt_of_le q1 g,R,q2.loc (k _ q0 q1),q3⟩
theorem SpO.grow {T : Tb} {n0 : Nat} {X Y : Heap} {w : Value} (h : SpO T n0 X w) (g : Grow X Y) : SpO T n0 Y w:=h.loc (Nat.le_refl _) g.1 (λi _ hi=>g.2 i hi)
def best (T : Tb) : Rs:=rsf (chg T.C) (rnds T)
theorem sr_best (T : Tb) : sr T T.C.length (due [])=best T:=by
 unfold sr best rnds
 have e : fco T T.C.length=chg T.C:=by
  funext N
  unfold fco
  rw[Nat.sub_self,List.drop_zero]
 rw[e,due_nil]
theorem f78_ok {H : Heap} {c f s : Value} {T : Tb} (h : BV H c f s T) (hf : fits T) (hv : valid T) : F Try.prog 78 ⟨[.agg ⟨bl T.b c f s (due T.C)⟩]⟩ H (λw X=>Grow H X/\∃ u sp,w=.tuple ⟨[.agg ⟨[I (best T).w,I (best T).c,u]⟩,sp]⟩/\Bst (λi=>H.next<=i) X u (best T).b/\SpO T H.next X sp):=by
 obtain⟨pc,nc,cc,ec⟩:=h.t.c.isS
 obtain⟨pf,nf,cf,ef⟩:=h.t.f.isS
 obtain⟨ps,ns,cs,es⟩:=h.s.isS
 subst ec;subst ef;subst es
 have hC5:=hf.1
 have hn0 : 0<T.C.length:=by
  have:=hv.2.1
  unfold cols at this
  cases hc : T.C with
  | nil=>rw[hc] at this;simp at this
  | cons a l=>simp
 refine F.entryL rfl dg78 do78 de78 rfl (by kernel_rfl) ?_
 simp only[sets]
 refine V.re [(0,.agg ⟨bl T.b (.slice pc nc cc) (.slice pf nf cf) (.slice ps ns cs) (due T.C)⟩)] (N:=14) zE zY ?_
 intro t hF hA
 simp only[Kn,and_true] at hA
 refine zS ?_
 refine V.l0 ?_
 refine V.heap (λX=>Grow H X/\Bx X H.next (bl T.b (.slice pc nc cc) (.slice pf nf cf) (.slice ps ns cs) (due T.C)) 89/\Bx X (H.next+1) [I 0,I 0,.slice none 0 0] 94/\Bx X (H.next+2) [.slice none 0 0] 48) ⟨?_,?_,?_,?_⟩ ?_
 ·exact zW
 ·exact zB
 ·exact zB
 ·exact zB
 rintro H1 ⟨g1,b1,c1,d1⟩
 have n1:=d1.1
 refine zS ?_
 refine V.run ?_
 have zf:=b1.2
 refine VI.sz 1 ?_
 simp only[ds]
 refine VI.callR zA (f87_ok (d:=due T.C) (h.grow g1) hf hv) zA (λw H2 ⟨g2,n0,col,vs,h0,oo,rw0⟩=>?_)
 have d2:=d1.grow g2
 have n2:=g2.1
 rcases oo with⟨_,e0,_⟩|⟨po,o1,o2,o3,rfl,o4⟩
 ·omega
 have hvl : vs.length=T.C.length:=by rw[rw0.1,List.length_map]
 have zf:=d2.2
 refine VI.lz ?_
 have hrow : ∀ r (hr : r<T.C.length),∃ i,n0<=i/\i<H2.next/\col i=r+1/\vs[r]?=some (.slice (some ⟨i,0,none⟩) (cols T) (cols T))/\H2.cellsAt i=some (⟨ecs T.b T.C[r]⟩,59,true):=by
  intro r hr
  have hl:=(hv.2.2.1 _ (List.getElem_mem hr)).1
  obtain⟨x,hx,ho⟩:=rw0.at (k:=r) (by rw[List.length_map];exact hr)
  rw[List.getElem_map] at ho
  have hp:=hv.2.1
  unfold ecl at ho
  rw[hl] at ho
  rcases ho with⟨_,e0,_⟩|⟨i,i1,i2,i3,rfl,i4⟩
  ·simp only at e0;omega
  ·exact⟨i,i1,i2,i3,hx,i4⟩
 obtain⟨pi,hpi⟩ : ∃ pi : Nat->Nat,∀ r (hr : r<T.C.length),n0<=pi r/\pi r<H2.next/\col (pi r)=r+1/\vs[r]?=some (.slice (some ⟨pi r,0,none⟩) (cols T) (cols T))/\H2.cellsAt (pi r)=some (⟨ecs T.b T.C[r]⟩,59,true):=by
  refine⟨λr=>if hr : r<T.C.length then (hrow r hr).choose else 0,λr hr=>?_⟩
  simp only[dif_pos hr]
  exact (hrow r hr).choose_spec
 refine V.heap (λX=>GrowS (·=H.next+2) H2 X/\Bx X (H.next+2) [.slice (some ⟨po,0,none⟩) T.C.length T.C.length] 48) ⟨?_,?_⟩ ?_
 ·exact GrowS.setAt _ _ _
 ·exact⟨by simp only[Heap.next_set];omega,cells_set _ _ _ _ _⟩
 rintro H3 ⟨g3,d3⟩
 have n3:=g3.1
 refine zS ?_
 refine V.l0 ?_
 refine V.heap (λX=>Grow H3 X/\MpF X H3.next 127 kS (λ_=>none)/\Bx X (H3.next+1) [.map (some H3.next)] 124) ⟨?_,?_,?_⟩ ?_
 ·exact zW
 ·refine MpF.loc (MpF.new H3 127 kS) ?_ ?_
  ·simp only[Heap.next_set,Heap.next_alloc];omega
  ·rw[Heap.get_set,if_neg (by omega),Heap.get_alloc,if_neg (by simp only[Heap.next_alloc];omega)]
 ·exact⟨by simp only[Heap.next_set,Heap.next_alloc];omega,cells_set _ _ _ _ _⟩
 rintro H4 ⟨g4,m4,e4⟩
 have n4:=e4.1
 refine zS ?_
 refine V.l0 ?_
 refine V.heap (λX=>Grow H4 X/\Bx X H4.next [.nilFunc] 125) ⟨?_,?_⟩ ?_
 ·exact zW
 ·exact zB
 rintro H5 ⟨g5,f5⟩
 have n5:=f5.1
 refine zS ?_
 have zf:=f5.2
 refine V.lz ?_
 refine V.heap (λX=>Grow H4 X/\Bx X H4.next [.func (.func 88) ⟨[]⟩ ⟨[PT H.next,PT (H3.next+1),PT H4.next,PT (H.next+2)]⟩] 125) ⟨?_,?_⟩ ?_
 ·exact g5.set (Nat.le_refl _) _
 ·exact⟨by simp only[Heap.next_set];exact n5,cells_set _ _ _ _ _⟩
 rintro H6 ⟨g6,f6⟩
 have n6 : H4.next<H6.next:=f6.1
 have gH3 : Grow H H3:=⟨by omega,λi hi=>by rw[g3.2 i (by omega) (by omega),g2.2 i (by omega),g1.2 i hi]⟩
 obtain⟨p,hp⟩ : ∃ p : Pl,p=⟨H.next,H3.next+1,H4.next,H.next+2,po,H3.next,H6.next,pi⟩:=⟨_,rfl⟩
 have e1 : p.pb=H.next:=by rw[hp]
 have e2 : p.pk=H3.next+1:=by rw[hp]
 have e3 : p.pf=H4.next:=by rw[hp]
 have e4' : p.ps=H.next+2:=by rw[hp]
 have e5 : p.po=po:=by rw[hp]
 have e6 : p.pm=H3.next:=by rw[hp]
 have e7 : p.nn=H6.next:=by rw[hp]
 have e8 : p.pi=pi:=by rw[hp]
 have us : ∀ i,Us T p i↔i=H3.next\/∃ r,r<T.C.length/\i=pi r:=λi=>by unfold Us;rw[e6,e8]
 have h16 : H1.next<=n0:=h0
 have g46 : Grow H4 H6:=g6
 have g36 : Grow H3 H6:=g4.trans g6
 have G : Geo T (.slice pc nc cc) (.slice pf nf cf) (.slice ps ns cs) H p:=by
  have npi : ∀ i,(∀ r,r<T.C.length->i≠pi r)->i≠H3.next->¬ Us T p i:=by
   intro i h1 h2 hu
   rcases (us i).1 hu with e|⟨r,hr,e⟩
   ·exact h2 e
   ·exact h1 r hr e
  refine⟨h,hf,hv,by rw[e7];have:=g36.1;omega,?_,?_,?_,?_,?_⟩
  ·intro i hi
   rw[e7]
   rcases (us i).1 hi with rfl|⟨r,hr,rfl⟩
   ·omega
   ·obtain⟨q1,q2,_⟩:=hpi r hr
    omega
  ·rw[e1,e2,e3,e4',e5,e7];omega
  ·rw[e1,e2,e3,e4',e5]
   refine⟨npi _ (λr hr=>?_) (by omega),npi _ (λr hr=>?_) (by omega),npi _ (λr hr=>?_) (by omega),npi _ (λr hr=>?_) (by omega),npi _ (λr hr=>?_) (by omega)⟩
   ·obtain⟨q1,q2,_⟩:=hpi r hr;omega
   ·obtain⟨q1,q2,_⟩:=hpi r hr;omega
   ·obtain⟨q1,q2,_⟩:=hpi r hr;omega
   ·obtain⟨q1,q2,_⟩:=hpi r hr;omega
   ·obtain⟨q1,q2,q3,_⟩:=hpi r hr
    intro e
    rw[<- e] at q3;omega
  ·intro r r' hr hr' e
   rw[e8] at e
   have q1:=(hpi r hr).2.2.1
   have q2:=(hpi r' hr').2.2.1
   rw[e] at q1;omega
  ·intro r hr
   rw[e8,e6]
   obtain⟨q1,q2,_⟩:=hpi r hr;omega
 have b3 : Bx H3 H.next (bl T.b (.slice pc nc cc) (.slice pf nf cf) (.slice ps ns cs) (due T.C)) 89:=(b1.grow g2).growS g3 (by omega)
 have lv : vs=rows T p:=by
  apply List.ext_getElem
  ·rw[hvl];simp
  ·intro r h1 h2
   have q:=(hpi r (by omega)).2.2.2.1
   rw[List.getElem?_eq_getElem h1,Option.some.injEq] at q
   rw[q]
   simp[e8]
 have S0 : Stt T (.slice pc nc cc) (.slice pf nf cf) (.slice ps ns cs) H p H6 (λ_=>False) (λ_ _=>False):=by
  refine⟨gH3.trans g36,by rw[e7];exact Nat.le_refl _,by rw[e1];exact b3.grow g36,by rw[e2,e6];exact e4.grow g6,by rw[e3,e1,e2,e4'];exact f6,by rw[e4',e5];exact d3.grow g36,?_,λ_ hh=>hh.elim,?_,?_,λ_ _ hh=>hh.elim⟩
  ·rw[e5,<- lv]
   exact (Bx.growS (⟨o2,o4⟩ : Bx H2 po vs 56) g3 (by omega)).grow g36
  ·exact⟨_,by rw[e6];exact m4.grow g6,λk g v _ hh=>by cases hh⟩
  ·intro r hr
   obtain⟨q1,q2,q3,q4,q5⟩:=hpi r hr
   have hl:=(hv.2.2.1 _ (List.getElem_mem hr)).1
   refine⟨λj=>(hi T.b ((T.C.getD r []).getD j 0),lo T.b ((T.C.getD r []).getD j 0)),?_,λj _=>⟨λ_ hh=>hh.elim,.inl rfl,.inl rfl⟩⟩
   rw[e8]
   refine⟨ecs T.b T.C[r],?_,by rw[ecs_len,hl,Nat.mul_comm],λj hj=>?_⟩
   ·rw[g36.cells (by omega),g3.cells (by omega) (by omega)];exact q5
   ·rw[gdl hr]
    exact ecs_at T.b _ j (by omega)
 have hrun:=f88_ok G (k:=T.C.length) (P:=[]) (r:=0) (by omega) rfl (λi hi=>absurd hi (Nat.not_lt_zero _)) S0
 have fvc:=FV.fn (P:=Try.prog) (g:=88) (a:=[]) (b:=[PT p.pb,PT p.pk,PT p.pf,PT p.ps]) (l:=[Value.agg ⟨I (0 : Nat)::Q4 (due [])⟩]) hrun
 rw[e1,e2,e3,e4'] at fvc
 refine zS ?_
 refine V.draw ?_
 have zf:=f6.2
 refine VD.nz 2 ?_
 simp only[ds]
 refine VD.callV zA (fvc) zA (λw8 X ⟨a1,u,V2,hw8,a2,a3,a4,a5⟩=>?_)
 subst hw8
 have nX:=a1.1
 obtain⟨pu,nu,cu,rfl⟩:=a3.isS
 have cX : Bx X (H.next+1) [I 0,I 0,.slice none 0 0] 94:=((c1.grow g2).growS g3 (by omega) |>.grow g36).growS a1 (λhu=>by
  rcases (us _).1 hu with e|⟨r,hr,e⟩
  ·omega
  ·obtain⟨q1,q2,_⟩:=hpi r hr;omega)
 have ks:=a2.ks
 rw[e4',e5] at ks
 have zf:=aI cX.2<|ks.2
 refine VD.dz ?_ ?_ rfl ?_
 ·exact zM
 ·simp only[dcAll,dcOk,wantD,List.cons_append,List.nil_append,true_and,and_true]
  have d6:=(d3.grow g36).2
  have zf:=aI @d6<|ks.2
  exact zR
 refine V.heap (λY=>GrowS (λi=>i=H.next+1\/i=H.next+2) X Y/\Y.next=X.next/\Bx Y (H.next+1) [I (sr T T.C.length (due [])).w,I (sr T T.C.length (due [])).c,.slice pu nu cu] 94/\Bx Y (H.next+2) [.slice (some ⟨po,0,none⟩) T.C.length T.C.length] 48) ⟨?_,?_,?_,?_⟩ ?_
 ·exact ((GrowS.refl X).set (.inl (.inl rfl)) _).set (.inl (.inr rfl)) _
 ·rfl
 ·exact Bx.set ⟨by simp only[Heap.next_set];exact cX.1,cells_set _ _ _ _ _⟩ (by omega) _
 ·exact⟨by simp only[Heap.next_set];exact ks.1,cells_set _ _ _ _ _⟩
 rintro Y ⟨gY,nY,y1,y2⟩
 refine zS ?_
 refine V.ret (V.rets rfl (Lv.retF (by simp +contextual (disch:=first|omega|simp only[nx];omega) only[D1,cells_alloc_at,cells_alloc_ne,cells_set_at,cells_set_ne,yres,yres1,yresL,qA,qB,qC,D5,hF,hA,↓reduceIte,qD,qE,y1.2,y2.2];rfl) ?_))
 rw[sr_best] at a3
 have hS : ∀ i,(False\/(H6.next<=i/\i<X.next))->¬ (i=H.next+1\/i=H.next+2):=by
  rintro i (hh|hh)
  ·exact hh.elim
  ·omega
 have a3':=a3.growS (S':=λi=>H.next<=i) gY (λi hi hs=>hS i hs hi) (λi hi=>by rcases hi with hi|hi;exact hi.elim;omega)
 refine⟨⟨by have:=gH3.1;have:=g36.1;omega,λi hi=>?_⟩,.slice pu nu cu,_,by rw[sr_best],a3',p,by rw[e5],by rw[e5];omega,?_,?_⟩
 ·rw[gY.2 i (by have:=gH3.1;have:=g36.1;omega) (by omega),a2.gA.2 i hi]
 ·rw[e5]
  have:=a2.ko
  rw[e5] at this
  exact this.growS gY (by omega)
 ·intro r hr
  obtain⟨q1,q2,_⟩:=hpi r hr
  obtain⟨R,r1,r2⟩:=a2.sp r hr
  rw[e8] at r1 ⊢
  refine⟨by omega,by omega,R,r1.loc (gY.2 _ (by omega) (by omega)),?_⟩
  have eV : ∀ x,V2 r x↔inR T r x:=by
   intro x
   constructor
   ·exact a2.sd r x
   ·rintro⟨N,hN,rfl⟩
    have:=a5 N (by rw[due_nil];exact hN) r hr
    rwa [Nat.sub_self,Nat.zero_add] at this
  intro j hj
  obtain⟨s1,s2,s3⟩:=r2 j hj
  refine⟨λx hx=>s1 x ((eV x).2 hx),s2.imp id (λ⟨x,b1,b2⟩=>⟨x,(eV x).1 b1,b2⟩),s3.imp id (λ⟨x,b1,b2⟩=>⟨x,(eV x).1 b1,b2⟩)⟩
end Go.Xe.TRX
-- MOD TR
namespace Go.Xe.TRX
open Go Go.Xe Go.Proofs
open Nat renaming reduceLeDiff ->qA, reduceSub ->qB, reduceAdd ->qC, reduceEqDiff ->qD, reduceLT ->qE
open Int renaming reduceNegSucc ->qF, reduceEq ->qG
open Go.Xe.V renaming seq ->sA, block ->sB, scope ->sC, skip ->sD, close ->sE
open Go.Xe renaming pth ->P
open Go.Xe.Rnd
set_option maxRecDepth 100000
set_option maxHeartbeats 1600000
set_option linter.unusedSimpArgs false
def d56 : FCode:=(.seq (.run (.go (.box 33 (tm 0)) (P 1)::
.go (.alloc 94 [(.int .i64 (.ofNat 0)),(.int .i64 (.ofNat 0)),(.slice none 0 0)]) (P 2)::
.go (.move (.con (.slice none 0 0))) (P 3)::
.go (.move (.con (.int .i64 (.ofNat 0)))) (P 4)::
[])) (.seq (.seq (.run (.go (.loadN 3 (tm 1)) (P 6)::
.go (.call (.con (.func (.func 18) ⟨[]⟩ ⟨[]⟩)) [tm 6]) (P 7)::
.go (.move (tm 7)) (P 5)::
[])) (.seq (.run (.go (.move (tm 5)) (P 8)::
.go (.bin .neq 29 (tm 8) (.con (.int .i64 (.ofNat 0)))) (P 9)::
[])) (.cond (tm 9) (.seq (.run (.go (.build [(.int .i64 (.ofNat 0)),(.int .i64 (.ofNat 0)),(.slice none 0 0)] []) (P 10)::
.go (.move (tm 5)) (P 11)::
.un (.store 3 (tm 2) (tm 10))::
.go (.move (.con (.slice none 0 0))) (P 3)::
.go (.move (tm 11)) (P 4)::
[])) .ret) .skip))) (.seq (.run (.go (.loadN 3 (tm 1)) (P 13)::
.go (.call (.con (.func (.func 50) ⟨[]⟩ ⟨[]⟩)) [tm 13]) (P 14)::
.go (.call (.con (.func (.func 78) ⟨[]⟩ ⟨[]⟩)) [tm 14]) (P 15)::
.go (.move (tm 15)) (P 12)::
.go (.extract (tm 12) 0) (P 16)::
.go (.extract (tm 12) 1) (P 17)::
.un (.store 3 (tm 2) (tm 16))::
.go (.move (tm 17)) (P 3)::
[])) (.seq (.run (.go (.loadN 3 (tm 2)) (P 18)::
.go (.move (tm 3)) (P 19)::
.un (.store 3 (tm 2) (tm 18))::
.go (.move (tm 19)) (P 3)::
.go (.move (.con (.int .i64 (.ofNat 0)))) (P 4)::
[])) .ret))))
theorem de56 : @compF Try.prog (Gl.none Try.prog) Try.f56 1=.mk d56 (mkTT 20) [(P 0)] [.many (P 2) 3,.tmp (P 3),.tmp (P 4)]:=by kernel_rfl
theorem dg56 : Try.prog.funcs[56]?=some Try.f56:=Try.func56
theorem do56 : okF Try.prog Try.f56=true:=by kernel_rfl
def d29 : FCode:=(.seq (.run (.go (.box 33 (tm 0)) (P 1)::
.go (.move (.con (.slice none 0 0))) (P 2)::
.go (.move (.con (.int .i64 (.ofNat 0)))) (P 3)::
.go (.move (.con (.int .i64 (.ofNat 0)))) (P 4)::
[])) (.seq (.run (.go (.loadN 3 (tm 1)) (P 8)::
.go (.call (.con (.func (.func 56) ⟨[]⟩ ⟨[]⟩)) [tm 8]) (P 9)::
.go (.move (tm 9)) (P 7)::
.go (.extract (tm 7) 0) (P 10)::
.go (.extract (tm 7) 1) (P 11)::
.go (.extract (tm 7) 2) (P 12)::
.go (.alloc 94 [(.int .i64 (.ofNat 0)),(.int .i64 (.ofNat 0)),(.slice none 0 0)]) (P 5)::
.un (.store 3 (tm 5) (tm 10))::
.go (.move (tm 11)) (P 6)::
.go (.move (tm 12)) (P 4)::
[])) (.seq (.block 0 (.seq (.run (.go (.move (tm 4)) (P 14)::
.go (.bin .neq 29 (tm 14) (.con (.int .i64 (.ofNat 0)))) (P 15)::
.go (.move (tm 15)) (P 13)::
[])) (.cond (tm 13) (.seq (.run (.go (.move (tm 4)) (P 16)::
.go (.move (.con (.slice none 0 0))) (P 2)::
.go (.move (.con (.int .i64 (.ofNat 0)))) (P 3)::
.go (.move (tm 16)) (P 4)::
[])) .ret) (.seq (.run (.go (.fieldAddr 0 (tm 5)) (P 18)::
.go (.load1 (tm 18)) (P 19)::
.go (.bin .eql 3 (tm 19) (.con (.int .i64 (.ofNat 0)))) (P 20)::
.go (.move (tm 20)) (P 17)::
[])) (.cond (tm 17) (.seq (.run (.go (.move (.con (.slice none 0 0))) (P 2)::
.go (.move (.con (.int .i64 (.ofNat 0)))) (P 3)::
.go (.move (.con (.int .i64 (.ofNat 9)))) (P 4)::
[])) .ret) .skip))))) (.seq (.draw 7 (.go (.fieldAddr 2 (tm 5)) (P 21)::
.go (.load1 (tm 21)) (P 22)::
.go (.fieldAddr 1 (tm 5)) (P 23)::
.go (.load1 (tm 23)) (P 24)::
.go (.move (tm 22)) (P 2)::
.go (.move (tm 24)) (P 3)::
.go (.move (.con (.int .i64 (.ofNat 0)))) (P 4)::
[]) [.ok,.ok,.ok,.ok,.ok,.ok,.ok]) .ret))))
theorem de29 : @compF Try.prog (Gl.none Try.prog) Try.f29 1=.mk d29 (mkTT 25) [(P 0)] [.tmp (P 2),.tmp (P 3),.tmp (P 4)]:=by kernel_rfl
theorem dg29 : Try.prog.funcs[29]?=some Try.f29:=Try.func29
theorem do29 : okF Try.prog Try.f29=true:=by kernel_rfl
def d30 : FCode:=(.seq (.run (.go (.box 33 (tm 0)) (P 1)::
.go (.move (.con (.int .i64 (.ofNat 0)))) (P 2)::
.go (.move (.con (.int .i64 (.ofNat 0)))) (P 3)::
[])) (.seq (.run (.go (.loadN 3 (tm 1)) (P 8)::
.go (.call (.con (.func (.func 56) ⟨[]⟩ ⟨[]⟩)) [tm 8]) (P 9)::
.go (.move (tm 9)) (P 7)::
.go (.extract (tm 7) 0) (P 10)::
.go (.extract (tm 7) 1) (P 11)::
.go (.extract (tm 7) 2) (P 12)::
.go (.alloc 94 [(.int .i64 (.ofNat 0)),(.int .i64 (.ofNat 0)),(.slice none 0 0)]) (P 4)::
.un (.store 3 (tm 4) (tm 10))::
.go (.move (tm 11)) (P 5)::
.go (.move (tm 12)) (P 6)::
[])) (.seq (.run (.go (.fieldAddr 0 (tm 4)) (P 13)::
.go (.load1 (tm 13)) (P 14)::
.go (.move (tm 6)) (P 15)::
.go (.move (tm 14)) (P 2)::
.go (.move (tm 15)) (P 3)::
[])) .ret)))
theorem de30 : @compF Try.prog (Gl.none Try.prog) Try.f30 1=.mk d30 (mkTT 16) [(P 0)] [.tmp (P 2),.tmp (P 3)]:=by kernel_rfl
theorem dg30 : Try.prog.funcs[30]?=some Try.f30:=Try.func30
theorem do30 : okF Try.prog Try.f30=true:=by kernel_rfl
def d31 : FCode:=(.seq (.run (.go (.box 33 (tm 0)) (P 1)::
.go (.move (.con (.slice none 0 0))) (P 2)::
.go (.move (.con (.int .i64 (.ofNat 0)))) (P 3)::
[])) (.seq (.run (.go (.loadN 3 (tm 1)) (P 8)::
.go (.call (.con (.func (.func 56) ⟨[]⟩ ⟨[]⟩)) [tm 8]) (P 9)::
.go (.move (tm 9)) (P 7)::
.go (.extract (tm 7) 0) (P 10)::
.go (.extract (tm 7) 1) (P 11)::
.go (.extract (tm 7) 2) (P 12)::
.go (.alloc 94 [(.int .i64 (.ofNat 0)),(.int .i64 (.ofNat 0)),(.slice none 0 0)]) (P 4)::
.un (.store 3 (tm 4) (tm 10))::
.go (.move (tm 11)) (P 5)::
.go (.move (tm 12)) (P 6)::
[])) (.seq (.block 0 (.seq (.run (.go (.move (tm 6)) (P 14)::
.go (.bin .neq 29 (tm 14) (.con (.int .i64 (.ofNat 0)))) (P 15)::
.go (.move (tm 15)) (P 13)::
[])) (.cond (tm 13) (.seq (.run (.go (.move (tm 6)) (P 16)::
.go (.move (.con (.slice none 0 0))) (P 2)::
.go (.move (tm 16)) (P 3)::
[])) .ret) (.seq (.run (.go (.fieldAddr 0 (tm 4)) (P 18)::
.go (.load1 (tm 18)) (P 19)::
.go (.bin .eql 3 (tm 19) (.con (.int .i64 (.ofNat 0)))) (P 20)::
.go (.move (tm 20)) (P 17)::
[])) (.cond (tm 17) (.seq (.run (.go (.move (.con (.slice none 0 0))) (P 2)::
.go (.move (.con (.int .i64 (.ofNat 9)))) (P 3)::
[])) .ret) .skip))))) (.seq (.run (.go (.move (tm 5)) (P 21)::
.go (.move (tm 21)) (P 2)::
.go (.move (.con (.int .i64 (.ofNat 0)))) (P 3)::
[])) .ret))))
theorem de31 : @compF Try.prog (Gl.none Try.prog) Try.f31 1=.mk d31 (mkTT 22) [(P 0)] [.tmp (P 2),.tmp (P 3)]:=by kernel_rfl
theorem dg31 : Try.prog.funcs[31]?=some Try.f31:=Try.func31
theorem do31 : okF Try.prog Try.f31=true:=by kernel_rfl
theorem best_w (T : Tb) : (best T).w=(rnds T).length:=rsf_w _ _
theorem f56_ok {H : Heap} {c f : Value} {T : Tb} (h : TV H c f T) (hs : sh T) : F Try.prog 56 ⟨[.agg ⟨[I T.b,c,f]⟩]⟩ H (λw X=>Grow H X/\((flt T≠0/\w=.tuple ⟨[.agg ⟨[I 0,I 0,.slice none 0 0]⟩,.slice none 0 0,I (flt T)]⟩)\/(flt T=0/\∃ u sp,w=.tuple ⟨[.agg ⟨[I (best T).w,I (best T).c,u]⟩,sp,I 0]⟩/\Bst (λi=>H.next<=i) X u (best T).b/\SpO T H.next X sp))):=by
 obtain⟨pc,nc,cc,rfl⟩:=h.c.isS
 obtain⟨pf,nf,cf,rfl⟩:=h.f.isS
 refine F.entryL rfl dg56 do56 de56 rfl (by kernel_rfl) ?_
 simp only[sets]
 refine V.re [(0,.agg ⟨[I T.b,.slice pc nc cc,.slice pf nf cf]⟩)] (N:=20) zE zY ?_
 intro t hF hA
 simp only[Kn,and_true] at hA
 refine zS ?_
 refine V.l0 ?_
 refine V.heap (λX=>Grow H X/\Bx X H.next [I T.b,.slice pc nc cc,.slice pf nf cf] 33/\Bx X (H.next+1) [I 0,I 0,.slice none 0 0] 94) ⟨?_,?_,?_⟩ ?_
 ·exact zW
 ·exact zB
 ·exact zB
 rintro H1 ⟨g1,b1,c1⟩
 have n1:=c1.1
 refine zS ?_
 refine V.run ?_
 have zf:=b1.2
 refine VI.sz 1 ?_
 simp only[ds]
 refine VI.callA rfl (f18_ok (h.grow g1) hs) zA (λH2 g2=>?_)
 have b2:=b1.grow g2
 have c2:=c1.grow g2
 have n2:=g2.1
 refine VI.l0 ?_
 refine zS ?_
 refine V.l0 ?_
 refine zS ?_
 by_cases h0 : flt T=0
 ·obtain⟨hf,hv⟩:=flt_0.1 h0
  refine V.condP zP (λhq=>?_) (λhq=>?_)
  ·exact absurd h0 hq
  refine zS ?_
  refine V.run ?_
  have zf:=b2.2
  refine VI.sz 1 ?_
  simp only[ds]
  refine VI.callR zA (f50_ok (h.grow (g1.trans g2)) hf.1 (λr hr=>⟨hf.2.2 r hr,λv hv'=>by have:=(hv.2.2.1 r hr).2 v hv';omega⟩)) zA (λw3 H3 ⟨g3,s,hw3,bv3⟩=>?_)
  subst hw3
  refine VI.callR zA (f78_ok bv3 hf hv) zA (λw4 H4 ⟨g4,u,sp,hw4,nu,so⟩=>?_)
  subst hw4
  obtain⟨pu,nu',cu,rfl⟩:=nu.isS
  have so':=so
  obtain⟨p,hp,hp2,hp3⟩:=so'
  subst hp
  have g34:=g3.trans g4
  have c4:=c2.grow g34
  have n4:=g34.1
  have n3:=g3.1
  have n34:=g4.1
  have zf:=c4.2
  refine VI.lz ?_
  refine V.heap (λX=>GrowS (·=H.next+1) H4 X/\X.next=H4.next/\Bx X (H.next+1) [I (best T).w,I (best T).c,.slice pu nu' cu] 94) ⟨?_,?_,?_⟩ ?_
  ·exact GrowS.setAt _ _ _
  ·rfl
  ·exact⟨by simp only[Heap.next_set];omega,cells_set _ _ _ _ _⟩
  rintro X ⟨gX,nX,cX⟩
  refine zS ?_
  have zf:=cX.2
  refine V.lz ?_
  refine V.heap (λY=>GrowS (·=H.next+1) X Y/\Y.next=X.next/\Bx Y (H.next+1) [I (best T).w,I (best T).c,.slice pu nu' cu] 94) ⟨?_,?_,?_⟩ ?_
  ·exact GrowS.setAt _ _ _
  ·rfl
  ·exact⟨by simp only[Heap.next_set];omega,cells_set _ _ _ _ _⟩
  rintro Y ⟨gY,nY,cY⟩
  have gXY:=gX.trans gY
  refine zS ?_
  refine V.ret (V.rets rfl (Lv.retF (by simp +contextual (disch:=first|omega|simp only[nx];omega) only[D1,cells_alloc_at,cells_alloc_ne,cells_set_at,cells_set_ne,yres,yres1,yresL,qA,qB,qC,D5,hF,hA,↓reduceIte,qD,qE,cY.2];rfl) ?_))
  refine⟨(((g1.trans g2).trans g34).s (U:=(·=H.next+1))).trans gXY |>.grow (.refl H) (λi hi=>by omega),.inr ⟨h0,_,_,rfl,nu.growS gXY (λi (hi : i=H.next+1) (hs : H3.next<=i)=>by omega) (λi (hi : H3.next<=i)=>(by omega : H.next<=i)),so.loc (by omega) (by omega) (λi hi hlt=>gXY.2 i hlt (by omega))⟩⟩
 ·refine V.condP zP (λhq=>?_) (λhq=>?_)
  ·refine zS ?_
   have zf:=c2.2
   refine V.lz ?_
   refine V.heap (λY=>Grow H Y/\Bx Y (H.next+1) [I 0,I 0,.slice none 0 0] 94) ⟨?_,?_⟩ ?_
   ·exact (g1.trans g2).set (by omega) _
   ·exact⟨by simp only[Heap.next_set];omega,cells_set _ _ _ _ _⟩
   rintro Y ⟨gY,cY⟩
   refine zS ?_
   refine V.ret (V.rets rfl (Lv.retF (by simp +contextual (disch:=first|omega|simp only[nx];omega) only[D1,cells_alloc_at,cells_alloc_ne,cells_set_at,cells_set_ne,yres,yres1,yresL,qA,qB,qC,D5,hF,hA,↓reduceIte,qD,qE,cY.2];rfl) ?_))
   exact⟨gY,.inl ⟨h0,rfl⟩⟩
  ·exact absurd (Decidable.not_not.1 hq) h0
def BO (T : Tb) (n0 : Nat) (X : Heap) (w : Value) : Prop:=∃ u n e,w=.tuple ⟨[u,I n,I e]⟩/\((flt T≠0/\u=.slice none 0 0/\n=0/\e=flt T)\/(flt T=0/\rnds T=[]/\u=.slice none 0 0/\n=0/\e=9)\/(flt T=0/\rnds T≠[]/\e=0/\n=(best T).c/\Bst (λi=>n0<=i) X u (best T).b))
theorem f29_ok {H : Heap} {c f : Value} {T : Tb} (h : TV H c f T) (hs : sh T) : F Try.prog 29 ⟨[.agg ⟨[I T.b,c,f]⟩]⟩ H (λw X=>Grow H X/\BO T H.next X w):=by
 obtain⟨pc,nc,cc,rfl⟩:=h.c.isS
 obtain⟨pf,nf,cf,rfl⟩:=h.f.isS
 refine F.entryL rfl dg29 do29 de29 rfl (by kernel_rfl) ?_
 simp only[sets]
 refine V.re [(0,.agg ⟨[I T.b,.slice pc nc cc,.slice pf nf cf]⟩)] (N:=25) zE zY ?_
 intro t hF hA
 simp only[Kn,and_true] at hA
 refine zS ?_
 refine V.l0 ?_
 refine V.heap (λX=>Grow H X/\Bx X H.next [I T.b,.slice pc nc cc,.slice pf nf cf] 33) ⟨?_,?_⟩ ?_
 ·exact zW
 ·exact zB
 rintro H1 ⟨g1,b1⟩
 have n1:=b1.1
 refine zS ?_
 refine V.run ?_
 have zf:=b1.2
 refine VI.sz 1 ?_
 simp only[ds]
 refine VI.callR zA (f56_ok (h.grow g1) hs) zA (λw H2 ⟨g2,hw⟩=>?_)
 have g12:=g1.trans g2
 have n2:=g2.1
 rcases hw with⟨h0,rfl⟩|⟨h0,u,sp,rfl,hu,hsp⟩
 ·refine VI.l0 ?_
  refine zS ?_
  refine V.l0 ?_
  refine zS ?_
  refine V.condP zP (λhq=>?_) (λhq=>?_)
  ·refine zS ?_
   refine V.l0 ?_
   refine zS ?_
   refine V.ret (V.rets rfl (Lv.retF (by simp +contextual (disch:=first|omega|simp only[nx];omega) only[D1,cells_alloc_at,cells_alloc_ne,cells_set_at,cells_set_ne,yres,yres1,yresL,qA,qB,qC,D5,hF,hA,↓reduceIte,qD,qE];rfl) ?_))
   exact⟨(g12.alloc _).set (by omega) _,_,_,_,rfl,.inl ⟨h0,rfl,rfl,rfl⟩⟩
  ·exact absurd (Decidable.not_not.1 hq) h0
 ·obtain⟨pu,nu,cu,rfl⟩:=hu.isS
  obtain⟨p,hp,hp2,hp3⟩:=hsp
  subst hp
  refine VI.l0 ?_
  refine V.heap (λX=>Grow H2 X/\Bx X H2.next [I (best T).w,I (best T).c,.slice pu nu cu] 94) ⟨?_,?_⟩ ?_
  ·exact ((Grow.refl H2).alloc _).set (Nat.le_refl _) _
  ·exact⟨by simp only[Heap.next_set,Heap.next_alloc];omega,cells_set _ _ _ _ _⟩
  rintro H3 ⟨g3,c3⟩
  refine zS ?_
  refine V.l0 ?_
  refine zS ?_
  refine V.condF zA ?_
  refine zS ?_
  have zf:=c3.2
  refine V.lz ?_
  refine zS ?_
  refine V.condP zP (λhq=>?_) (λhq=>?_)
  ·refine zS ?_
   refine V.l0 ?_
   refine zS ?_
   refine V.ret (V.rets rfl (Lv.retF (by simp +contextual (disch:=first|omega|simp only[nx];omega) only[D1,cells_alloc_at,cells_alloc_ne,cells_set_at,cells_set_ne,yres,yres1,yresL,qA,qB,qC,D5,hF,hA,↓reduceIte,qD,qE];rfl) ?_))
   refine⟨g12.trans g3,_,_,_,rfl,.inr (.inl ⟨h0,?_,rfl,rfl,rfl⟩)⟩
   have:=best_w T
   exact List.length_eq_zero_iff.1 (by omega)
  ·refine zS ?_
   have zf:=c3.2
   refine V.dz ?_ ?_ rfl ?_
   ·exact zM
   ·simp only[dcAll,dcOk,wantD,List.cons_append,List.nil_append,true_and,and_true]
   refine zS ?_
   refine V.ret (V.rets rfl (Lv.retF (by simp +contextual (disch:=first|omega|simp only[nx];omega) only[D1,cells_alloc_at,cells_alloc_ne,cells_set_at,cells_set_ne,yres,yres1,yresL,qA,qB,qC,D5,hF,hA,↓reduceIte,qD,qE];rfl) ?_))
   refine⟨g12.trans g3,_,_,_,rfl,.inr (.inr ⟨h0,?_,rfl,rfl,hu.growS (g3.s (U:=λ_=>False)) (λ_ hh=>hh.elim) (λi (hi : H1.next<=i)=>(by omega : H.next<=i))⟩)⟩
   intro e
   have:=best_w T
   rw[e] at this
   simp only[List.length_nil] at this
   omega
theorem f30_ok {H : Heap} {c f : Value} {T : Tb} (h : TV H c f T) (hs : sh T) : Gives Try.prog 30 [.agg ⟨[I T.b,c,f]⟩] H (.tuple ⟨[I (if flt T=0 then (rnds T).length else 0 : Nat),I (flt T)]⟩):=by
 obtain⟨pc,nc,cc,rfl⟩:=h.c.isS
 obtain⟨pf,nf,cf,rfl⟩:=h.f.isS
 refine F.entryL rfl dg30 do30 de30 rfl (by kernel_rfl) ?_
 simp only[sets]
 refine V.re [(0,.agg ⟨[I T.b,.slice pc nc cc,.slice pf nf cf]⟩)] (N:=16) zE zY ?_
 intro t hF hA
 simp only[Kn,and_true] at hA
 refine zS ?_
 refine V.l0 ?_
 refine V.heap (λX=>Grow H X/\Bx X H.next [I T.b,.slice pc nc cc,.slice pf nf cf] 33) ⟨?_,?_⟩ ?_
 ·exact zW
 ·exact zB
 rintro H1 ⟨g1,b1⟩
 refine zS ?_
 refine V.run ?_
 have zf:=b1.2
 refine VI.sz 1 ?_
 simp only[ds]
 refine VI.callR zA (f56_ok (h.grow g1) hs) zA (λw H2 ⟨g2,hw⟩=>?_)
 have g12:=g1.trans g2
 rcases hw with⟨h0,rfl⟩|⟨h0,u,sp,rfl,hu,hsp⟩
 ·refine VI.l0 ?_
  refine zS ?_
  refine V.l0 ?_
  refine zS ?_
  refine V.ret (V.rets rfl (Lv.retG (by simp +contextual (disch:=first|omega|simp only[nx];omega) only[D1,cells_alloc_at,cells_alloc_ne,cells_set_at,cells_set_ne,yres,yres1,yresL,qA,qB,qC,D5,hF,hA,↓reduceIte,qD,qE];rfl) ?_ ?_))
  ·exact (g12.alloc _).set (by have:=g12.1;omega) _
  ·rw[if_neg h0];rfl
 ·obtain⟨pu,nu,cu,rfl⟩:=hu.isS
  obtain⟨p,hp,hp2,hp3⟩:=hsp
  subst hp
  refine VI.l0 ?_
  refine zS ?_
  refine V.l0 ?_
  refine zS ?_
  refine V.ret (V.rets rfl (Lv.retG (by simp +contextual (disch:=first|omega|simp only[nx];omega) only[D1,cells_alloc_at,cells_alloc_ne,cells_set_at,cells_set_ne,yres,yres1,yresL,qA,qB,qC,D5,hF,hA,↓reduceIte,qD,qE];rfl) ?_ ?_))
  ·exact (g12.alloc _).set (by have:=g12.1;omega) _
  ·rw[if_pos h0,h0,best_w]
def SO (T : Tb) (n0 : Nat) (X : Heap) (w : Value) : Prop:=∃ u e,w=.tuple ⟨[u,I e]⟩/\((flt T≠0/\u=.slice none 0 0/\e=flt T)\/(flt T=0/\rnds T=[]/\u=.slice none 0 0/\e=9)\/(flt T=0/\rnds T≠[]/\e=0/\SpO T n0 X u))
theorem f31_ok {H : Heap} {c f : Value} {T : Tb} (h : TV H c f T) (hs : sh T) : F Try.prog 31 ⟨[.agg ⟨[I T.b,c,f]⟩]⟩ H (λw X=>Grow H X/\SO T H.next X w):=by
 obtain⟨pc,nc,cc,rfl⟩:=h.c.isS
 obtain⟨pf,nf,cf,rfl⟩:=h.f.isS
 refine F.entryL rfl dg31 do31 de31 rfl (by kernel_rfl) ?_
 simp only[sets]
 refine V.re [(0,.agg ⟨[I T.b,.slice pc nc cc,.slice pf nf cf]⟩)] (N:=22) zE zY ?_
 intro t hF hA
 simp only[Kn,and_true] at hA
 refine zS ?_
 refine V.l0 ?_
 refine V.heap (λX=>Grow H X/\Bx X H.next [I T.b,.slice pc nc cc,.slice pf nf cf] 33) ⟨?_,?_⟩ ?_
 ·exact zW
 ·exact zB
 rintro H1 ⟨g1,b1⟩
 have n1:=b1.1
 refine zS ?_
 refine V.run ?_
 have zf:=b1.2
 refine VI.sz 1 ?_
 simp only[ds]
 refine VI.callR zA (f56_ok (h.grow g1) hs) zA (λw H2 ⟨g2,hw⟩=>?_)
 have g12:=g1.trans g2
 have n2:=g2.1
 rcases hw with⟨h0,rfl⟩|⟨h0,u,sp,rfl,hu,hsp⟩
 ·refine VI.l0 ?_
  refine zS ?_
  refine V.l0 ?_
  refine zS ?_
  refine V.condP zP (λhq=>?_) (λhq=>?_)
  ·refine zS ?_
   refine V.l0 ?_
   refine zS ?_
   refine V.ret (V.rets rfl (Lv.retF (by simp +contextual (disch:=first|omega|simp only[nx];omega) only[D1,cells_alloc_at,cells_alloc_ne,cells_set_at,cells_set_ne,yres,yres1,yresL,qA,qB,qC,D5,hF,hA,↓reduceIte,qD,qE];rfl) ?_))
   exact⟨(g12.alloc _).set (by omega) _,_,_,rfl,.inl ⟨h0,rfl,rfl⟩⟩
  ·exact absurd (Decidable.not_not.1 hq) h0
 ·obtain⟨pu,nu,cu,rfl⟩:=hu.isS
  have hsp':=hsp
  obtain⟨p,hp,hp2,hp3⟩:=hsp'
  subst hp
  refine VI.l0 ?_
  refine V.heap (λX=>Grow H2 X/\Bx X H2.next [I (best T).w,I (best T).c,.slice pu nu cu] 94) ⟨?_,?_⟩ ?_
  ·exact ((Grow.refl H2).alloc _).set (Nat.le_refl _) _
  ·exact⟨by simp only[Heap.next_set,Heap.next_alloc];omega,cells_set _ _ _ _ _⟩
  rintro H3 ⟨g3,c3⟩
  refine zS ?_
  refine V.l0 ?_
  refine zS ?_
  refine V.condF zA ?_
  refine zS ?_
  have zf:=c3.2
  refine V.lz ?_
  refine zS ?_
  refine V.condP zP (λhq=>?_) (λhq=>?_)
  ·refine zS ?_
   refine V.l0 ?_
   refine zS ?_
   refine V.ret (V.rets rfl (Lv.retF (by simp +contextual (disch:=first|omega|simp only[nx];omega) only[D1,cells_alloc_at,cells_alloc_ne,cells_set_at,cells_set_ne,yres,yres1,yresL,qA,qB,qC,D5,hF,hA,↓reduceIte,qD,qE];rfl) ?_))
   refine⟨g12.trans g3,_,_,rfl,.inr (.inl ⟨h0,?_,rfl,rfl⟩)⟩
   have:=best_w T
   exact List.length_eq_zero_iff.1 (by omega)
  ·refine zS ?_
   refine V.l0 ?_
   refine zS ?_
   refine V.ret (V.rets rfl (Lv.retF (by simp +contextual (disch:=first|omega|simp only[nx];omega) only[D1,cells_alloc_at,cells_alloc_ne,cells_set_at,cells_set_ne,yres,yres1,yresL,qA,qB,qC,D5,hF,hA,↓reduceIte,qD,qE];rfl) ?_))
   refine⟨g12.trans g3,_,_,rfl,.inr (.inr ⟨h0,?_,rfl,(hsp.grow g3).loc (by omega) (Nat.le_refl _) (λ_ _ _=>rfl)⟩)⟩
   intro e
   have:=best_w T
   rw[e] at this
   simp only[List.length_nil] at this
   omega
end Go.Xe.TRX
-- MOD TR
namespace Go.Xe.TRX
open Go Go.Xe Go.Proofs
open Nat renaming reduceLeDiff ->qA, reduceSub ->qB, reduceAdd ->qC, reduceEqDiff ->qD, reduceLT ->qE
open Int renaming reduceNegSucc ->qF, reduceEq ->qG
open Go.Xe.V renaming seq ->sA, block ->sB, scope ->sC, skip ->sD, close ->sE
open Go.Xe renaming pth ->P
open Go.Xe.Rnd
set_option maxRecDepth 100000
set_option maxHeartbeats 1600000
set_option linter.unusedSimpArgs false
theorem rnds_can {T : Tb} (hv : valid T) {N : List (List Int)} (h : N∈rnds T) : can T N/\isr T N:=by
 obtain⟨⟨h1,h2⟩,h3⟩:=rnds_mem.1 h
 refine⟨⟨h1,λrow hr=>⟨h2 row hr,λv hv'=>?_⟩⟩,h3⟩
 obtain⟨i,hi,rfl⟩:=List.mem_iff_getElem.1 hr
 obtain⟨j,hj,rfl⟩:=List.mem_iff_getElem.1 hv'
 have:=(h3.1 i hi).1 j (by rw[gdl hi];exact hj)
 rw[gdl hi,List.getD_eq_getElem?_getD,List.getElem?_eq_getElem hj] at this
 exact rd_bd hv.1 (cell_bd hv i j) this
theorem best_mem {T : Tb} (h : rnds T≠[]) : (best T).b∈rnds T:=rsf_mem h
end Go.Xe.TRX
end
