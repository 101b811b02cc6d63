/- What the functions of the layer round come to: the search over the rows. Conditions: none. -/
import Derived.Test.YtimnlnfpblomnaaTTF
namespace Go.Xe.TRX
open Go Go.Xe Go.Proofs
open Nat renaming reduceLeDiff ->qA, reduceSub ->qB, reduceAdd ->qC, reduceEqDiff ->qD, reduceLT ->qE
open Int renaming reduceNegSucc ->qF, reduceEq ->qG
open Go.Xe.V renaming seq ->sA, block ->sB, scope ->sC, skip ->sD, close ->sE
open Go.Xe renaming pth ->P
open Go.Xe.Rnd
set_option maxRecDepth 100000
set_option maxHeartbeats 3200000
set_option linter.unusedSimpArgs false
theorem f88_s {T : Tb} {c f s : Value} {A : Heap} {p : Pl} (G : Geo T c f s A p) {k : Nat}
  (ih : ∀ {P : List (List Int)} {X : Heap} {S : Nat->Prop} {Vg : Nat->List Int->Prop} {r : Nat},r+k=T.C.length->P.length=r->(∀ i,i<P.length->P.getD i []∈cho T i (cols T) [])->Stt T c f s A p X S Vg->F Try.prog 88 ⟨[.agg ⟨I r::Q4 (due P)⟩,PT p.pb,PT p.pk,PT p.pf,PT p.ps]⟩ X (Out T c f s A p k P X S Vg))
  {r : Nat} {P : List (List Int)} {X : Heap} {S : Nat->Prop} {Vg : Nat->List Int->Prop} (hr : r+(k+1)=T.C.length) (hl : P.length=r) (hP : ∀ i,i<P.length->P.getD i []∈cho T i (cols T) []) (h : Stt T c f s A p X S Vg) :
  F Try.prog 88 ⟨[.agg ⟨I r::Q4 (due P)⟩,PT p.pb,PT p.pk,PT p.pf,PT p.ps]⟩ X (Out T c f s A p (k+1) P X S Vg):=by
 have hcl:=G.hA.t.c.len
 have hd:=due_P G.hf G.hv (by omega) hP
 have nX:=h.nX
 have h5:=G.hf.1
 have hbs:=G.bs
 have hr' : r<T.C.length:=by omega
 have er : T.C.length-(k+1)=r:=by omega
 have hok : okS (keyS r (due P)):=okS_P (by omega) hd
 refine F.entryL rfl dg88 do88 de88 rfl (by kernel_rfl) ?_
 simp only[sets]
 refine V.re [(0,.agg ⟨I r::Q4 (due P)⟩),(1,PT p.pb),(2,PT p.pk),(3,PT p.pf),(4,PT p.ps)] (N:=72) zE zY ?_
 intro t hF hA
 simp only[Kn,and_true] at hA
 refine zS ?_
 refine V.l0 ?_
 refine V.heap (λY=>Grow X Y/\Bx Y X.next (I r::Q4 (due P)) 127/\Bx Y (X.next+1) [I 0,I 0,.slice none 0 0] 94) ⟨?_,?_,?_⟩ ?_
 ·exact zW
 ·exact zB
 ·exact zB
 rintro X1 ⟨g1,b1,c1⟩
 have st1 : Stt T c f s A p X1 S Vg:=h.keep G (g1.s (U:=λ_=>False)) (λ_ hh=>hh.elim) (λ_=>id) (λi hi=>⟨Nat.lt_of_lt_of_le (h.hS i hi).1 g1.1,(h.hS i hi).2⟩)
 have kb1:=st1.kb.2
 have kk1:=st1.kk.2
 have n1:=c1.1
 refine zS ?_
 have zf:=aI b1.2<|aI @kb1<|@hcl
 refine V.lz ?_
 refine zS ?_
 refine V.condP zP (λh1=>?_) (λh1=>?_)
 ·exfalso;omega
 obtain⟨f0,hf0,hkn⟩:=st1.kn
 have hlook:=MpF.look2 kS_keys hf0 hok (.agg ⟨[I 0,I 0,.slice none 0 0]⟩)
 rw[kS_key] at hlook
 cases hfk : f0 (keyS r (due P)) with
 | some v=>
  rw[hfk] at hlook
  simp only at hlook
  obtain⟨⟨u,rfl,hu⟩,hN⟩:=hkn (k+1) (due P) v (by omega) (by rw[er];exact hfk)
  obtain⟨pu,nu,cu,rfl⟩:=hu.isS
  refine zS ?_
  have zf:=aI @kk1<|aI b1.2<|@hlook
  refine V.lz ?_
  refine zS ?_
  refine V.l0 ?_
  refine zS ?_
  refine V.condT zA ?_
  refine V.heap (λY=>Grow X Y/\Bx Y (X.next+1) [I 0,I 0,.slice none 0 0] 94/\Bx Y X1.next [I (sr T (k+1) (due P)).w,I (sr T (k+1) (due P)).c,.slice pu nu cu] 94) ⟨?_,?_,?_⟩ ?_
  ·exact (g1.alloc _).set (by omega) _
  ·exact (c1.alloc _).set (by omega) _
  ·exact⟨by simp only[Heap.next_set,Heap.next_alloc];omega,cells_set _ _ _ _ _⟩
  rintro X2 ⟨g2,c2,d2⟩
  refine zS ?_
  have zf:=aI c2.2<|d2.2
  refine V.lz ?_
  refine V.heap (λY=>Grow X Y/\Bx Y (X.next+1) [I (sr T (k+1) (due P)).w,I (sr T (k+1) (due P)).c,.slice pu nu cu] 94/\X2.next<=Y.next) ⟨?_,?_,?_⟩ ?_
  ·exact g2.set (by omega) _
  ·exact⟨by simp only[Heap.next_set];exact c2.1,cells_set _ _ _ _ _⟩
  ·simp only[Heap.next_set];exact Nat.le_refl _
  rintro Y ⟨gY,cY,nY⟩
  refine zS ?_
  refine V.ret (V.rets rfl (Lv.retF (by simp +contextual (disch:=first|omega|simp only[nx];omega) only[D1,cells_alloc_at,cells_alloc_ne,cells_set_at,cells_set_ne,yres,yres1,yresL,qA,qB,qC,D5,hF,hA,↓reduceIte,qD,qE,cY.2];rfl) ?_))
  have hY : ∀ i,(S i\/(X.next<=i/\i<Y.next))->i<Y.next/\¬ Us T p i:=by
   rintro i (hi|⟨q1,q2⟩)
   ·exact⟨Nat.lt_of_lt_of_le (h.hS i hi).1 gY.1,(h.hS i hi).2⟩
   ·exact⟨q2,λhu=>by have:=(G.us i hu).2;omega⟩
  refine⟨gY.s,.slice pu nu cu,Vg,rfl,h.keep G (gY.s (U:=λ_=>False)) (λ_ hh=>hh.elim) (λ_=>.inl) hY,?_,λ_ _=>id,hN⟩
  refine hu.loc (by have:=d2.1;omega) (λ_=>.inl) (λi hi hlt=>by rw[gY.2 i (h.hS i hi).1,g1.2 i (h.hS i hi).1])
 | none=>
  rw[hfk] at hlook
  simp only at hlook
  obtain⟨L,hL⟩ : ∃ L,L=cho T r (cols T) []:=⟨_,rfl⟩
  refine zS ?_
  have zf:=aI @kk1<|aI b1.2<|@hlook
  refine V.lz ?_
  refine zS ?_
  refine V.l0 ?_
  refine zS ?_
  refine V.condF zA ?_
  refine V.heap (λY=>Grow X Y/\Bx Y X.next (I r::Q4 (due P)) 127/\Bx Y (X.next+1) [I 0,I 0,.slice none 0 0] 94) ⟨?_,?_,?_⟩ ?_
  ·exact (g1.alloc _).set (by omega) _
  ·exact (b1.alloc _).set (by omega) _
  ·exact (c1.alloc _).set (by omega) _
  rintro X2 ⟨g2,b2,c2⟩
  have n2:=c2.1
  refine zS ?_
  refine V.l0 ?_
  refine V.heap (λY=>Grow X Y/\Bx Y X.next (I r::Q4 (due P)) 127/\Bx Y (X.next+1) [I 0,I 0,.slice none 0 0] 94/\Bx Y X2.next [I 0,I 0,.slice none 0 0] 94) ⟨?_,?_,?_,?_⟩ ?_
  ·exact zW
  ·exact zB
  ·exact zB
  ·exact zB
  rintro X3 ⟨g3,b3,c3,d3⟩
  have n3:=d3.1
  have st3 : Stt T c f s A p X3 S Vg:=h.keep G (g3.s (U:=λ_=>False)) (λ_ hh=>hh.elim) (λ_=>id) (λi hi=>⟨Nat.lt_of_lt_of_le (h.hS i hi).1 g3.1,(h.hS i hi).2⟩)
  have kb3:=st3.kb.2
  refine zS ?_
  refine V.run ?_
  have zf:=aI @kb3<|b3.2
  refine VI.sz 3 ?_
  simp only[ds]
  refine VI.callR zA (f90_ok (r:=r) (d:=due T.C) (G.hA.grow st3.gA)) zA (λw X4 ⟨g4,pb',pr',hw,p1,p2,bb4,br4⟩=>?_)
  subst hw
  refine VI.l0 ?_
  have st4 : Stt T c f s A p X4 S Vg:=st3.keep G (g4.s (U:=λ_=>False)) (λ_ hh=>hh.elim) (λ_=>id) (λi hi=>⟨Nat.lt_of_lt_of_le (st3.hS i hi).1 g4.1,(st3.hS i hi).2⟩)
  have b4:=b3.grow g4
  have c4:=c3.grow g4
  have d4:=d3.grow g4
  have n4:=g4.1
  have m1:=bb4.1
  have m2:=br4.1
  refine zS ?_
  refine V.re [(0,.agg ⟨I r::Q4 (due P)⟩),(1,PT p.pb),(2,PT p.pk),(3,PT p.pf),(4,PT p.ps),(5,PT X.next),(6,PT (X.next+1)),(9,PT X2.next),(33,.func (.func 94) ⟨[]⟩ ⟨[PT pb',PT pr']⟩)] (N:=72) zF zK ?_
  clear hF hA
  intro t hF hA
  simp only[Kn,and_true] at hA
  have hrows:=λ{x : List Int} (hx : x∈L)=>row_bd G.hv (by rw[hL] at hx;exact hx)
  have eL : cho T (T.C.length-(k+1)) (cols T) []=L:=by rw[er,hL]
  obtain⟨Sx,hSx⟩ : ∃ Sx : (Nat->Prop)->Heap->Nat->Prop,Sx=λW Y i=>S i\/(X4.next+1<i/\i<Y.next/\¬ W i):=⟨_,rfl⟩
  obtain⟨IV,hIV⟩ : ∃ IV : Nat->(Nat->Prop)->Heap->Prop,IV=λj W Y=>∃ (Vx : Nat->List Int->Prop) (u : Value),Stt T c f s A p Y (Sx W Y) Vx/\Bx Y X.next (I r::Q4 (due P)) 127/\Bx Y (X.next+1) [I 0,I 0,.slice none 0 0] 94/\Bx Y X2.next [I (accr T k (due P) j).w,I (accr T k (due P) j).c,u] 94/\Bst (Sx W Y) Y u (accr T k (due P) j).b/\(∀ r x,Vg r x->Vx r x)/\∀ N∈acc T k (due P) j,∀ i,i<k+1->Vx (r+i) (N.getD i []):=⟨_,rfl⟩
  have hSlt : ∀ i,S i->i<X.next:=λi hi=>(h.hS i hi).1
  have hkeep : ∀ (j : Nat) (W W' B : Nat->Prop) (Y Y' : Heap),IV j W Y->GrowS B Y Y'->(∀ i,B i->i=X4.next+1\/(W i/\X4.next+1<i))->(∀ i,W' i->W i\/Y.next<=i)->IV j W' Y':=by
   intro j W W' B Y Y' hI g hB hW
   rw[hIV] at hI ⊢
   obtain⟨Vx,u,q1,q2,q3,q4,q5,q6,q7⟩:=hI
   have hBS : ∀ i,B i->¬ Sx W Y i:=by
    intro i hi hs
    rw[hSx] at hs
    rcases hs with hs|⟨a1,a2,a3⟩
    ·have:=hSlt i hs
     rcases hB i hi with e|⟨_,e⟩<;>omega
    ·rcases hB i hi with e|⟨e,_⟩
     ·omega
     ·exact a3 e
   have hBn : ∀ i,B i->X4.next<i:=λi hi=>by rcases hB i hi with e|⟨_,e⟩<;>omega
   have hSS : ∀ i,Sx W Y i->Sx W' Y' i:=by
    intro i hs
    rw[hSx] at hs ⊢
    rcases hs with hs|⟨a1,a2,a3⟩
    ·exact .inl hs
    ·refine .inr ⟨a1,Nat.lt_of_lt_of_le a2 g.1,λhw=>?_⟩
     rcases hW i hw with e|e
     ·exact a3 e
     ·omega
   have hS' : ∀ i,Sx W' Y' i->i<Y'.next/\¬ Us T p i:=by
    intro i hs
    rw[hSx] at hs
    rcases hs with hs|⟨a1,a2,a3⟩
    ·have:=hSlt i hs
     have:=q2.1
     have:=g.1
     exact⟨by omega,(h.hS i hs).2⟩
    ·exact⟨a2,λhu=>by have:=(G.us i hu).2;omega⟩
   refine⟨Vx,u,q1.keep G g (λi hi=>⟨by have:=hBn i hi;omega,hBS i hi⟩) hSS hS',q2.growS g (λhh=>by have:=hBn _ hh;omega),q3.growS g (λhh=>by have:=hBn _ hh;omega),q4.growS g (λhh=>by have:=hBn _ hh;omega),q5.growS g hBS hSS,q6,q7⟩
  have eacc0:=accr_0 T k (due P)
  refine V.rangeW (f94_iter (A:=A) (H0:=X4) G.hA st4.gA bb4 br4 hr' G.hf G.hv) (λi=>Us T p i\/i=X2.next) IV zA rfl (Nat.le_succ _) ?_ ?_ ?_ ?_ ?_ ?_ ?_ ?_
  ·rintro i (hi|rfl)
   ·have:=(G.us i hi).2
    simp only[Heap.next_alloc];omega
   ·simp only[Heap.next_alloc];omega
  ·have gget : ∀ i,i<X4.next->(X4.alloc (.deferred true)).get i=X4.get i:=λi hi=>by rw[Heap.get_alloc,if_neg (by omega)]
   have han:=G.an
   rintro i (hi|rfl|rfl)
   ·refine⟨by omega,?_,gget i (by omega)⟩
    rintro (hu|hu)
    ·have:=(G.us i hu).1;omega
    ·omega
   ·refine⟨m1,?_,gget _ m1⟩
    rintro (hu|hu)
    ·have:=(G.us _ hu).2;omega
    ·omega
   ·refine⟨m2,?_,gget _ m2⟩
    rintro (hu|hu)
    ·have:=(G.us _ hu).2;omega
    ·omega
  ·rintro j W Y l ⟨v,G0,rfl,_⟩
   rfl
  ·intro j W Y Y' r1 r2 hI _ _ g
   exact hkeep j W W _ Y Y' hI g (λi hi=>.inl (by simpa only[Heap.next_alloc] using hi)) (λ_=>.inl)
  ·intro j W W' Y Y' hI hW g _ w2
   exact hkeep j W W' W Y Y' hI g (λi hi=>.inr ⟨hi,by simpa only[Heap.next_alloc] using hW i hi⟩) w2
  ·intro r0
   have g : Grow X4 ((X4.alloc (.deferred true)).alloc (.loop r0)):=((Grow.refl X4).alloc _).alloc _
   rw[hIV]
   refine⟨Vg,.slice none 0 0,?_,b4.grow g,c4.grow g,?_,?_,λ_ _=>id,?_⟩
   ·refine st4.keep G (g.s (U:=λ_=>False)) (λ_ hh=>hh.elim) (λi hi=>by rw[hSx];exact .inl hi) (λi hi=>?_)
    rw[hSx] at hi
    rcases hi with hi|⟨q1,q2,_⟩
    ·exact⟨Nat.lt_of_lt_of_le (st4.hS i hi).1 g.1,(st4.hS i hi).2⟩
    ·exact⟨q2,λhu=>by have:=(G.us i hu).2;omega⟩
   ·rw[eacc0];exact d4.grow g
   ·rw[eacc0];exact .nil _ _
   ·rw[acc_0];intro N hN;simp at hN
  ·intro j W l r0 X5 hj hI hW hok' hg hlt hlp hrd
   obtain⟨v,G0,rfl,v1,v2,Yo,rfl,v3⟩:=hok'
   simp only[Heap.next_alloc] at hg hlt hlp hW v1 hIV
   rw[<- hL] at hj v3
   simp only[sets]
   refine zS ?_
   refine V.l0 ?_
   refine V.nil ⟨rfl,hlp,.refl _,?_⟩
   intro Y _ hl2 gY
   simp only[Heap.next_alloc] at gY hl2
   have hI2 : IV j W Y:=hkeep j W W _ X5 Y hI gY (λi hi=>.inl hi) (λ_=>.inl)
   obtain⟨x,hx⟩ : ∃ x,x=L.getD j []:=⟨_,rfl⟩
   have hxm : x∈L:=by rw[hx,gdl hj];exact List.getElem_mem hj
   rw[<- hx] at v3
   obtain⟨hx1,hx2⟩:=hrows hxm
   have hc4:=cols_le G.hf
   have vb : ∀ i,blkN v=some i->Yo.next<=i:=v3.from
   have vlt : ∀ i,blkN v=some i->i<X5.next:=λi hi=>v3.sl.ltN hi
   have riY : RI Y v x:=v3.sl.loc gY.1 (λi hi=>gY.2 i (vlt i hi) (by have:=vb i hi;omega))
   obtain⟨pv,nv,cv,rfl⟩:=v3.sl.isS
   have nY:=gY.1
   rw[hIV] at hI2
   obtain⟨Vx,u,q1,q2,q3,q4,q5,q6,q7⟩:=hI2
   obtain⟨pu,nu,cu,rfl⟩:=q5.isS
   have hPx : ∀ i,i<(P++[x]).length->(P++[x]).getD i []∈cho T i (cols T) []:=by
    intro i hi
    rw[List.length_append,List.length_singleton] at hi
    by_cases hp : i<P.length
    ·have e : (P++[x]).getD i []=P.getD i []:=by rw[List.getD_eq_getElem?_getD,List.getElem?_append_left hp,<- List.getD_eq_getElem?_getD]
     rw[e];exact hP i hp
    ·have e : (P++[x]).getD i []=x:=by
      rw[List.getD_eq_getElem?_getD,List.getElem?_append_right (by omega),show i-P.length=0 by omega];rfl
     rw[e,show i=r by omega,<- hL];exact hxm
   have kfY:=q1.kf.2
   have hpfn:=hbs.2.2.1
   refine zS ?_
   refine V.draw ?_
   have zf:=aI @kfY<|q2.2
   refine VD.nz 7 ?_
   simp only[ds]
   refine VD.callA zA (f74_ok (d:=due P) riY (by omega) (λv hv=>by have:=hx2 v hv;omega) (λi=>by have:=hd i;omega)) zA (λY1 g5=>?_)
   refine VD.n0 1 ?_
   simp only[ds]
   have hSY : ∀ i,Sx W Y i->i<Y1.next/\¬ Us T p i:=λi hi=>⟨Nat.lt_of_lt_of_le (q1.hS i hi).1 g5.1,(q1.hS i hi).2⟩
   have q1' : Stt T c f s A p Y1 (Sx W Y) Vx:=q1.keep G (g5.s (U:=λ_=>False)) (λ_ hh=>hh.elim) (λ_=>id) hSY
   have ihc:=ih (P:=P++[x]) (r:=r+1) (by omega) (by rw[List.length_append,List.length_singleton];omega) hPx q1'
   rw[due_snoc,show ((r+1 : Nat) : Int)=(r : Int)+1 from rfl] at ihc
   have fvc:=FV.fn (P:=Try.prog) (g:=88) (a:=[]) (b:=[PT p.pb,PT p.pk,PT p.pf,PT p.ps]) (l:=[Value.agg ⟨I ((r : Int)+1)::Q4 (pl (due P) x)⟩]) ihc
   refine VD.callV zA (fvc) zA (λw6 Y2 ⟨a1,u2,V2,hw6,a2,a3,a4,a5⟩=>?_)
   subst hw6
   obtain⟨pu2,nu2,cu2,rfl⟩:=a3.isS
   have gYY : GrowS (Us T p) Y Y2:=g5.s.trans a1
   have kf2:=a2.kf.2
   have kf1:=q1'.kf.2
   have q2Y1:=q2.grow g5
   have q2Y2:=q2Y1.growS a1 (λhu=>by have:=(G.us _ hu).2;omega)
   have mY1:=g5.1
   have mY2:=a1.1
   refine VD.d0 ?_ ?_ rfl ?_
   ·exact zM
   ·simp only[dcAll,dcOk,wantD,List.cons_append,List.nil_append,true_and,and_true]
    have zf:=aI @kfY<|aI @kf1<|aI @kf2<|aI q2.2<|aI q2Y1.2<|q2Y2.2
    exact⟨zR,zR,λ_=>⟨_,_,_,rfl,rfl,rfl,(by simp only[D5,hF,hA,↓reduceIte,qD,qE];simp[inBound]),λ_=>⟨_,_,_,cells_alloc _ _ _ _,(by first|exact An_inb|rfl)⟩⟩⟩
   have edue:=due_snoc P x
   rw[edue] at a3 a5
   obtain⟨rs,hrs⟩ : ∃ rs,rs=sr T k (pl (due P) x):=⟨_,rfl⟩
   refine V.heap (λZ=>Grow Y2 Z/\Bx Z Y2.next [I rs.w,I rs.c,.slice pu2 nu2 cu2] 94) ⟨?_,?_⟩ ?_
   ·exact ((Grow.refl Y2).alloc _).set (by omega) _
   ·rw[hrs,<- edue]
    exact⟨by simp only[Heap.next_set,Heap.next_alloc];omega,cells_set _ _ _ _ _⟩
   rintro Z ⟨gZ,eZ⟩
   rw[<- hrs] at a3
   have srb:=sr_bd G.hf G.hv (k:=k) (g:=pl (due P) x) (by omega)
   rw[<- hrs] at srb
   have acb:=accr_bd G.hf G.hv (k:=k) (g:=due P) (j:=j) (by omega)
   have mZ:=gZ.1
   have nZ:=eZ.1
   /- the state behind the call -/
   obtain⟨Sz,hSz⟩ : ∃ Sz : Nat->Prop,Sz=λi=>S i\/(X4.next+1<i/\i<Z.next/\¬ W i):=⟨_,rfl⟩
   have hWlt : ∀ i,W i->i<X5.next:=λi hi=>(hW i hi).2
   have hSS : ∀ i,(Sx W Y i\/(Y1.next<=i/\i<Y2.next))->Sz i:=by
    intro i hi
    rw[hSx] at hi
    rw[hSz]
    rcases hi with (hi|⟨b1,b2,b3⟩)|⟨b1,b2⟩
    ·exact .inl hi
    ·exact .inr ⟨b1,by omega,b3⟩
    ·exact .inr ⟨by omega,by omega,λhw=>by have:=hWlt i hw;omega⟩
   have hSzb : ∀ i,Sz i->i<Z.next/\¬ Us T p i:=by
    intro i hi
    rw[hSz] at hi
    rcases hi with hi|⟨b1,b2,_⟩
    ·have:=hSlt i hi;exact⟨by omega,(h.hS i hi).2⟩
    ·exact⟨b2,λhu=>by have:=(G.us i hu).2;omega⟩
   have stZ : Stt T c f s A p Z Sz V2:=a2.keep G (gZ.s (U:=λ_=>False)) (λ_ hh=>hh.elim) hSS hSzb
   have bsZ : Bst Sz Z (.slice pu2 nu2 cu2) rs.b:=a3.growS (gZ.s (U:=λ_=>False)) (λ_ hh=>hh.elim) hSS
   have gYZ : GrowS (Us T p) Y Z:=gYY.trans gZ.s
   have nUs : ∀ i,p.nn<=i->¬ Us T p i:=λi hi hu=>by have:=(G.us i hu).2;omega
   have q2Z:=q2.growS gYZ (nUs _ (by omega))
   have q3Z:=q3.growS gYZ (nUs _ (by omega))
   have q4Z:=q4.growS gYZ (nUs _ (by omega))
   have hSxS : ∀ i,Sx W Y i->¬ Us T p i:=λi hi=>(q1.hS i hi).2
   have q5Z : Bst Sz Z (.slice pu nu cu) (accr T k (due P) j).b:=q5.growS gYZ (λi hi hs=>hSxS i hs hi) (λi hi=>hSS i (.inl hi))
   have riZ : RI Z (.slice pv nv cv) x:=ri.loc riY gYZ.1 (λi hi=>gYZ.2 i (by have:=vlt i hi;omega) (nUs i (by have:=vb i hi;omega)))
   have hlZ : Z.get (X4.next+1)=some (.loop { r0 with state:=.busy }):=by
    rw[gYZ.2 _ (by omega) (nUs _ (by omega))];exact hl2
   have vS : ∀ i,blkN (.slice pv nv cv)=some i->Sz i:=λi hi=>by
    have h1:=vlt i hi
    have h2:=vb i hi
    have h3:=v2 i
    rw[hSz]
    exact .inr ⟨by omega,by omega,λhw=>by have:=h3 hw;omega⟩
   have hV : ∀ r x,Vg r x->V2 r x:=λr x hh=>a4 r x (q6 r x hh)
   have exj : x=(cho T (T.C.length-(k+1)) (cols T) []).getD j []:=by rw[eL];exact hx
   have hjl : j<(cho T (T.C.length-(k+1)) (cols T) []).length:=by rw[eL];exact hj
   refine zS ?_
   have zf:=eZ.2
   refine V.lz ?_
   refine zS ?_
   refine V.condP zP (λhw0=>?_) (λhw0=>?_)
   ·have hw : rs.w≠0:=by omega
    have bvZ:=G.hA.grow stZ.gA
    obtain⟨qp,uu,hq,hu⟩:=bvZ.t.c.at ri hr'
    have hqk:=hq .i64
    obtain⟨hu1,hu2⟩:=hu Z (.refl Z)
    obtain⟨pr0,nr0,cr0,rfl⟩:=hu2.isS
    have kbZ:=stZ.kb.2
    have hrowv:=G.hv.2.2.1 _ (List.getElem_mem hr')
    have hrow4:=G.hf.2.2 _ (List.getElem_mem hr')
    have hdb:=dist_b G.hf G.hv (x:=T.C[r]) (y:=x) (List.getElem_mem hr') hx2
    obtain⟨vs,s1,s2,s3,s4⟩:=bsZ
    have hvok : vs.all ok1=true:=by
     rw[List.all_eq_true]
     intro y hy
     obtain⟨m,hm,rfl⟩:=List.mem_iff_getElem.1 hy
     obtain⟨a,b,c',e⟩:=(s4 m vs[m] (rs.b[m]'(by omega)) (by simp) (by simp)).1.isS
     rw[e];rfl
    refine zS ?_
    refine V.draw ?_
    have zf:=aI q4Z.2<|aI @kbZ<|aI q2Z.2<|aI @hqk<|@hu1
    refine VD.nz 9 ?_
    simp only[ds]
    have zf:=aI q4Z.2<|aI @kbZ<|aI q2Z.2<|aI @hqk<|@hu1
    refine VD.nz 1 ?_
    simp only[ds]
    refine VD.callA zA (f72_ok hu2 riZ (by rw[hrowv.1,hx1];exact Nat.le_refl _) (by omega) (λv hv=>by have:=hrowv.2 v hv;omega) (λv hv=>by have:=hx2 v hv;omega)) zA (λZ1 g6=>?_)
    have eZ1:=eZ.grow g6
    have zf:=eZ1.2
    refine VD.nz 1 ?_
    simp only[ds]
    have f91':=f91_ok (x:=.slice pv nv cv) (bv:=.slice pu nu cu) (a:=((accr T k (due P) j).w : Int)) (c1:=(accr T k (due P) j).c) (far:=dist T.C[r] x) (w:=(rs.w : Int)) (c2:=rs.c) (s1.grow g6) hvok ⟨_,_,_,rfl⟩ ⟨_,_,_,rfl⟩ (by omega) (by omega) (by omega) (by omega) (by omega)
    refine VD.callR zA (f91') zA (λw7 Z2 ⟨g7,u7,hw7,o7,k7⟩=>?_)
    subst hw7
    have eZ2:=eZ1.grow g7
    have q4Z1:=q4Z.grow g6
    have q4Z2:=q4Z1.grow g7
    have mZ1:=g6.1
    have mZ2:=g7.1
    obtain⟨pu7,nu7,cu7,rfl⟩ : ∃ a b c,u7=.slice a b c:=by
     by_cases hc : (((accr T k (due P) j).w : Int)=0\/dist T.C[r] x+rs.c<(accr T k (due P) j).c)
     ·exact (o7 hc).sl.isS
     ·exact⟨_,_,_,k7 hc⟩
    have zf:=q4Z2.2
    refine VD.dz ?_ ?_ rfl ?_
    ·exact zM
    ·simp only[dcAll,dcOk,wantD,List.cons_append,List.nil_append,true_and,and_true]
     have zf:=aI q4Z.2<|aI q4Z1.2<|aI q4Z2.2<|aI eZ.2<|aI eZ1.2<|eZ2.2
     exact⟨zR,zR⟩
    have gZ2 : Grow Z Z2:=g6.trans g7
    obtain⟨ar,har⟩ : ∃ ar,ar=accr T k (due P) (j+1):=⟨_,rfl⟩
    have eD : dist (T.C.getD (T.C.length-(k+1)) []) x=dist T.C[r] x:=by rw[er,gdl hr']
    have hsome:=accr_some (T:=T) (k:=k) (g:=due P) (j:=j) (by omega) hjl exj (by rw[<- hrs];exact hw)
    rw[eD,<- hrs,<- har] at hsome
    have eWC : (I (((accr T k (due P) j).w : Int)+(rs.w : Int))=I ar.w)/\(if ((accr T k (due P) j).w : Int)=0\/dist T.C[r] x+rs.c<(accr T k (due P) j).c then dist T.C[r] x+rs.c else (accr T k (due P) j).c)=ar.c:=by
     by_cases hc : (accr T k (due P) j).w=0\/dist T.C[r] x+rs.c<(accr T k (due P) j).c
     ·rw[if_pos hc] at hsome
      rw[hsome,if_pos (by omega)]
      exact⟨by rw[Int.natCast_add],rfl⟩
     ·rw[if_neg hc] at hsome
      rw[hsome,if_neg (by omega)]
      exact⟨by rw[Int.natCast_add],rfl⟩
    rw[eWC.1,eWC.2]
    obtain⟨S2,hS2⟩ : ∃ S2 : Nat->Prop,S2=λi=>S i\/(X4.next+1<i/\i<Z2.next/\¬ W i):=⟨_,rfl⟩
    have hS02 : ∀ i,Sz i->S2 i:=by
     intro i hi
     rw[hSz] at hi
     rw[hS2]
     rcases hi with hi|⟨b1,b2,b3⟩
     ·exact .inl hi
     ·exact .inr ⟨b1,by omega,b3⟩
    have hS2b : ∀ i,S2 i->i<Z2.next/\¬ Us T p i:=by
     intro i hi
     rw[hS2] at hi
     rcases hi with hi|⟨b1,b2,_⟩
     ·have:=hSlt i hi;exact⟨by omega,(h.hS i hi).2⟩
     ·exact⟨b2,nUs i (by omega)⟩
    have st2 : Stt T c f s A p Z2 S2 V2:=stZ.keep G (gZ2.s (U:=λ_=>False)) (λ_ hh=>hh.elim) hS02 hS2b
    have bs2 : Bst S2 Z2 (.slice pu7 nu7 cu7) ar.b:=by
     by_cases hc : (accr T k (due P) j).w=0\/dist T.C[r] x+rs.c<(accr T k (due P) j).c
     ·rw[if_pos hc] at hsome
      have o8:=o7 (by omega)
      rw[hsome]
      refine⟨.slice pv nv cv::vs,o8.sl,λi hi=>?_,by simp[s3],?_⟩
      ·have b1:=o8.from i hi
       have b2:=o8.sl.ltN hi
       rw[hS2]
       exact .inr ⟨by omega,b2,λhw=>by have:=hWlt i hw;omega⟩
      ·intro m y l hy hl'
       cases m with
       | zero=>
        simp only[List.getElem?_cons_zero,Option.some.injEq] at hy hl'
        subst hy;subst hl'
        exact⟨ri.grow gZ2 riZ,λi hi=>hS02 i (vS i hi)⟩
       | succ m=>
        simp only[List.getElem?_cons_succ] at hy hl'
        obtain⟨b1,b2⟩:=s4 m y l hy hl'
        exact⟨ri.grow gZ2 b1,λi hi=>hS02 i (b2 i hi)⟩
     ·rw[if_neg hc] at hsome
      have e7:=k7 (by omega)
      rw[e7,hsome]
      exact q5Z.growS (gZ2.s (U:=λ_=>False)) (λ_ hh=>hh.elim) hS02
    refine V.heap (λZ3=>GrowS (·=X2.next) Z2 Z3/\Z3.next=Z2.next/\Bx Z3 X2.next [I ar.w,I ar.c,.slice pu7 nu7 cu7] 94) ⟨?_,?_,?_⟩ ?_
    ·exact GrowS.setAt _ _ _
    ·rfl
    ·exact⟨by simp only[Heap.next_set];omega,cells_set _ _ _ _ _⟩
    rintro Z3 ⟨g8,n8,f4⟩
    have hS2x : ∀ i,i=X2.next->¬ S2 i:=by
     rintro i rfl hi
     rw[hS2] at hi
     rcases hi with hi|⟨b1,_⟩
     ·have:=hSlt _ hi;omega
     ·omega
    have st3' : Stt T c f s A p Z3 S2 V2:=st2.keep G g8 (λi hi=>⟨by omega,hS2x i hi⟩) (λ_=>id) (λi hi=>⟨by have:=(hS2b i hi).1;omega,(hS2b i hi).2⟩)
    have bs3 : Bst S2 Z3 (.slice pu7 nu7 cu7) ar.b:=bs2.growS g8 hS2x (λ_=>id)
    have f2:=(q2Z.grow gZ2).growS g8 (by omega)
    have f3:=(q3Z.grow gZ2).growS g8 (by omega)
    have hl3 : Z3.get (X4.next+1)=some (.loop { r0 with state:=.busy }):=by
     rw[g8.2 _ (by omega) (by omega),gZ2.2 _ (by omega)];exact hlZ
    have ri3 : RI Z3 (.slice pv nv cv) x:=ri.loc riZ (by omega) (λi hi=>by
     have b1:=vb i hi
     have b2:=vlt i hi
     rw[g8.2 i (by omega) (by omega),gZ2.2 i (by omega)])
    obtain⟨R,hR⟩:=st3'.sp r hr'
    have hpi:=(G.us _ (.inr ⟨r,hr',rfl⟩)).2
    have ks3:=st3'.ks.2
    have ko3:=st3'.ko.2
    obtain⟨lst,hlst⟩ : ∃ lst,lst=rows T p:=⟨_,rfl⟩
    rw[<- hlst] at ko3
    have hli : lst[r]?=some (.slice (some ⟨p.pi r,0,none⟩) (cols T) (cols T)):=by
     rw[hlst]
     simp[hr']
    have ix:=own_idx (y:=p.po) (n:=T.C.length) (c:=T.C.length) hr'
    refine zS ?_
    refine V.run ?_
    have zf:=aI @ks3<|aI @ko3<|aI f2.2<|aI @ix<|aI @hli<|@arr_get
    refine VI.sz 6 ?_
    simp only[ds]
    refine VI.callR zA (f92_ok hR.1 (by omega) (λQ gQ=>ri.loc ri3 gQ.1 (λi hi=>gQ.2 i (by have b2:=vlt i hi;omega) (by have b1:=vb i hi;omega))) hx1 (by omega)) zA (λw8 Z4 ⟨g9,R9⟩=>?_)
    refine VI.l0 ?_
    refine zS ?_
    have n9:=g9.1
    have hM : ∃ M,M∈fol T k (pl (due P) x):=by
     cases hf2 : fol T k (pl (due P) x) with
     | nil=>exact absurd (by rw[hrs];unfold sr;rw[rsf_w,hf2];rfl) hw
     | cons M _=>exact⟨M,by simp⟩
    have hsd : ∃ N∈rnds T,N.getD r []=x:=by
     obtain⟨M,hM⟩:=hM
     refine⟨P++[x]++M,rnds_app (k:=k) (by rw[List.length_append,List.length_singleton];omega) hPx (by rw[edue];exact hM),?_⟩
     rw[List.append_assoc,List.getD_eq_getElem?_getD,List.getElem?_append_right (by omega),hl,Nat.sub_self]
     rfl
    have st4':=st3'.wide G hr' hR g9 R9 hsd
    have hus : Us T p (p.pi r):=.inr ⟨r,hr',rfl⟩
    have n4i : ∀ i,p.nn<=i->¬ i=p.pi r:=λi hi e=>by omega
    have gAll : GrowS (λi=>Us T p i\/i=X2.next) Y Z4:=by
     refine (gYZ.mono (λi hi=>.inl hi)).trans ?_
     refine (gZ2.s.trans (g8.mono (λi hi=>.inr hi))).trans ?_
     exact g9.mono (λi hi=>.inl (by rw[hi];exact hus))
    have hl4 : Z4.get (X4.next+1)=some (.loop { r0 with state:=.busy }):=by rw[g9.2 (X4.next+1) (by omega) (n4i _ (by omega))];exact hl3
    refine V.nil ⟨hl4,gAll,rfl,?_⟩
    rw[hIV]
    have hS24 : ∀ i,S2 i->Sx W Z4 i:=by
     intro i hi
     rw[hS2] at hi
     rw[hSx]
     rcases hi with hi|⟨b1,b2,b3⟩
     ·exact .inl hi
     ·exact .inr ⟨b1,by omega,b3⟩
    have hS4b : ∀ i,Sx W Z4 i->i<Z4.next/\¬ Us T p i:=by
     intro i hi
     rw[hSx] at hi
     rcases hi with hi|⟨b1,b2,_⟩
     ·have:=hSlt i hi;exact⟨by omega,(h.hS i hi).2⟩
     ·exact⟨b2,nUs i (by omega)⟩
    have hS2r : ∀ i,i=p.pi r->¬ S2 i:=λi e hi=>(hS2b i hi).2 (by rw[e];exact hus)
    refine⟨addV V2 r x,.slice pu7 nu7 cu7,st4'.keep G (GrowS.refl (U:=λ_=>False) Z4) (λ_ hh=>hh.elim) hS24 hS4b,f2.growS g9 (n4i _ (by omega)),f3.growS g9 (n4i _ (by omega)),by rw[<- har];exact f4.growS g9 (n4i _ (by omega)),by rw[<- har];exact bs3.growS g9 hS2r hS24,λr' y hy=>.inl (hV r' y hy),?_⟩
    intro N hN i hi
    rw[acc_s hjl,<- exj] at hN
    rcases List.mem_append.1 hN with hN|hN
    ·exact .inl (a4 _ _ (q7 N hN i hi))
    ·obtain⟨M,hM,rfl⟩:=List.mem_map.1 hN
     cases i with
     | zero=>exact .inr ⟨rfl,rfl⟩
     | succ i=>
      refine .inl ?_
      have:=a5 M hM i (by omega)
      rw[show T.C.length-k+i=r+(i+1) by omega] at this
      exact this
   ·have hw : rs.w=0:=by omega
    rw[hrs,exj] at hw
    obtain⟨e1,e2⟩:=accr_none hjl hw
    refine zS ?_
    refine V.nil ⟨hlZ,gYZ.mono (λi hi=>.inl hi),rfl,?_⟩
    rw[hIV]
    have eSz : Sx W Z=Sz:=by rw[hSx,hSz]
    rw[<- eSz] at stZ q5Z
    refine⟨V2,.slice pu nu cu,stZ,q2Z,q3Z,by rw[e2];exact q4Z,by rw[e2];exact q5Z,hV,?_⟩
    rw[e1]
    intro N hN i hi
    exact a4 _ _ (q7 N hN i hi)
  ·intro W Y hI hW hg hlt
   rw[<- hL,<- eL,hIV] at hI
   obtain⟨Vx,u,q1,q2,q3,q4,q5,q6,q7⟩:=hI
   simp only[Heap.next_alloc] at hg hlt hW
   rw[accr_all] at q4 q5
   rw[acc_all] at q7
   obtain⟨pu,nu,cu,rfl⟩:=q5.isS
   obtain⟨o,ho,q8⟩:=q1.put G (k:=k+1) (g:=due P) (by omega) (by rw[er];exact hok) q5 (by rw[er];exact q7)
   rw[er,kS_key] at ho
   have hgd : Y.get X4.next=some (.deferred true):=by
    rw[hg.2 _ (by simp only[Heap.next_alloc];omega) (λhh=>by
     rcases hh with (hu|hu)|hu
     ·have:=(G.us _ hu).2;omega
     ·omega
     ·omega),Heap.get_alloc,if_pos rfl]
   have gXY : ∀ i,i<X.next->¬ Us T p i->Y.get i=X.get i:=λi hi hu=>by
    rw[hg.2 i (by simp only[Heap.next_alloc];omega) (λhh=>by
     rcases hh with (hh|hh)|hh
     ·exact hu hh
     ·omega
     ·omega),Heap.get_alloc,if_neg (by omega),g4.2 i (by omega),g3.2 i hi]
   have hpm:=(G.us _ (.inl rfl)).2
   have q2' : Bx (Y.set p.pm o) X.next (I r::Q4 (due P)) 127:=q2.set (by omega) _
   have q3' : Bx (Y.set p.pm o) (X.next+1) [I 0,I 0,.slice none 0 0] 94:=q3.set (by omega) _
   have q4' : Bx (Y.set p.pm o) X2.next [I (sr T (k+1) (due P)).w,I (sr T (k+1) (due P)).c,.slice pu nu cu] 94:=q4.set (by omega) _
   obtain⟨Y1,hY1⟩ : ∃ Y1,Y1=Y.set p.pm o:=⟨_,rfl⟩
   rw[<- hY1] at ho q2' q3' q4' q8
   have qk:=q1.kk.2
   refine zS ?_
   have zf:=aI @qk<|aI q2.2<|aI q4.2<|@ho
   refine V.lz ?_
   refine zS ?_
   have zf:=aI q4'.2<|q3'.2
   refine V.lz ?_
   refine V.heap (λZ=>GrowS (·=X.next+1) Y1 Z/\Bx Z (X.next+1) [I (sr T (k+1) (due P)).w,I (sr T (k+1) (due P)).c,.slice pu nu cu] 94) ⟨?_,?_⟩ ?_
   ·exact GrowS.setAt _ _ _
   ·exact⟨by simp only[Heap.next_set];exact q3'.1,cells_set _ _ _ _ _⟩
   rintro Z ⟨gZ,cZ⟩
   have nY1 : Y1.next=Y.next:=by rw[hY1];rfl
   have nZ:=gZ.1
   have hgdZ : Z.get X4.next=some (.deferred true):=by
    rw[gZ.2 _ (by omega) (by omega),hY1,Heap.get_set,if_neg (by omega)];exact hgd
   have cZ' : (Z.set X4.next .dead).cellsAt (X.next+1)=some (⟨[I (sr T (k+1) (due P)).w,I (sr T (k+1) (due P)).c,.slice pu nu cu]⟩,94,true):=(cells_set_ne _ _ (by omega)).trans cZ.2
   refine zS ?_
   refine V.ret (V.rets rfl (Lv.retM hgdZ (by simp +contextual (disch:=first|omega|simp only[nx];omega) only[D1,cZ',yres,yres1,yresL,qA,qB,qC,D5,hF,hA,↓reduceIte,qD,qE];rfl) ?_))
   have gF : GrowS (λi=>i=X.next+1\/i=X4.next) Y1 (Z.set X4.next .dead):=(gZ.mono (λi hi=>.inl hi)).set (.inl (.inr rfl)) _
   have hSx2 : ∀ i,Sx W Y i->(S i\/(X.next<=i/\i<(Z.set X4.next .dead).next)):=by
    intro i hi
    rw[hSx] at hi
    rcases hi with hi|⟨a1,a2,_⟩
    ·exact .inl hi
    ·refine .inr ⟨by omega,?_⟩
     simp only[Heap.next_set]
     omega
   have hSn : ∀ i,Sx W Y i->¬ (i=X.next+1\/i=X4.next):=by
    intro i hi
    rw[hSx] at hi
    rcases hi with hi|⟨a1,a2,_⟩
    ·have:=hSlt i hi;omega
    ·omega
   have hSb : ∀ i,(S i\/(X.next<=i/\i<(Z.set X4.next .dead).next))->i<(Z.set X4.next .dead).next/\¬ Us T p i:=by
    rintro i (hi|⟨a1,a2⟩)
    ·have:=hSlt i hi
     refine⟨?_,(h.hS i hi).2⟩
     simp only[Heap.next_set];omega
    ·exact⟨a2,λhu=>by have:=(G.us i hu).2;omega⟩
   refine⟨⟨by simp only[Heap.next_set];omega,λi hi hu=>?_⟩,.slice pu nu cu,Vx,rfl,q8.keep G gF (λi hi=>⟨by omega,λhs=>hSn i hs hi⟩) hSx2 hSb,?_,q6,by rw[er];exact q7⟩
   ·rw[gF.2 i (by omega) (by omega),hY1,Heap.get_set,if_neg (λe=>hu (.inl e))]
    exact gXY i hi hu
   ·have q5' : Bst (Sx W Y) Y1 (.slice pu nu cu) (sr T (k+1) (due P)).b:=q5.loc (by omega) (λ_=>id) (λi hi _=>by
     rw[hY1,Heap.get_set,if_neg (λe=>(q1.hS i hi).2 (.inl e))])
    exact q5'.growS gF (λi hi hs=>hSn i hs hi) hSx2
theorem f88_ok {T : Tb} {c f s : Value} {A : Heap} {p : Pl} (G : Geo T c f s A p) : ∀ {k : Nat} {P : List (List Int)} {X : Heap} {S : Nat->Prop} {Vg : Nat->List Int->Prop} {r : Nat},r+k=T.C.length->P.length=r->(∀ i,i<P.length->P.getD i []∈cho T i (cols T) [])->Stt T c f s A p X S Vg->F Try.prog 88 ⟨[.agg ⟨I r::Q4 (due P)⟩,PT p.pb,PT p.pk,PT p.pf,PT p.ps]⟩ X (Out T c f s A p k P X S Vg)
 | 0,_,_,_,_,_,hr,hl,hP,h=>f88_0 G (by omega) (by omega) hP h
 | _+1,_,_,_,_,_,hr,hl,hP,h=>f88_s G (λh1 h2 h3 h4=>f88_ok G h1 h2 h3 h4) hr hl hP h
end Go.Xe.TRX
