/- The search of the layer round: what lies in memory while it goes on. Conditions: none. -/
import Derived.Test.YtimnlnfpblomnaaTTD
noncomputable section
namespace Go.Xe.TRX
open Go Go.Xe Go.Proofs
open Go.Xe.Rnd
set_option maxRecDepth 100000
set_option maxHeartbeats 1600000
set_option linter.unusedSimpArgs false
def Bst (S : Nat->Prop) (X : Heap) (u : Value) (N : List (List Int)) : Prop:=∃ vs : List Value,Sl X u vs/\(∀ i,blkN u=some i->S i)/\vs.length=N.length/\∀ (k : Nat) (x : Value) (r : List Int),vs[k]?=some x->N[k]?=some r->RI X x r/\∀ i,blkN x=some i->S i
theorem Bst.nest {S : Nat->Prop} {X : Heap} {u : Value} {N : List (List Int)} (h : Bst S X u N) : Nest RI X u N:=by
 obtain⟨vs,h1,_,h3,h4⟩:=h
 exact⟨vs,h1,h3,λk x r hx hr=>(h4 k x r hx hr).1⟩
theorem Bst.loc {S S' : Nat->Prop} {X Y : Heap} {u : Value} {N : List (List Int)} (h : Bst S X u N) (hn : X.next<=Y.next) (hS : ∀ i,S i->S' i) (k : ∀ i,S i->i<X.next->Y.get i=X.get i) : Bst S' Y u N:=by
 obtain⟨vs,h1,h2,h3,h4⟩:=h
 refine⟨vs,h1.loc hn (λi hi=>k i (h2 i hi) (h1.ltN hi)),λi hi=>hS i (h2 i hi),h3,λj x r hx hr=>?_⟩
 obtain⟨q1,q2⟩:=h4 j x r hx hr
 exact⟨ri.loc q1 hn (λi hi=>k i (q2 i hi) (ri.lt q1 hi)),λi hi=>hS i (q2 i hi)⟩
theorem Bst.growS {S S' W : Nat->Prop} {X Y : Heap} {u : Value} {N : List (List Int)} (h : Bst S X u N) (g : GrowS W X Y) (hW : ∀ i,W i->¬ S i) (hS : ∀ i,S i->S' i) : Bst S' Y u N:=
 h.loc g.1 hS (λi hi hlt=>g.2 i hlt (λhw=>hW i hw hi))
theorem Bst.nil (S : Nat->Prop) (X : Heap) : Bst S X (.slice none 0 0) []:=⟨[],.nil,λi hi=>(by simp[blkN] at hi),rfl,λk x r hx=>(by simp at hx)⟩
theorem Bst.isS {S : Nat->Prop} {X : Heap} {u : Value} {N : List (List Int)} (h : Bst S X u N) : ∃ p n c,u=.slice p n c:=h.nest.isS
def SpR (T : Tb) (V : Nat->List Int->Prop) (r : Nat) (R : Nat->Int×Int) : Prop:=∀ c,c<cols T->(∀ x,V r x->(R c).1<=x.getD c 0/\x.getD c 0<=(R c).2)/\((R c).1=hi T.b ((T.C.getD r []).getD c 0)\/∃ x,V r x/\x.getD c 0=(R c).1)/\((R c).2=lo T.b ((T.C.getD r []).getD c 0)\/∃ x,V r x/\x.getD c 0=(R c).2)
def addV (V : Nat->List Int->Prop) (r : Nat) (x : List Int) : Nat->List Int->Prop:=λr' y=>V r' y\/(r'=r/\y=x)
theorem SpR.other {T : Tb} {V : Nat->List Int->Prop} {r r0 : Nat} {R : Nat->Int×Int} {x : List Int} (h : SpR T V r R) (hr : r≠r0) : SpR T (addV V r0 x) r R:=by
 intro c hc
 obtain⟨h1,h2,h3⟩:=h c hc
 refine⟨λy hy=>?_,h2.imp id (λ⟨y,a,b⟩=>⟨y,.inl a,b⟩),h3.imp id (λ⟨y,a,b⟩=>⟨y,.inl a,b⟩)⟩
 rcases hy with hy|⟨e,_⟩
 ·exact h1 y hy
 ·exact absurd e hr
theorem SpR.add {T : Tb} {V : Nat->List Int->Prop} {r : Nat} {R : Nat->Int×Int} {x : List Int} (h : SpR T V r R) : SpR T (addV V r x) r (wid R x (cols T)):=by
 intro c hc
 obtain⟨h1,h2,h3⟩:=h c hc
 have e : wid R x (cols T) c=(min (R c).1 (x.getD c 0),max (R c).2 (x.getD c 0)):=by unfold wid;rw[if_pos hc]
 rw[e]
 refine⟨λy hy=>?_,?_,?_⟩
 ·rcases hy with hy|⟨_,rfl⟩
  ·have:=h1 y hy
   simp only;omega
  ·simp only;omega
 ·by_cases hm : x.getD c 0<=(R c).1
  ·exact .inr ⟨x,.inr ⟨rfl,rfl⟩,by simp only;omega⟩
  ·rcases h2 with h2|⟨y,a,b⟩
   ·exact .inl (by simp only;omega)
   ·exact .inr ⟨y,.inl a,by simp only;omega⟩
 ·by_cases hm : (R c).2<=x.getD c 0
  ·exact .inr ⟨x,.inr ⟨rfl,rfl⟩,by simp only;omega⟩
  ·rcases h3 with h3|⟨y,a,b⟩
   ·exact .inl (by simp only;omega)
   ·exact .inr ⟨y,.inl a,by simp only;omega⟩
structure Pl where
 pb : Nat
 pk : Nat
 pf : Nat
 ps : Nat
 po : Nat
 pm : Nat
 nn : Nat
 pi : Nat->Nat
def Us (T : Tb) (p : Pl) (i : Nat) : Prop:=i=p.pm\/∃ r,r<T.C.length/\i=p.pi r
structure Geo (T : Tb) (c f s : Value) (A : Heap) (p : Pl) : Prop where
 hA : BV A c f s T
 hf : fits T
 hv : valid T
 an : A.next<=p.nn
 us : ∀ i,Us T p i->A.next<=i/\i<p.nn
 bs : p.pb<p.nn/\p.pk<p.nn/\p.pf<p.nn/\p.ps<p.nn/\p.po<p.nn
 nb : ¬ Us T p p.pb/\¬ Us T p p.pk/\¬ Us T p p.pf/\¬ Us T p p.ps/\¬ Us T p p.po
 inj : ∀ r r',r<T.C.length->r'<T.C.length->p.pi r=p.pi r'->r=r'
 ne : ∀ r,r<T.C.length->p.pi r≠p.pm
def KnO (T : Tb) (S : Nat->Prop) (V : Nat->List Int->Prop) (X : Heap) (f : K5->Option Value) : Prop:=∀ (k : Nat) (g : Nat->Int) (v : Value),k<=T.C.length->f (keyS (T.C.length-k) g)=some v->(∃ u,v=.agg ⟨[I (sr T k g).w,I (sr T k g).c,u]⟩/\Bst S X u (sr T k g).b)/\∀ N∈fol T k g,∀ i,i<k->V (T.C.length-k+i) (N.getD i [])
abbrev rows (T : Tb) (p : Pl) : List Value:=(List.range T.C.length).map λr=>.slice (some ⟨p.pi r,0,none⟩) (cols T) (cols T)
structure Stt (T : Tb) (c f s : Value) (A : Heap) (p : Pl) (X : Heap) (S : Nat->Prop) (V : Nat->List Int->Prop) : Prop where
 gA : Grow A X
 nX : p.nn<=X.next
 kb : Bx X p.pb (bl T.b c f s (due T.C)) 89
 kk : Bx X p.pk [.map (some p.pm)] 124
 kf : Bx X p.pf [.func (.func 88) ⟨[]⟩ ⟨[PT p.pb,PT p.pk,PT p.pf,PT p.ps]⟩] 125
 ks : Bx X p.ps [.slice (some ⟨p.po,0,none⟩) T.C.length T.C.length] 48
 ko : Bx X p.po (rows T p) 56
 hS : ∀ i,S i->i<X.next/\¬ Us T p i
 kn : ∃ f,MpF X p.pm 127 kS f/\KnO T S V X f
 sp : ∀ r,r<T.C.length->∃ R,Rg X (p.pi r) (cols T) R/\SpR T V r R
 sd : ∀ r x,V r x->∃ N∈rnds T,N.getD r []=x
theorem Rg.loc {X Y : Heap} {i n : Nat} {R : Nat->Int×Int} (h : Rg X i n R) (k : Y.get i=X.get i) : Rg Y i n R:=by
 obtain⟨c,h1,h2⟩:=h
 refine⟨c,?_,h2⟩
 unfold Heap.cellsAt at h1 ⊢
 rw[k];exact h1
section
variable {T : Tb} {c f s : Value} {A X Y : Heap} {p : Pl} {S S' W : Nat->Prop} {V V' : Nat->List Int->Prop}
theorem Stt.grown (h : Stt T c f s A p X S V) (G : Geo T c f s A p) (g : GrowS W X Y) (hW : ∀ i,W i->p.nn<=i\/Us T p i) : Grow A Y/\p.nn<=Y.next/\Bx Y p.pb (bl T.b c f s (due T.C)) 89/\Bx Y p.pk [.map (some p.pm)] 124/\Bx Y p.pf [.func (.func 88) ⟨[]⟩ ⟨[PT p.pb,PT p.pk,PT p.pf,PT p.ps]⟩] 125/\Bx Y p.ps [.slice (some ⟨p.po,0,none⟩) T.C.length T.C.length] 48/\Bx Y p.po (rows T p) 56:=by
 have hb:=G.bs
 have hn:=G.nb
 have go : ∀ i,i<p.nn->¬ Us T p i->¬ W i:=λi hi hu hw=>(hW i hw).elim (λhh=>by omega) hu
 refine⟨⟨Nat.le_trans h.gA.1 g.1,λi hi=>?_⟩,Nat.le_trans h.nX g.1,h.kb.growS g (go _ hb.1 hn.1),h.kk.growS g (go _ hb.2.1 hn.2.1),h.kf.growS g (go _ hb.2.2.1 hn.2.2.1),h.ks.growS g (go _ hb.2.2.2.1 hn.2.2.2.1),h.ko.growS g (go _ hb.2.2.2.2 hn.2.2.2.2)⟩
 have h1:=G.an
 have h2:=h.nX
 rw[g.2 i (by omega) (go i (by omega) (λhu=>by have:=(G.us i hu).1;omega)),h.gA.2 i hi]
theorem KnO.loc {f : K5->Option Value} (h : KnO T S V X f) (hn : X.next<=Y.next) (hS : ∀ i,S i->S' i) (k : ∀ i,S i->i<X.next->Y.get i=X.get i) (hV : ∀ r x,V r x->V' r x) : KnO T S' V' Y f:=by
 intro j g v hj hf
 obtain⟨⟨u,e,hu⟩,h2⟩:=h j g v hj hf
 exact⟨⟨u,e,hu.loc hn hS k⟩,λN hN i hi=>hV _ _ (h2 N hN i hi)⟩
theorem Stt.keep (h : Stt T c f s A p X S V) (G : Geo T c f s A p) (g : GrowS W X Y) (hW : ∀ i,W i->p.nn<=i/\¬ S i) (hS : ∀ i,S i->S' i) (hS' : ∀ i,S' i->i<Y.next/\¬ Us T p i) : Stt T c f s A p Y S' V:=by
 obtain⟨a1,a2,a3,a4,a5,a6,a7⟩:=h.grown G g (λi hi=>.inl (hW i hi).1)
 have same : ∀ i,i<p.nn->Y.get i=X.get i:=λi hi=>g.2 i (by have:=h.nX;omega) (λhw=>by have:=(hW i hw).1;omega)
 refine⟨a1,a2,a3,a4,a5,a6,a7,hS',?_,?_,h.sd⟩
 ·obtain⟨f,hf,hk⟩:=h.kn
  exact⟨f,hf.loc g.1 (same _ (G.us _ (.inl rfl)).2),hk.loc g.1 hS (λi hi hlt=>g.2 i hlt (λhw=>(hW i hw).2 hi)) (λ_ _=>id)⟩
 ·intro r hr
  obtain⟨R,h1,h2⟩:=h.sp r hr
  exact⟨R,h1.loc (same _ (G.us _ (.inr ⟨r,hr,rfl⟩)).2),h2⟩
theorem Stt.put (h : Stt T c f s A p X S V) (G : Geo T c f s A p) {k : Nat} {g : Nat->Int} {u : Value} (hk : k<=T.C.length) (hg : okS (keyS (T.C.length-k) g)) (hu : Bst S X u (sr T k g).b) (hN : ∀ N∈fol T k g,∀ i,i<k->V (T.C.length-k+i) (N.getD i [])) :
  ∃ o,ymapUpdate Try.prog 127 X (.map (some p.pm)) (kS (keyS (T.C.length-k) g)) (.agg ⟨[I (sr T k g).w,I (sr T k g).c,u]⟩)=some (X.set p.pm o)/\Stt T c f s A p (X.set p.pm o) S V:=by
 obtain⟨f0,hf,hkn⟩:=h.kn
 obtain⟨o,h1,h2⟩:=MpF.upd kS_keys hf hg (.agg ⟨[I (sr T k g).w,I (sr T k g).c,u]⟩)
 have gs : GrowS (·=p.pm) X (X.set p.pm o):=GrowS.setAt _ _ _
 have same : ∀ i,i≠p.pm->(X.set p.pm o).get i=X.get i:=λi hi=>by rw[Heap.get_set,if_neg hi]
 obtain⟨a1,a2,a3,a4,a5,a6,a7⟩:=h.grown G gs (λi hi=>.inr (.inl hi))
 have nS : ∀ i,S i->i≠p.pm:=λi hi e=>(h.hS i hi).2 (.inl e)
 refine⟨o,h1,a1,a2,a3,a4,a5,a6,a7,h.hS,⟨_,h2,?_⟩,?_,h.sd⟩
 ·intro j g' v hj hv
  simp only at hv
  by_cases he : keyS (T.C.length-j) g'=keyS (T.C.length-k) g
  ·rw[if_pos he] at hv
   unfold keyS at he
   simp only[Prod.mk.injEq] at he
   obtain⟨e1,e2,e3,e4,e5⟩:=he
   have hjk : j=k:=by omega
   subst hjk
   have hfe : fol T j g'=fol T j g:=fol_congr (λi hi=>by
    have : i=0\/i=1\/i=2\/i=3:=by omega
    rcases this with rfl|rfl|rfl|rfl<;>assumption)
   have hse : sr T j g'=sr T j g:=by unfold sr;rw[hfe]
   rw[hse,hfe]
   simp only[Option.some.injEq] at hv
   exact⟨⟨u,hv.symm,hu.loc gs.1 (λ_=>id) (λi hi _=>same i (nS i hi))⟩,hN⟩
  ·rw[if_neg he] at hv
   obtain⟨⟨u',q1,q2⟩,q3⟩:=hkn j g' v hj hv
   exact⟨⟨u',q1,q2.loc gs.1 (λ_=>id) (λi hi _=>same i (nS i hi))⟩,q3⟩
 ·intro r hr
  obtain⟨R,q1,q2⟩:=h.sp r hr
  exact⟨R,q1.loc (same _ (G.ne r hr)),q2⟩
theorem Stt.wide (h : Stt T c f s A p X S V) (G : Geo T c f s A p) {r : Nat} {x : List Int} {R : Nat->Int×Int} (hr : r<T.C.length) (hR : Rg X (p.pi r) (cols T) R/\SpR T V r R) (g : GrowS (·=p.pi r) X Y) (hY : Rg Y (p.pi r) (cols T) (wid R x (cols T))) (hx : ∃ N∈rnds T,N.getD r []=x) : Stt T c f s A p Y S (addV V r x):=by
 obtain⟨a1,a2,a3,a4,a5,a6,a7⟩:=h.grown G g (λi hi=>.inr (.inr ⟨r,hr,hi⟩))
 have nX:=h.nX
 have nS : ∀ i,S i->i≠p.pi r:=λi hi e=>(h.hS i hi).2 (.inr ⟨r,hr,e⟩)
 refine⟨a1,a2,a3,a4,a5,a6,a7,λi hi=>⟨Nat.lt_of_lt_of_le (h.hS i hi).1 g.1,(h.hS i hi).2⟩,?_,?_,?_⟩
 ·obtain⟨f,hf,hk⟩:=h.kn
  have hpm:=(G.us _ (.inl rfl)).2
  exact⟨f,hf.loc g.1 (g.2 _ (by omega) (λe=>G.ne r hr e.symm)),hk.loc g.1 (λ_=>id) (λi hi hlt=>g.2 i hlt (nS i hi)) (λ_ _ hh=>.inl hh)⟩
 ·intro r' hr'
  by_cases e : r'=r
  ·subst e
   exact⟨_,hY,hR.2.add⟩
  ·obtain⟨R',q1,q2⟩:=h.sp r' hr'
   have hpi:=(G.us _ (.inr ⟨r',hr',rfl⟩)).2
   exact⟨R',q1.loc (g.2 _ (by omega) (λe2=>e (G.inj _ _ hr' hr e2))),q2.other e⟩
 ·rintro r' y (hy|⟨rfl,rfl⟩)
  ·exact h.sd r' y hy
  ·exact hx
end
end Go.Xe.TRX
-- MOD TR
namespace Go.Xe.TRX
open Go Go.Xe Go.Proofs
open Nat renaming reduceLeDiff ->qA, reduceSub ->qB, reduceAdd ->qC, reduceEqDiff ->qD, reduceLT ->qE
open Int renaming reduceNegSucc ->qF, reduceEq ->qG
open Go.Xe.V renaming seq ->sA, block ->sB, scope ->sC, skip ->sD, close ->sE
open Go.Xe renaming pth ->P
open Go.Xe.Rnd
set_option maxRecDepth 100000
set_option maxHeartbeats 1600000
set_option linter.unusedSimpArgs false
def d88 : FCode:=(.seq (.run (.go (.box 127 (tm 0)) (P 5)::
.go (.alloc 94 [(.int .i64 (.ofNat 0)),(.int .i64 (.ofNat 0)),(.slice none 0 0)]) (P 6)::
[])) (.seq (.seq (.run (.go (.fieldAddr 0 (tm 5)) (P 12)::
.go (.load1 (tm 12)) (P 13)::
.go (.fieldAddr 0 (tm 1)) (P 14)::
.go (.fieldAddr 1 (tm 14)) (P 15)::
.go (.load1 (tm 15)) (P 16)::
.go (.len 0 (tm 16)) (P 17)::
.go (.bin .eql 3 (tm 13) (tm 17)) (P 18)::
[])) (.cond (tm 18) (.seq (.run (.go (.loadN 8 (tm 1)) (P 19)::
.go (.loadN 5 (tm 5)) (P 20)::
.go (.call (.con (.func (.func 89) ⟨[]⟩ ⟨[]⟩)) [(tm 19),(tm 20)]) (P 21)::
.un (.store 3 (tm 6) (tm 21))::
[])) .ret) .skip)) (.seq (.seq (.run (.go (.load1 (tm 2)) (P 23)::
.go (.loadN 5 (tm 5)) (P 24)::
.go (.lookup 127 (.agg ⟨[(.int .i64 (.ofNat 0)),(.int .i64 (.ofNat 0)),(.slice none 0 0)]⟩) (tm 23) (tm 24) true) (P 25)::
.go (.move (tm 25)) (P 22)::
.go (.extract (tm 22) 0) (P 26)::
.go (.extract (tm 22) 1) (P 27)::
.go (.alloc 94 [(.int .i64 (.ofNat 0)),(.int .i64 (.ofNat 0)),(.slice none 0 0)]) (P 7)::
.un (.store 3 (tm 7) (tm 26))::
.go (.move (tm 27)) (P 8)::
[])) (.seq (.run (.go (.move (tm 8)) (P 28)::
[])) (.cond (tm 28) (.seq (.run (.go (.loadN 3 (tm 7)) (P 29)::
.un (.store 3 (tm 6) (tm 29))::
[])) .ret) .skip))) (.seq (.run (.go (.alloc 94 [(.int .i64 (.ofNat 0)),(.int .i64 (.ofNat 0)),(.slice none 0 0)]) (P 9)::
[])) (.seq (.seq (.run (.go (.loadN 8 (tm 1)) (P 30)::
.go (.fieldAddr 0 (tm 5)) (P 31)::
.go (.load1 (tm 31)) (P 32)::
.go (.call (.con (.func (.func 90) ⟨[]⟩ ⟨[]⟩)) [(tm 30),(tm 32)]) (P 33)::
[])) (.block 0 (.rangeFunc (tm 33) [(P 34)] (rfA Try.f88 0) (rfB Try.f88 0) (.run (.go (.move (tm 34)) (P 10)::
[])) (.block 1 (.seq (.draw 12 (.go (.load1 (tm 3)) (P 35)::
.go (.fieldAddr 0 (tm 5)) (P 36)::
.go (.load1 (tm 36)) (P 37)::
.go (.bin .add 3 (tm 37) (.con (.int .i64 (.ofNat 1)))) (P 38)::
.go (.fieldAddr 1 (tm 5)) (P 39)::
.go (.loadN 4 (tm 39)) (P 40)::
.go (.move (tm 10)) (P 41)::
.go (.call (.con (.func (.func 74) ⟨[]⟩ ⟨[]⟩)) [(tm 40),(tm 41)]) (P 42)::
.go (.build [(.int .i64 (.ofNat 0)),(.int .i64 (.ofNat 0)),(.int .i64 (.ofNat 0)),(.int .i64 (.ofNat 0)),(.int .i64 (.ofNat 0))] [(0,1,(tm 38)),(1,4,(tm 42))]) (P 43)::
.go (.call (tm 35) [tm 43]) (P 44)::
.go (.alloc 94 [(.int .i64 (.ofNat 0)),(.int .i64 (.ofNat 0)),(.slice none 0 0)]) (P 11)::
.un (.store 3 (tm 11) (tm 44))::
[]) [.rd none (.load1 (tm 3)) (some (P 35)) [8],.ok,.rd none (.load1 (tm 36)) (some (P 37)) [8],.ok,.ok,.ok,.ok,.ok,.ok,.ok,.nw none (some (P 11)) 10 true,.ok]) (.seq (.run (.go (.fieldAddr 0 (tm 11)) (P 45)::
.go (.load1 (tm 45)) (P 46)::
.go (.bin .gtr 3 (tm 46) (.con (.int .i64 (.ofNat 0)))) (P 47)::
[])) (.cond (tm 47) (.seq (.draw 14 (.go (.loadN 3 (tm 9)) (P 48)::
.go (.move (tm 10)) (P 49)::
.go (.fieldAddr 0 (tm 1)) (P 50)::
.go (.fieldAddr 1 (tm 50)) (P 51)::
.go (.load1 (tm 51)) (P 52)::
.go (.fieldAddr 0 (tm 5)) (P 53)::
.go (.load1 (tm 53)) (P 54)::
.go (.indexAddr none 1 (tm 52) (tm 54)) (P 55)::
.go (.load1 (tm 55)) (P 56)::
.go (.move (tm 10)) (P 57)::
.go (.call (.con (.func (.func 72) ⟨[]⟩ ⟨[]⟩)) [(tm 56),(tm 57)]) (P 58)::
.go (.loadN 3 (tm 11)) (P 59)::
.go (.call (.con (.func (.func 91) ⟨[]⟩ ⟨[]⟩)) [(tm 48),(tm 49),(tm 58),(tm 59)]) (P 60)::
.un (.store 3 (tm 9) (tm 60))::
[]) [.rd none (.loadN 3 (tm 9)) (some (P 48)) [11],.ok,.ok,.ok,.ok,.ok,.ok,.ok,.ok,.ok,.ok,.rd none (.loadN 3 (tm 11)) (some (P 59)) [0],.ok,.ok]) (.run (.go (.load1 (tm 4)) (P 61)::
.go (.fieldAddr 0 (tm 5)) (P 62)::
.go (.load1 (tm 62)) (P 63)::
.go (.indexAddr none 1 (tm 61) (tm 63)) (P 64)::
.go (.load1 (tm 64)) (P 65)::
.go (.move (tm 10)) (P 66)::
.go (.call (.con (.func (.func 92) ⟨[]⟩ ⟨[]⟩)) [(tm 65),(tm 66)]) (P 67)::
[]))) .skip))))))) (.seq (.run (.go (.load1 (tm 2)) (P 68)::
.go (.loadN 5 (tm 5)) (P 69)::
.go (.loadN 3 (tm 9)) (P 70)::
.un (.mapUpdate 127 (tm 68) (tm 69) (tm 70))::
[])) (.seq (.run (.go (.loadN 3 (tm 9)) (P 71)::
.un (.store 3 (tm 6) (tm 71))::
[])) .ret)))))))
theorem de88 : @compF Try.prog (Gl.none Try.prog) Try.f88 5=.mk d88 (mkTT 72) [(P 0),(P 1),(P 2),(P 3),(P 4)] [.many (P 6) 3]:=by kernel_rfl
theorem dg88 : Try.prog.funcs[88]?=some Try.f88:=Try.func88
theorem do88 : okF Try.prog Try.f88=true:=by kernel_rfl
theorem due_snoc (P : List (List Int)) (x : List Int) : due (P++[x])=pl (due P) x:=by
 funext i
 unfold due pl
 rw[List.map_append,sm_app]
 show _+(x.getD i 0+0)=_
 rw[Int.add_zero]
theorem due_app (P M : List (List Int)) (i : Nat) : due (P++M) i=due P i+due M i:=by
 unfold due
 rw[List.map_append,sm_app]
theorem rnds_app {T : Tb} {k : Nat} {P M : List (List Int)} (hk : P.length+k=T.C.length) (hP : ∀ i,i<P.length->P.getD i []∈cho T i (cols T) []) (hM : M∈fol T k (due P)) : P++M∈rnds T:=by
 obtain⟨h1,h2,h3⟩:=(fol_mem (by omega)).1 hM
 refine (fol_mem (Nat.le_refl _)).2 ⟨by rw[List.length_append];omega,λi hi=>?_,?_⟩
 ·rw[Nat.sub_self,Nat.zero_add]
  by_cases hp : i<P.length
  ·have e : (P++M).getD i []=P.getD i []:=by rw[List.getD_eq_getElem?_getD,List.getElem?_append_left hp,<- List.getD_eq_getElem?_getD]
   rw[e];exact hP i hp
  ·have e : (P++M).getD i []=M.getD (i-P.length) []:=by rw[List.getD_eq_getElem?_getD,List.getElem?_append_right (by omega),<- List.getD_eq_getElem?_getD]
   have:=h2 (i-P.length) (by omega)
   rw[e]
   rwa [show T.C.length-k+(i-P.length)=i by omega] at this
 ·have e : (λi=>(0 : Int)+due (P++M) i)=λi=>due P i+due M i:=by funext i;rw[due_app];omega
  rw[e];exact h3
theorem due_P {T : Tb} (hf : fits T) (hv : valid T) {P : List (List Int)} (hl : P.length<=T.C.length) (hP : ∀ i,i<P.length->P.getD i []∈cho T i (cols T) []) (i : Nat) : 0<=due P i/\due P i<=100000:=by
 have h1:=due_bd (C:=P) (λr hr v hv'=>by
  obtain⟨j,hj,rfl⟩:=List.mem_iff_getElem.1 hr
  have:=hP j hj
  rw[gdl hj] at this
  have:=(row_bd hv this).2 v hv'
  omega) i
 have h5:=hf.1
 have : (P.length : Int)*20000<=5*20000:=Int.mul_le_mul_of_nonneg_right (by omega) (by decide)
 omega
theorem okS_P {r : Nat} {g : Nat->Int} (hr : r<=1000) (hg : ∀ i,0<=g i/\g i<=100000) : okS (keyS r g):=by
 have h0:=hg 0
 have h1:=hg 1
 have h2:=hg 2
 have h3:=hg 3
 unfold okS keyS
 simp only
 omega
def Out (T : Tb) (c f s : Value) (A : Heap) (p : Pl) (k : Nat) (P : List (List Int)) (X : Heap) (S : Nat->Prop) (Vg : Nat->List Int->Prop) (v : Value) (Y : Heap) : Prop:=
 GrowS (Us T p) X Y/\∃ u V',v=.agg ⟨[I (sr T k (due P)).w,I (sr T k (due P)).c,u]⟩/\Stt T c f s A p Y (λi=>S i\/(X.next<=i/\i<Y.next)) V'/\Bst (λi=>S i\/(X.next<=i/\i<Y.next)) Y u (sr T k (due P)).b/\(∀ r x,Vg r x->V' r x)/\∀ N∈fol T k (due P),∀ i,i<k->V' (T.C.length-k+i) (N.getD i [])
theorem f88_0 {T : Tb} {c f s : Value} {A : Heap} {p : Pl} (G : Geo T c f s A p) {r : Nat} {P : List (List Int)} {X : Heap} {S : Nat->Prop} {Vg : Nat->List Int->Prop} (hr : r=T.C.length) (hl : P.length<=T.C.length) (hP : ∀ i,i<P.length->P.getD i []∈cho T i (cols T) []) (h : Stt T c f s A p X S Vg) :
  F Try.prog 88 ⟨[.agg ⟨I r::Q4 (due P)⟩,PT p.pb,PT p.pk,PT p.pf,PT p.ps]⟩ X (Out T c f s A p 0 P X S Vg):=by
 have hcl:=G.hA.t.c.len
 have hd:=due_P G.hf G.hv hl hP
 have nX:=h.nX
 have hC2:=λi=>due_bd (C:=T.C) (λr hr v hv'=>by have:=(G.hv.2.2.1 r hr).2 v hv';omega) i
 have h5:=G.hf.1
 have hb:=G.bs
 refine F.entryL rfl dg88 do88 de88 rfl (by kernel_rfl) ?_
 simp only[sets]
 refine V.re [(0,.agg ⟨I r::Q4 (due P)⟩),(1,PT p.pb),(2,PT p.pk),(3,PT p.pf),(4,PT p.ps)] (N:=72) zE zY ?_
 intro t hF hA
 simp only[Kn,and_true] at hA
 refine zS ?_
 refine V.l0 ?_
 refine V.heap (λY=>Grow X Y/\Bx Y X.next (I r::Q4 (due P)) 127/\Bx Y (X.next+1) [I 0,I 0,.slice none 0 0] 94) ⟨?_,?_,?_⟩ ?_
 ·exact zW
 ·exact zB
 ·exact zB
 rintro X1 ⟨g1,b1,c1⟩
 have st1 : Stt T c f s A p X1 S Vg:=h.keep G (g1.s (U:=λ_=>False)) (λ_ hh=>hh.elim) (λ_=>id) (λi hi=>⟨Nat.lt_of_lt_of_le (h.hS i hi).1 g1.1,(h.hS i hi).2⟩)
 have kb1:=st1.kb.2
 refine zS ?_
 have zf:=aI b1.2<|aI @kb1<|@hcl
 refine V.lz ?_
 refine zS ?_
 refine V.condP zP (λh1=>?_) (λh1=>?_)
 ·refine zS ?_
  refine V.run ?_
  have zf:=aI @kb1<|b1.2
  refine VI.sz 2 ?_
  simp only[ds]
  refine VI.callA rfl (f89_ok (r:=r) (d:=due T.C) (g:=due P) (G.hA.grow st1.gA) G.hv.1 (λi=>by have:=hC2 i;have : (T.C.length : Int)*20000<=5*20000:=Int.mul_le_mul_of_nonneg_right (by omega) (by decide);omega) (λi=>by have:=hd i;omega)) zA (λH2 g2=>?_)
  have c2:=c1.grow g2
  have zf:=c2.2
  refine VI.lz ?_
  have n1:=c1.1
  have n2:=g2.1
  refine V.heap (λY=>Grow X Y/\Bx Y (X.next+1) [I (if als T.b (due P) (due T.C) then 1 else 0),I 0,.slice none 0 0] 94) ⟨?_,?_⟩ ?_
  ·exact (g1.trans g2).set (by omega) _
  ·exact⟨by simp only[Heap.next_set];omega,cells_set _ _ _ _ _⟩
  rintro Y ⟨gY,cY⟩
  refine zS ?_
  refine V.ret (V.rets rfl (Lv.retF (by simp +contextual (disch:=first|omega|simp only[nx];omega) only[D1,cells_alloc_at,cells_alloc_ne,cells_set_at,cells_set_ne,yres,yres1,yresL,qA,qB,qC,D5,hF,hA,↓reduceIte,qD,qE,cY.2];rfl) ?_))
  have e0 : sr T 0 (due P)=⟨if als T.b (due P) (due T.C) then 1 else 0,0,[]⟩:=by
   unfold sr fol
   by_cases ha : als T.b (due P) (due T.C)
   ·rw[if_pos ha,if_pos ha]
    have : fco T 0 []=0:=by unfold fco;exact chg_nil _
    simp only[rsf,cmb,this,if_true]
   ·rw[if_neg ha,if_neg ha];rfl
  have hY : ∀ i,(S i\/(X.next<=i/\i<Y.next))->i<Y.next/\¬ Us T p i:=by
   rintro i (hi|⟨q1,q2⟩)
   ·exact⟨Nat.lt_of_lt_of_le (h.hS i hi).1 gY.1,(h.hS i hi).2⟩
   ·exact⟨q2,λhu=>by have:=(G.us i hu).2;omega⟩
  refine⟨gY.s,.slice none 0 0,Vg,?_,h.keep G (gY.s (U:=λ_=>False)) (λ_ hh=>hh.elim) (λ_=>.inl) hY,?_,λ_ _=>id,λN hN i hi=>by omega⟩
  ·rw[e0]
   by_cases ha : als T.b (due P) (due T.C)
   ·rw[if_pos ha,if_pos ha];rfl
   ·rw[if_neg ha,if_neg ha];rfl
  ·rw[e0];exact .nil _ _
 ·exfalso;omega
end Go.Xe.TRX
end
