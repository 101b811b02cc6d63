/- What the functions of the layer round come to: what a row can become, as an iterator. Conditions: none. -/
import Derived.Test.YtimnlnfpblomnaaTTA
noncomputable section
namespace Go.Xe.TRX
open Go Go.Xe Go.Proofs
open Nat renaming reduceLeDiff ->qA, reduceSub ->qB, reduceAdd ->qC, reduceEqDiff ->qD, reduceLT ->qE
open Int renaming reduceNegSucc ->qF, reduceEq ->qG
open Go.Xe.V renaming seq ->sA, block ->sB, scope ->sC, skip ->sD, close ->sE
open Go.Xe renaming pth ->P
open Go.Xe.Rnd
set_option maxRecDepth 100000
set_option maxHeartbeats 1600000
set_option linter.unusedSimpArgs false
def d90 : FCode:=(.seq (.run (.go (.box 89 (tm 0)) (P 2)::
.go (.box 3 (tm 1)) (P 3)::
.go (.move (.con .nilFunc)) (P 4)::
[])) (.seq (.run (.go (.makeFunc 94 [] [(tm 2),(tm 3)]) (P 5)::
.go (.move (tm 5)) (P 4)::
[])) .ret))
theorem de90 : @compF Try.prog (Gl.none Try.prog) Try.f90 2=.mk d90 (mkTT 6) [(P 0),(P 1)] [.tmp (P 4)]:=by kernel_rfl
theorem dg90 : Try.prog.funcs[90]?=some Try.f90:=Try.func90
theorem do90 : okF Try.prog Try.f90=true:=by kernel_rfl
def d94 : FCode:=(.seq (.run (.go (.box 104 (tm 0)) (P 3)::
[])) (.seq (.run (.go (.alloc 104 [.nilFunc]) (P 4)::
[])) (.seq (.run (.go (.makeFunc 95 [] [(tm 1),(tm 2),(tm 3),(tm 4)]) (P 5)::
.un (.store 1 (tm 4) (tm 5))::
[])) (.run (.go (.load1 (tm 4)) (P 6)::
.go (.call (tm 6) [(.con (.slice none 0 0))]) (P 7)::
[])))))
theorem de94 : @compF Try.prog (Gl.none Try.prog) Try.f94 3=.mk d94 (mkTT 8) [(P 0),(P 1),(P 2)] []:=by kernel_rfl
theorem dg94 : Try.prog.funcs[94]?=some Try.f94:=Try.func94
theorem do94 : okF Try.prog Try.f94=true:=by kernel_rfl
theorem f90_ok {H : Heap} {c f s : Value} {T : Tb} {d : Nat->Int} {r : Int} (h : BV H c f s T) : F Try.prog 90 ⟨[.agg ⟨bl T.b c f s d⟩,I r]⟩ H (λv X=>Grow H X/\∃ pb pr,v=.func (.func 94) ⟨[]⟩ ⟨[PT pb,PT pr]⟩/\H.next<=pb/\H.next<=pr/\Bx X pb (bl T.b c f s d) 89/\Bx X pr [I r] 3):=by
 obtain⟨pc,nc,cc,ec⟩:=h.t.c.isS
 obtain⟨pf,nf,cf,ef⟩:=h.t.f.isS
 obtain⟨ps,ns,cs,es⟩:=h.s.isS
 subst ec;subst ef;subst es
 refine F.entryL rfl dg90 do90 de90 rfl (by kernel_rfl) ?_
 simp only[sets]
 refine V.re [(0,.agg ⟨bl T.b (.slice pc nc cc) (.slice pf nf cf) (.slice ps ns cs) d⟩),(1,I r)] (N:=6) zE zY ?_
 intro t hF hA
 simp only[Kn,and_true] at hA
 refine zS ?_
 refine V.l0 ?_
 refine V.heap (λX=>Grow H X/\Bx X H.next (bl T.b (.slice pc nc cc) (.slice pf nf cf) (.slice ps ns cs) d) 89/\Bx X (H.next+1) [I r] 3) ⟨?_,?_,?_⟩ ?_
 ·exact zW
 ·exact zB
 ·exact zB
 rintro H1 ⟨g1,b1,c1⟩
 refine zS ?_
 refine V.l0 ?_
 refine zS ?_
 refine V.ret (V.rets rfl (Lv.retF (by simp +contextual (disch:=first|omega|simp only[nx];omega) only[D1,cells_alloc_at,cells_alloc_ne,cells_set_at,cells_set_ne,yres,yres1,yresL,qA,qB,qC,D5,hF,hA,↓reduceIte,qD,qE];rfl) ?_))
 exact⟨g1,_,_,rfl,Nat.le_refl _,by omega,b1,c1⟩
def okI (L : List (List Int)) (n0 k : Nat) (W : Nat->Prop) (X : Heap) (l : List Value) : Prop:=∃ v G,l=[v]/\n0<=G/\(∀ i,W i->i<G)/\∃ Y : Heap,Y.next=G/\Ow Y X 3 v (Li (L.getD k []))
theorem f94_iter {A H0 : Heap} {c f s : Value} {T : Tb} {d : Nat->Int} {r pb pr : Nat} (h : BV A c f s T) (gA : Grow A H0) (kb : Bx H0 pb (bl T.b c f s d) 89) (kr : Bx H0 pr [I r] 3) (hr : r<T.C.length) (hf : fits T) (hv : valid T) :
  IterW Try.prog 94 [] [PT pb,PT pr] (λi=>i<A.next\/i=pb\/i=pr) H0 (cho T r (cols T) []).length (okI (cho T r (cols T) [])):=by
 intro j U I' H hn hU hD stab body h0
 obtain⟨kb1,kb2,kb3⟩:=hD pb (.inr (.inl rfl))
 obtain⟨kr1,kr2,kr3⟩:=hD pr (.inr (.inr rfl))
 have kbH : Bx H pb (bl T.b c f s d) 89:=⟨by omega,by have:=kb.2;unfold Heap.cellsAt at this ⊢;rw[kb3];exact this⟩
 have krH : Bx H pr [I r] 3:=⟨by omega,by have:=kr.2;unfold Heap.cellsAt at this ⊢;rw[kr3];exact this⟩
 have gH : Grow A H:=⟨by have:=gA.1;omega,λi hi=>by rw[(hD i (.inl hi)).2.2,gA.2 i hi]⟩
 show F Try.prog 94 ⟨[.func (.yield j) ⟨[]⟩ ⟨[]⟩,PT pb,PT pr]⟩ H _
 refine F.entryL rfl dg94 do94 de94 rfl (by kernel_rfl) ?_
 simp only[sets]
 refine V.re [(0,.func (.yield j) ⟨[]⟩ ⟨[]⟩),(1,PT pb),(2,PT pr)] (N:=8) zE zY ?_
 intro t hF hA
 simp only[Kn,and_true] at hA
 refine zS ?_
 refine V.l0 ?_
 refine V.heap (λX=>Grow H X/\Bx X H.next [.func (.yield j) ⟨[]⟩ ⟨[]⟩] 104) ⟨?_,?_⟩ ?_
 ·exact zW
 ·exact zB
 rintro H1 ⟨g1,b1⟩
 refine zS ?_
 refine V.l0 ?_
 refine V.heap (λX=>Grow H X/\Bx X H.next [.func (.yield j) ⟨[]⟩ ⟨[]⟩] 104/\Bx X H1.next [.nilFunc] 104) ⟨?_,?_,?_⟩ ?_
 ·exact g1.alloc _
 ·exact b1.alloc _
 ·exact zB
 rintro H2 ⟨g2,b2,c2⟩
 have n1:=b1.1
 have n2:=c2.1
 refine zS ?_
 have zf:=c2.2
 refine V.lz ?_
 refine V.heap (λX=>Grow H X/\Bx X H.next [.func (.yield j) ⟨[]⟩ ⟨[]⟩] 104/\Bx X H1.next [.func (.func 95) ⟨[]⟩ ⟨[PT pb,PT pr,PT H.next,PT H1.next]⟩] 104) ⟨?_,?_,?_⟩ ?_
 ·exact g2.set (by omega) _
 ·exact⟨b2.1,(cells_set_ne _ _ (by omega)).trans b2.2⟩
 ·exact⟨c2.1,cells_set _ _ _ _ _⟩
 rintro X0 ⟨g3,b3,c3⟩
 have nX:=c3.1
 have gU : GrowS U H X0:=g3.s
 have ctx : Ctx T r c f s (.func (.yield j) ⟨[]⟩ ⟨[]⟩) d U I' X0 pb pr H.next H1.next:=by
  refine⟨h.grow (gH.trans g3),hv.1,hr,hf,hv,kbH.grow g3,krH.grow g3,b3,c3,λi hi=>by have:=hU i hi;omega,?_,?_,?_,?_,?_⟩
  ·intro k W W' X X' hI hW g w1 w2
   exact stab k W W' X X' hI (λi hi=>by have:=hW i hi;omega) g w1 w2
  ·rintro k W X l hk hI hW hg ⟨v,G,rfl,q1,q2,q3⟩
   exact body k W X [v] hk hI (λi hi=>by have:=hW i hi;omega) (gU.trans hg) ⟨v,G,rfl,by omega,q2,q3⟩
  ·intro X g
   refine h.grow ⟨by have:=gH.1;have:=g.1;omega,λi hi=>?_⟩
   obtain⟨q1,q2,q3⟩:=hD i (.inl hi)
   rw[g.2 i (by omega) q2,g3.2 i (by omega),gH.2 i hi]
  ·simp[vEq,vEq0,all2]
  ·exact⟨kb2,kr2,λhh=>by have:=hU _ hh;omega,λhh=>by have:=hU _ hh;omega⟩
 have hI0 : I' 0 (λ_=>False) X0:=stab 0 _ _ H X0 h0 (λ_ hh=>hh.elim) g3.s (λ_ hh=>hh) (λ_ hh=>hh.elim)
 have f95':=f95_ok ctx (k:=cols T) (l:=[]) (X:=X0) (W:=λ_=>False) (p:=0) (v:=.slice none 0 0) (by simp) hI0 (λ_ hh=>hh.elim) (.refl _) (.inl ⟨rfl,rfl⟩) (λ_ hx=>by simp at hx) ⟨[],[],by simp,rfl⟩
 have fvc:=FV.fn (P:=Try.prog) (g:=95) (a:=[]) (b:=[PT pb,PT pr,PT H.next,PT H1.next]) (l:=[Value.slice none 0 0]) f95'
 refine zS ?_
 refine V.run ?_
 have zf:=c3.2
 refine VI.sz 1 ?_
 simp only[ds]
 refine VI.callV zA fvc ?_
 rintro w X ⟨rfl,W',_,w2,w3,w4,_⟩
 refine VI.l0 ?_
 refine zS ?_
 refine V.nil (Lv.normal rfl ?_)
 refine⟨gU.trans (w3.mono λi hi=>hi.elim id (λhh=>hh.1.elim)),W',λi hi=>?_,by simpa using w4⟩
 have:=(w2 i hi).1
 rcases this with hh|hh
 ·exact hh.elim
 ·omega
end Go.Xe.TRX
-- MOD TR
namespace Go.Xe.TRX
open Go Go.Xe Go.Proofs
open Nat renaming reduceLeDiff ->qA, reduceSub ->qB, reduceAdd ->qC, reduceEqDiff ->qD, reduceLT ->qE
open Int renaming reduceNegSucc ->qF, reduceEq ->qG
open Go.Xe.V renaming seq ->sA, block ->sB, scope ->sC, skip ->sD, close ->sE
open Go.Xe renaming pth ->P
open Go.Xe.Rnd
set_option maxRecDepth 100000
set_option maxHeartbeats 1600000
set_option linter.unusedSimpArgs false
def d87 : FCode:=(.seq (.run (.go (.box 89 (tm 0)) (P 1)::
.go (.move (.con (.slice none 0 0))) (P 2)::
[])) (.seq (.run (.go (.move (.con (.slice none 0 0))) (P 3)::
[])) (.seq (.seq (.run (.go (.fieldAddr 0 (tm 1)) (P 9)::
.go (.fieldAddr 1 (tm 9)) (P 10)::
.go (.load1 (tm 10)) (P 11)::
.go (.len 0 (tm 11)) (P 12)::
.go (.move (.con (.int .i64 (.ofNat 0)))) (P 13)::
[])) (.block 0 (.loop (.seq (.run (.go (.bin .lss 3 (tm 13) (tm 12)) (P 14)::
[])) (.seq (.cond (tm 14) .skip (.exit 0)) (.seq (.block 1 (.seq (.run (.go (.indexAddr none 1 (tm 11) (tm 13)) (P 15)::
.go (.load1 (tm 15)) (P 16)::
.go (.move (tm 16)) (P 5)::
[])) (.seq (.run (.go (.move (.con (.slice none 0 0))) (P 6)::
[])) (.seq (.seq (.run (.go (.move (tm 5)) (P 17)::
.go (.len 0 (tm 17)) (P 18)::
.go (.move (.con (.int .i64 (.ofNat 0)))) (P 19)::
[])) (.block 2 (.loop (.seq (.run (.go (.bin .lss 3 (tm 19) (tm 18)) (P 20)::
[])) (.seq (.cond (tm 20) .skip (.exit 2)) (.seq (.block 3 (.seq (.run (.go (.indexAddr none 1 (tm 17) (tm 19)) (P 21)::
.go (.load1 (tm 21)) (P 22)::
.go (.move (tm 22)) (P 8)::
[])) (.draw 13 (.go (.move (tm 6)) (P 23)::
.go (.fieldAddr 0 (tm 1)) (P 24)::
.go (.loadN 3 (tm 24)) (P 25)::
.go (.move (tm 8)) (P 26)::
.go (.call (.con (.func (.func 83) ⟨[]⟩ ⟨[]⟩)) [(tm 25),(tm 26)]) (P 27)::
.go (.fieldAddr 0 (tm 1)) (P 28)::
.go (.loadN 3 (tm 28)) (P 29)::
.go (.move (tm 8)) (P 30)::
.go (.call (.con (.func (.func 82) ⟨[]⟩ ⟨[]⟩)) [(tm 29),(tm 30)]) (P 31)::
.go (.build [(.int .i64 (.ofNat 0)),(.int .i64 (.ofNat 0))] [(0,1,(tm 27)),(1,1,(tm 31))]) (P 32)::
.go (.buildSlice 59 1 [(.int .i64 (.ofNat 0)),(.int .i64 (.ofNat 0))] [(0,2,(tm 32))]) (P 33)::
.go (.append 59 2 16 (tm 23) (tm 33)) (P 34)::
.go (.move (tm 34)) (P 6)::
[]) [.ok,.ok,.ok,.ok,.ok,.ok,.rd none (.loadN 3 (tm 28)) (some (P 29)) [0],.ok,.ok,.ok,.ok,.ok,.ok]))) (.run (.go (.bin .add 3 (tm 19) (.con (.int .i64 (.ofNat 1)))) (P 35)::
.go (.move (tm 35)) (P 19)::
[])))))))) (.run (.go (.move (tm 3)) (P 36)::
.go (.move (tm 6)) (P 37)::
.go (.buildSlice 56 1 [(.slice none 0 0)] [(0,1,(tm 37))]) (P 38)::
.go (.append 56 1 24 (tm 36) (tm 38)) (P 39)::
.go (.move (tm 39)) (P 3)::
[])))))) (.run (.go (.bin .add 3 (tm 13) (.con (.int .i64 (.ofNat 1)))) (P 40)::
.go (.move (tm 40)) (P 13)::
[])))))))) (.seq (.run (.go (.move (tm 3)) (P 41)::
.go (.move (tm 41)) (P 2)::
[])) .ret))))
theorem de87 : @compF Try.prog (Gl.none Try.prog) Try.f87 1=.mk d87 (mkTT 42) [(P 0)] [.tmp (P 2)]:=by kernel_rfl
theorem dg87 : Try.prog.funcs[87]?=some Try.f87:=Try.func87
theorem do87 : okF Try.prog Try.f87=true:=by kernel_rfl
def ecs (b : Int) (l : List Int) : List Value:=(l.map λn=>A2 (hi b n) (lo b n)).flatten
theorem ecs_len (b : Int) (l : List Int) : (ecs b l).length=l.length*2:=by
 unfold ecs
 rw[flat_len (w:=2) (λx hx=>by obtain⟨n,_,rfl⟩:=List.mem_map.1 hx;rfl),List.length_map]
theorem ecs_take {b : Int} {l : List Int} {k : Nat} (h : k<l.length) : ecs b (l.take (k+1))=ecs b (l.take k)++A2 (hi b l[k]) (lo b l[k]):=by
 unfold ecs
 rw[tk1 h,List.map_append,List.flatten_append];rfl
theorem tk1n {l : List (List Int)} {k : Nat} (h : k<l.length) : l.take (k+1)=l.take k++[l[k]]:=List.take_succ_eq_append_getElem h
def ecl (b : Int) (l : List Int) : Nat×List Value:=(l.length,ecs b l)
theorem f87_ok {H : Heap} {c f s : Value} {T : Tb} {d : Nat->Int} (h : BV H c f s T) (hf : fits T) (hv : valid T) : F Try.prog 87 ⟨[.agg ⟨bl T.b c f s d⟩]⟩ H (λw X=>Grow H X/\∃ n0 col vs,H.next<=n0/\Oc n0 col 0 X 56 w T.C.length vs/\Rws n0 col (λk=>k+1) X 59 vs (T.C.map (ecl T.b))):=by
 obtain⟨pc,nc,cc,ec⟩:=h.t.c.isS
 obtain⟨pf,nf,cf,ef⟩:=h.t.f.isS
 obtain⟨ps,ns,cs,es⟩:=h.s.isS
 subst ec;subst ef;subst es
 have hcl:=h.t.c.len
 have hb:=hv.1
 have hC5:=hf.1
 refine F.entryL rfl dg87 do87 de87 rfl (by kernel_rfl) ?_
 simp only[sets]
 refine V.re [(0,.agg ⟨bl T.b (.slice pc nc cc) (.slice pf nf cf) (.slice ps ns cs) d⟩)] (N:=42) zE zY ?_
 intro t hF hA
 simp only[Kn,and_true] at hA
 refine zS ?_
 refine V.l0 ?_
 refine V.heap (λX=>Grow H X/\Bx X H.next (bl T.b (.slice pc nc cc) (.slice pf nf cf) (.slice ps ns cs) d) 89) ⟨?_,?_⟩ ?_
 ·exact zW
 ·exact zB
 rintro H1 ⟨g1,b1⟩
 have nb:=b1.1
 refine zS ?_
 refine V.l0 ?_
 refine zS ?_
 have zf:=aI b1.2<|@hcl
 refine V.lz ?_
 refine zS ?_
 refine V.loop (λz t m X=>∃ (r : Nat) (col : Nat->Nat) (vo : Value) (vs : List Value),r<=T.C.length/\z=T.C.length-r/\m=[]/\Grow H1 X/\Oc H1.next col 0 X 56 vo r vs/\Rws H1.next col (λk=>k+1) X 59 vs ((T.C.take r).map (ecl T.b))/\Full 42 t/\Kn [(1,PT H.next),(3,vo),(11,.slice pc nc cc),(12,I T.C.length),(13,I r)] t) T.C.length ?_ ?_
 ·exact⟨0,λ_=>0,.slice none 0 0,[],by omega,by omega,rfl,.refl _,.nil,⟨by simp,λk x r hx=>by simp at hx⟩,zF,zK⟩
 clear hF hA
 rintro z t m X ⟨r,col,vo,vs,hr,rfl,rfl,hg,oo,rw0,hF,hA⟩
 simp only[Kn,and_true] at hA
 refine zS ?_
 refine V.l0 ?_
 refine zS ?_
 refine V.condP zP (λhlt=>?_) (λhlt=>?_)
 ·have hr' : r<T.C.length:=by omega
  obtain⟨q,u,hq,hu⟩:=h.t.c.at ri hr'
  have hqk:=hq .i64
  have hrow:=hv.2.2.1 _ (List.getElem_mem hr')
  have hl4:=hf.2.2 _ (List.getElem_mem hr')
  obtain⟨l,hl⟩ : ∃ l,l=T.C[r]:=⟨_,rfl⟩
  rw[<- hl] at hu hl4 hrow
  obtain⟨hu1,hu2⟩:=hu X (g1.trans hg)
  obtain⟨pu,nu,cu,rfl⟩:=hu2.isS
  have hul:=hu2.len
  have hvl : vs.length=r:=by rw[rw0.1,List.length_map,List.length_take];omega
  refine zS ?_
  have zf:=aI @hqk<|@hu1
  refine V.lz ?_
  refine zS ?_
  refine V.l0 ?_
  refine zS ?_
  have zf:=@hul
  refine V.lz ?_
  refine zS ?_
  refine V.loop (λz t m Y=>∃ (k : Nat) (col1 : Nat->Nat) (vi : Value),k<=l.length/\z=l.length-k/\m=[]/\Grow H1 Y/\Oc H1.next col1 0 Y 56 vo r vs/\Rws H1.next col1 (λk=>k+1) Y 59 vs ((T.C.take r).map (ecl T.b))/\Oc H1.next col1 (r+1) Y 59 vi k (ecs T.b (l.take k))/\Full 42 t/\Kn [(1,PT H.next),(3,vo),(6,vi),(11,.slice pc nc cc),(12,I T.C.length),(13,I r),(17,.slice pu nu cu),(18,I l.length),(19,I k)] t) l.length ?_ ?_
  ·exact⟨0,col,.slice none 0 0,by omega,by omega,rfl,hg,oo,rw0,.nil,zF,zK⟩
  clear hF hA
  rintro z t m Y ⟨k,col1,vi,hk,rfl,rfl,hgY,oo1,rw1,oi1,hF,hA⟩
  simp only[Kn,and_true] at hA
  refine zS ?_
  refine V.l0 ?_
  refine zS ?_
  refine V.condP zP (λhlk=>?_) (λhlk=>?_)
  ·have hk' : k<l.length:=by omega
   obtain⟨p,hp,hx⟩:=(hu Y (g1.trans hgY)).2.at hk'
   have hx1:=hx Y (.refl _)
   have hnk:=hrow.2 _ (List.getElem_mem hk')
   have bY:=b1.grow hgY
   obtain⟨pi,ni,ki,ei⟩:=oi1.slice
   subst ei
   refine zS ?_
   have zf:=aI @hp<|@hx1
   refine V.lz ?_
   refine zS ?_
   refine V.draw ?_
   have zf:=bY.2
   refine VD.nz 4 ?_
   simp only[ds]
   refine VD.callA zA (f83_ok (n:=l[k]) (c:=.slice pc nc cc) (f:=.slice pf nf cf) hb (by omega)) zA (λH2 g2=>?_)
   have b2:=bY.grow g2
   have zf:=b2.2
   refine VD.nz 3 ?_
   simp only[ds]
   refine VD.callA zA (f82_ok (n:=l[k]) (c:=.slice pc nc cc) (f:=.slice pf nf cf) hb (by omega)) zA (λH3 g3=>?_)
   have b3:=b2.grow g3
   have g23:=g2.trans g3
   have m2:=g2.1
   have m3:=g3.1
   have mY:=hgY.1
   have oi3:=oi1.grow g23
   obtain⟨u,Z,e1,o1,s1,k1,n1,c1,pz,rfl,epz⟩:=Oc.push (w:=2) (bytes:=16) (x:=A2 (hi T.b l[k]) (lo T.b l[k])) (by decide) oi3 (by omega) (by rw[ecs_len,List.length_take];omega) rfl rfl (by omega) (by omega)
   have zf:=@e1
   refine VD.dz ?_ ?_ rfl ?_
   ·exact zM
   ·simp only[dcAll,dcOk,wantD,List.cons_append,List.nil_append,true_and,and_true]
    have zf:=aI bY.2<|aI b2.2<|b3.2
    exact zR
   refine zS ?_
   refine V.l0 ?_
   refine V.nil (Or.inl ⟨rfl,l.length-(k+1),by omega,?_⟩)
   rw[<- ecs_take hk'] at o1
   refine⟨k+1,_,_,by omega,by omega,rfl,?_,?_,?_,o1,zF,zK⟩
   ·exact s1.keepG (hgY.trans g23) (Nat.le_refl _)
   ·exact (oo1.grow g23).st s1 (by omega)
   ·refine (rw1.grow g23).st s1 (λj hj=>?_)
    rw[List.length_map,List.length_take] at hj
    omega
  ·obtain rfl : k=l.length:=by omega
   rw[List.take_length] at oi1
   refine V.exit ?_
   refine zX ?_
   refine V.nil (Or.inr ⟨by simp,?_⟩)
   refine zX ?_
   obtain⟨pi,ni,ki,ei⟩:=oi1.slice
   subst ei
   have mY:=hgY.1
   obtain⟨u2,Z,e1,o1,s1,k1,n1,c1,pz,rfl,epz⟩:=Oc.push (w:=1) (bytes:=24) (x:=[.slice pi ni ki]) (by decide) oo1 (by omega) (by rw[hvl];omega) rfl rfl (by omega) (by omega)
   refine zS ?_
   have zf:=@e1
   refine V.lz ?_
   refine zS ?_
   refine V.l0 ?_
   refine V.nil (Or.inl ⟨rfl,T.C.length-(r+1),by omega,?_⟩)
   refine⟨r+1,_,_,_,by omega,by omega,rfl,s1.keepG hgY (Nat.le_refl _),o1,?_,zF,zK⟩
   have e2 : T.C.take (r+1)=T.C.take r++[l]:=by rw[hl];exact tk1n hr'
   rw[e2,List.map_append,List.map_cons,List.map_nil]
   have hlr : ((T.C.take r).map (ecl T.b)).length=r:=by rw[List.length_map,List.length_take];omega
   refine (rw1.st s1 (λj hj=>by omega)).push ?_
   rw[hlr]
   exact oi1.st s1 (by omega)
 ·obtain rfl : r=T.C.length:=by omega
  rw[List.take_length] at rw0
  refine V.exit ?_
  refine zX ?_
  refine V.nil (Or.inr ⟨by simp,?_⟩)
  refine zX ?_
  obtain⟨po,no,ko,eo⟩:=oo.slice
  subst eo
  refine zS ?_
  refine V.l0 ?_
  refine zS ?_
  refine V.ret (V.rets rfl (Lv.retF (by simp +contextual (disch:=first|omega|simp only[nx];omega) only[D1,cells_alloc_at,cells_alloc_ne,cells_set_at,cells_set_ne,yres,yres1,yresL,qA,qB,qC,D5,hF,hA,↓reduceIte,qD,qE];rfl) ?_))
  exact⟨g1.trans hg,H1.next,col,vs,by omega,oo,rw0⟩
abbrev K5:=Int×Int×Int×Int×Int
def kS (x : K5) : Value:=.agg ⟨[I x.1,I x.2.1,I x.2.2.1,I x.2.2.2.1,I x.2.2.2.2]⟩
def keyS (r : Nat) (g : Nat->Int) : K5:=((r : Int),g 0,g 1,g 2,g 3)
theorem kS_key (r : Nat) (g : Nat->Int) : kS (keyS r g)=.agg ⟨I r::Q4 g⟩:=rfl
def okS (x : K5) : Prop:=(-1000000000<=x.1/\x.1<=1000000000)/\(-1000000000<=x.2.1/\x.2.1<=1000000000)/\(-1000000000<=x.2.2.1/\x.2.2.1<=1000000000)/\(-1000000000<=x.2.2.2.1/\x.2.2.2.1<=1000000000)/\(-1000000000<=x.2.2.2.2/\x.2.2.2.2<=1000000000)
theorem kS_ok {x : K5} (h : okS x) : (keyOf Try.prog 127 (kS x)).isSome=true:=by
 obtain⟨a,b,c,d,e⟩:=x
 obtain⟨⟨a1,a2⟩,⟨b1,b2⟩,⟨c1,c2⟩,⟨d1,d2⟩,e1,e2⟩:=h
 have ha : (Lit.int .i64 a).wf=true:=wf_k a1 a2
 have hb : (Lit.int .i64 b).wf=true:=wf_k b1 b2
 have hc : (Lit.int .i64 c).wf=true:=wf_k c1 c2
 have hd : (Lit.int .i64 d).wf=true:=wf_k d1 d2
 have he : (Lit.int .i64 e).wf=true:=wf_k e1 e2
 have c3 : Try.prog.cellsOf 3=1:=by kernel_rfl
 have c87 : Try.prog.cellsOf 87=4:=by kernel_rfl
 have c127 : Try.prog.cellsOf 127=5:=by kernel_rfl
 have h5 : (Program.keyType Try.prog 127 && (Value.agg ⟨[I a,I b,I c,I d,I e]⟩).formed Try.prog 127)=true:=by kernel_rfl
 obtain⟨n,hn⟩ : ∃ n,Try.prog.types.size+1=n+3:=⟨Try.prog.types.size-2,by have : 3<=Try.prog.types.size:=Nat.le_of_ble_eq_true (by kernel_rfl);omega⟩
 have h87 : Try.prog.keyLits (n+2) 87 [I b,I c,I d,I e]=some [.int .i64 b,.int .i64 c,.int .i64 d,.int .i64 e]:=by
  unfold Program.keyLits
  simp only[Try.underlying87,c87]
  rw[if_pos (show [I b,I c,I d,I e].length=4 from rfl)]
  simp[c3,List.range,List.range.loop,kl_int hb,kl_int hc,kl_int hd,kl_int he]
 unfold keyOf kS
 simp only[Try.underlying127]
 rw[if_pos h5,hn]
 unfold Program.keyLits
 simp only[Try.underlying127,c127]
 have e : (Value.agg ⟨[I a,I b,I c,I d,I e]⟩).cells.toList=[I a,I b,I c,I d,I e]:=rfl
 rw[e,if_pos ⟨rfl,by simp⟩]
 simp[c3,c87,kl_int ha,h87]
theorem kS_keys : KeyOk Try.prog 127 kS okS where
 keyed:=by kernel_rfl
 keyish _:=rfl
 keyOf _ h:=kS_ok h
 eq x y:=by
  obtain⟨a1,a2,a3,a4,a5⟩:=x
  obtain⟨b1,b2,b3,b4,b5⟩:=y
  simp[kS,valEq,cellsEq,cellEq]
theorem MpF.look2 {α : Type} [DecidableEq α] {P : Program} {H : Heap} {i : Nat} {kt : TypeId} {ke : α->Value} {D : α->Prop} {f : α->Option Value} (hk : KeyOk P kt ke D) (h : MpF H i kt ke f) {a : α} (ha : D a) (z : Value) : ylookup P kt z H (.map (some i)) (ke a) true=some (match f a with|some v=>.tuple ⟨[v,.bool true]⟩|none=>.tuple ⟨[z,.bool false]⟩):=by
 obtain⟨es,⟨h1,clk,h2⟩,h3,h4⟩:=h
 rw[<- h4 a]
 rcases xfind_look (k:=ke a) es 0 with⟨k1,k2⟩|⟨x,e,k1,k2,k3⟩
 ·rw[k2]
  exact look_miss h2 hk.keyed (hk.keyish a) (hk.keyOf a ha) k1
 ·rw[k3]
  exact look_hit h2 hk.keyed (hk.keyish a) (hk.keyOf a ha) k1 (by rw[Nat.zero_add];simpa using k2)
theorem als_congr {b : Int} {g g' d : Nat->Int} (h : ∀ i,i<4->g i=g' i) : als b g d↔als b g' d:=by
 unfold als l4
 rw[h 0 (by omega),h 1 (by omega),h 2 (by omega),h 3 (by omega)]
 constructor
 ·rintro⟨h1,h2⟩
  exact⟨λi hi=>by rw[<- h i hi];exact h1 i hi,h2⟩
 ·rintro⟨h1,h2⟩
  exact⟨λi hi=>by rw[h i hi];exact h1 i hi,h2⟩
theorem fol_congr {T : Tb} : ∀ {k : Nat} {g g' : Nat->Int},(∀ i,i<4->g i=g' i)->fol T k g=fol T k g'
 | 0,g,g',h=>by
  unfold fol
  by_cases ha : als T.b g (due T.C)
  ·rw[if_pos ha,if_pos ((als_congr h).1 ha)]
  ·rw[if_neg ha,if_neg (λhh=>ha ((als_congr h).2 hh))]
 | k+1,g,g',h=>by
  unfold fol
  congr 1
  funext x
  rw[fol_congr (k:=k) (g:=pl g x) (g':=pl g' x) (λi hi=>by unfold pl;rw[h i hi])]
theorem nbs_len (b n : Int) : (nbs b n).length<=2:=by unfold nbs cp;split<;>simp
theorem flatMap_le {α β : Type} {f : α->List β} {B : Nat} : ∀ {l : List α},(∀ a∈l,(f a).length<=B)->(l.flatMap f).length<=l.length*B
 | [],_=>by simp
 | a::l,h=>by
  have h1:=h a (by simp)
  have h2:=flatMap_le (l:=l) (λx hx=>h x (by simp[hx]))
  rw[List.flatMap_cons,List.length_append,List.length_cons,Nat.succ_mul]
  omega
theorem cho_len {T : Tb} {r : Nat} : ∀ {k : Nat} {l : List Int},(cho T r k l).length<=2 ^ k
 | 0,l=>by unfold cho;split<;>simp
 | k+1,l=>by
  have h:=flatMap_le (l:=nbs T.b ((T.C.getD r []).getD l.length 0)) (f:=λn=>cho T r k (l++[n])) (B:=2 ^ k) (λn _=>cho_len)
  have h2:=Nat.mul_le_mul_right (2 ^ k) (nbs_len T.b ((T.C.getD r []).getD l.length 0))
  show ((nbs T.b ((T.C.getD r []).getD l.length 0)).flatMap (λn=>cho T r k (l++[n]))).length<=_
  rw[Nat.pow_succ]
  omega
theorem fol_len {T : Tb} (hc : cols T<=4) : ∀ {k : Nat} {g : Nat->Int},(fol T k g).length<=16 ^ k
 | 0,g=>by unfold fol;split<;>simp
 | k+1,g=>by
  have h:=flatMap_le (l:=cho T (T.C.length-(k+1)) (cols T) []) (f:=λx=>(fol T k (pl g x)).map (x::·)) (B:=16 ^ k) (λn _=>by rw[List.length_map];exact fol_len hc)
  have h1 : (cho T (T.C.length-(k+1)) (cols T) []).length<=16:=Nat.le_trans cho_len (Nat.pow_le_pow_right (by omega) hc)
  have h2:=Nat.mul_le_mul_right (16 ^ k) h1
  show ((cho T (T.C.length-(k+1)) (cols T) []).flatMap (λx=>(fol T k (pl g x)).map (x::·))).length<=_
  rw[Nat.pow_succ]
  omega
theorem rd_bd {b x n : Int} (hb : 2<=b/\b<=100) (hn : 0<=n/\n<=10000) (h : rd b x n) : 0<=x/\x<=10100:=by
 have q1:=lo_bd (n:=n) hb (by omega)
 have q2:=lo_bd (n:=n+b-1) hb (by omega)
 rcases h with rfl|rfl
 ·omega
 ·unfold hi;omega
theorem cell_bd {T : Tb} (hv : valid T) (r j : Nat) : 0<=(T.C.getD r []).getD j 0/\(T.C.getD r []).getD j 0<=10000:=by
 by_cases hr : r<T.C.length
 ·rw[gdl hr]
  by_cases hj : j<T.C[r].length
  ·have:=((hv.2.2.1 _ (List.getElem_mem hr)).2 _ (List.getElem_mem hj))
   rw[List.getD_eq_getElem?_getD,List.getElem?_eq_getElem hj];exact this
  ·rw[List.getD_eq_getElem?_getD,List.getElem?_eq_none (by omega)];exact⟨Int.le_refl _,by decide⟩
 ·have e : T.C.getD r []=[]:=by rw[List.getD_eq_getElem?_getD,List.getElem?_eq_none (by omega)];rfl
  rw[e];exact⟨Int.le_refl _,show (0 : Int)<=10000 by decide⟩
theorem row_bd {T : Tb} (hv : valid T) {r : Nat} {x : List Int} (h : x∈cho T r (cols T) []) : x.length=cols T/\∀ v∈x,0<=v/\v<=10100:=by
 obtain⟨h1,h2,_⟩:=row_mem.1 h
 refine⟨h1,λv hv'=>?_⟩
 obtain⟨j,hj,rfl⟩:=List.mem_iff_getElem.1 hv'
 have:=rd_bd hv.1 (cell_bd hv r j) (h2 j (by omega))
 rwa [List.getD_eq_getElem?_getD,List.getElem?_eq_getElem hj] at this
theorem cols_le {T : Tb} (hf : fits T) : cols T<=4:=by
 unfold cols
 cases h : T.C with
 | nil=>simp
 | cons a l=>exact hf.2.2 a (by rw[h];simp)
theorem dist_b {T : Tb} (hf : fits T) (hv : valid T) {x y : List Int} (hx : x∈T.C) (hy : ∀ v∈y,0<=v/\v<=10100) : 0<=dist x y/\dist x y<=80000:=by
 have h1:=hv.2.2.1 _ hx
 have h2:=dist_bd (A:=20000) (by decide) (a:=x) (b:=y) (λv hv=>by have:=h1.2 v hv;omega) (λv hv=>by have:=hy v hv;omega)
 have h3:=hf.2.2 _ hx
 have : (x.length : Int)*20000<=4*20000:=Int.mul_le_mul_of_nonneg_right (by omega) (by decide)
 omega
theorem fol_rows {T : Tb} {k : Nat} {g : Nat->Int} {N : List (List Int)} (hk : k<=T.C.length) (h : N∈fol T k g) : N.length=k/\∀ y∈N,∃ r,y∈cho T r (cols T) []:=by
 obtain⟨h1,h2,_⟩:=(fol_mem hk).1 h
 refine⟨h1,λy hy=>?_⟩
 obtain⟨i,hi,rfl⟩:=List.mem_iff_getElem.1 hy
 exact⟨_,by have:=h2 i (by omega);rwa [gdl hi] at this⟩
theorem fco_bd {T : Tb} (hf : fits T) (hv : valid T) {k : Nat} {g : Nat->Int} {N : List (List Int)} (hk : k<=T.C.length) (h : N∈fol T k g) : 0<=fco T k N/\fco T k N<=400000:=by
 obtain⟨h1,h2⟩:=fol_rows hk h
 have:=chg_bd (A:=80000) (by decide) (a:=T.C.drop (T.C.length-k)) (b:=N) (λx hx y hy=>by
  obtain⟨r,hr⟩:=h2 y hy
  exact dist_b hf hv (List.mem_of_mem_drop hx) (row_bd hv hr).2)
 have h5:=hf.1
 have : (N.length : Int)*80000<=5*80000:=Int.mul_le_mul_of_nonneg_right (by omega) (by decide)
 unfold fco
 omega
theorem sr_bd {T : Tb} (hf : fits T) (hv : valid T) {k : Nat} {g : Nat->Int} (hk : k<=T.C.length) : (sr T k g).w<=1048576/\(0<=(sr T k g).c/\(sr T k g).c<=400000)/\(sr T k g).b.length<=k:=by
 have h1 : (fol T k g).length<=1048576:=by
  have:=fol_len (cols_le hf) (k:=k) (g:=g)
  have h5:=hf.1
  have : 16 ^ k<=16 ^ 5:=Nat.pow_le_pow_right (by omega) (by omega)
  omega
 refine⟨by unfold sr;rw[rsf_w];exact h1,?_⟩
 by_cases h0 : fol T k g=[]
 ·unfold sr;rw[h0];exact⟨⟨Int.le_refl _,show (0 : Int)<=400000 by decide⟩,Nat.zero_le _⟩
 ·have hm:=rsf_mem (f:=fco T k) h0
  obtain⟨A,B,_,h2,_⟩:=rsf_spec (fco T k) (fol T k g) h0
  unfold sr
  rw[h2]
  exact⟨fco_bd hf hv hk hm,by rw[(fol_rows hk hm).1];exact Nat.le_refl _⟩
def acc (T : Tb) (k : Nat) (g : Nat->Int) (j : Nat) : List (List (List Int)):=((cho T (T.C.length-(k+1)) (cols T) []).take j).flatMap λx=>(fol T k (pl g x)).map (x::·)
theorem acc_0 (T : Tb) (k : Nat) (g : Nat->Int) : acc T k g 0=[]:=by unfold acc;rw[List.take_zero];rfl
theorem acc_all (T : Tb) (k : Nat) (g : Nat->Int) : acc T k g (cho T (T.C.length-(k+1)) (cols T) []).length=fol T (k+1) g:=by unfold acc;rw[List.take_length];rfl
theorem acc_s {T : Tb} {k : Nat} {g : Nat->Int} {j : Nat} (h : j<(cho T (T.C.length-(k+1)) (cols T) []).length) : acc T k g (j+1)=acc T k g j++(fol T k (pl g ((cho T (T.C.length-(k+1)) (cols T) []).getD j []))).map (((cho T (T.C.length-(k+1)) (cols T) []).getD j [])::·):=by
 have e : (cho T (T.C.length-(k+1)) (cols T) []).take (j+1)=(cho T (T.C.length-(k+1)) (cols T) []).take j++[(cho T (T.C.length-(k+1)) (cols T) []).getD j []]:=by
  rw[gdl h];exact tk1n h
 unfold acc
 rw[e,List.flatMap_append]
 simp only[List.flatMap_cons,List.flatMap_nil,List.append_nil]
theorem acc_sub {T : Tb} {k : Nat} {g : Nat->Int} {j : Nat} {N : List (List Int)} (h : N∈acc T k g j) : N∈fol T (k+1) g:=by
 obtain⟨x,hx,hN⟩:=List.mem_flatMap.1 h
 exact List.mem_flatMap.2 ⟨x,List.mem_of_mem_take hx,hN⟩
theorem fco_cons {T : Tb} {k : Nat} (hk : k+1<=T.C.length) (x : List Int) (N : List (List Int)) : fco T (k+1) (x::N)=dist (T.C.getD (T.C.length-(k+1)) []) x+fco T k N:=by
 have h : T.C.length-(k+1)<T.C.length:=by omega
 unfold fco
 rw[List.drop_eq_getElem_cons h,gdl h,show T.C.length-(k+1)+1=T.C.length-k by omega]
 rfl
def accr (T : Tb) (k : Nat) (g : Nat->Int) (j : Nat) : Rs:=rsf (fco T (k+1)) (acc T k g j)
theorem accr_0 (T : Tb) (k : Nat) (g : Nat->Int) : accr T k g 0=⟨0,0,[]⟩:=by unfold accr;rw[acc_0];rfl
theorem accr_all (T : Tb) (k : Nat) (g : Nat->Int) : accr T k g (cho T (T.C.length-(k+1)) (cols T) []).length=sr T (k+1) g:=by unfold accr;rw[acc_all];rfl
theorem accr_none {T : Tb} {k : Nat} {g : Nat->Int} {j : Nat} (h : j<(cho T (T.C.length-(k+1)) (cols T) []).length) (h0 : (sr T k (pl g ((cho T (T.C.length-(k+1)) (cols T) []).getD j []))).w=0) : acc T k g (j+1)=acc T k g j/\accr T k g (j+1)=accr T k g j:=by
 have e : acc T k g (j+1)=acc T k g j:=by
  unfold sr at h0
  rw[rsf_w] at h0
  rw[acc_s h,List.length_eq_zero_iff.1 h0,List.map_nil,List.append_nil]
 exact⟨e,by unfold accr;rw[e]⟩
theorem accr_some {T : Tb} {k : Nat} {g : Nat->Int} {j : Nat} (hk : k+1<=T.C.length) (h : j<(cho T (T.C.length-(k+1)) (cols T) []).length) {x : List Int} (hx : x=(cho T (T.C.length-(k+1)) (cols T) []).getD j []) (h0 : (sr T k (pl g x)).w≠0) :
  accr T k g (j+1)=if (accr T k g j).w=0\/dist (T.C.getD (T.C.length-(k+1)) []) x+(sr T k (pl g x)).c<(accr T k g j).c then ⟨(accr T k g j).w+(sr T k (pl g x)).w,dist (T.C.getD (T.C.length-(k+1)) []) x+(sr T k (pl g x)).c,x::(sr T k (pl g x)).b⟩ else ⟨(accr T k g j).w+(sr T k (pl g x)).w,(accr T k g j).c,(accr T k g j).b⟩:=by
 subst hx
 unfold accr sr at *
 rw[acc_s h]
 refine rsf_add (λN=>fco_cons hk _ N) _ _ ?_
 intro e
 rw[e] at h0
 exact h0 rfl
theorem accr_bd {T : Tb} (hf : fits T) (hv : valid T) {k : Nat} {g : Nat->Int} {j : Nat} (hk : k+1<=T.C.length) : (accr T k g j).w<=1048576/\(0<=(accr T k g j).c/\(accr T k g j).c<=400000)/\(accr T k g j).b.length<=k+1:=by
 have hl : (acc T k g j).length<=(fol T (k+1) g).length:=by
  rw[<- acc_all]
  unfold acc
  conv=>rhs;rw[List.take_length,<- List.take_append_drop j (cho T (T.C.length-(k+1)) (cols T) []),List.flatMap_append,List.length_append]
  omega
 have hw:=(sr_bd hf hv (k:=k+1) (g:=g) hk).1
 unfold sr at hw
 rw[rsf_w] at hw
 refine⟨by unfold accr;rw[rsf_w];omega,?_⟩
 by_cases h0 : acc T k g j=[]
 ·unfold accr;rw[h0];exact⟨⟨Int.le_refl _,show (0 : Int)<=400000 by decide⟩,Nat.zero_le _⟩
 ·have hm:=acc_sub (rsf_mem (f:=fco T (k+1)) h0)
  obtain⟨A,B,_,h2,_⟩:=rsf_spec (fco T (k+1)) (acc T k g j) h0
  unfold accr
  rw[h2]
  exact⟨fco_bd hf hv hk hm,by rw[(fol_rows hk hm).1];exact Nat.le_refl _⟩
end Go.Xe.TRX
end
