/- What the functions of the layer round come to: what a row can become. Conditions: none. -/
import Derived.Test.YtimnlnfpblomnaaWd
import Derived.Test.YtimnlnfpblomnaaTRZ
noncomputable section
namespace Go.Xe.TRX
open Go Go.Xe Go.Proofs
open Nat renaming reduceLeDiff ->qA, reduceSub ->qB, reduceAdd ->qC, reduceEqDiff ->qD, reduceLT ->qE
open Int renaming reduceNegSucc ->qF, reduceEq ->qG
open Go.Xe.V renaming seq ->sA, block ->sB, scope ->sC, skip ->sD, close ->sE
open Go.Xe renaming pth ->P
open Go.Xe.Rnd
set_option maxRecDepth 100000
set_option maxHeartbeats 600000
set_option linter.unusedSimpArgs false
def d95 : FCode:=(.seq (.run (.go (.move (.con (.bool false))) (P 6)::
[])) (.seq (.run (.go (.move (tm 0)) (P 10)::
.go (.len 0 (tm 10)) (P 11)::
.go (.move (tm 11)) (P 7)::
[])) (.seq (.seq (.run (.go (.move (tm 7)) (P 12)::
.go (.fieldAddr 0 (tm 1)) (P 13)::
.go (.loadN 3 (tm 13)) (P 14)::
.go (.call (.con (.func (.func 68) ⟨[]⟩ ⟨[]⟩)) [tm 14]) (P 15)::
.go (.bin .eql 3 (tm 12) (tm 15)) (P 16)::
[])) (.cond (tm 16) (.seq (.draw 12 (.go (.loadN 8 (tm 1)) (P 17)::
.go (.load1 (tm 2)) (P 18)::
.go (.move (tm 0)) (P 19)::
.go (.call (.con (.func (.func 76) ⟨[]⟩ ⟨[]⟩)) [(tm 17),(tm 18),(tm 19)]) (P 20)::
.go (.un .not (tm 20)) (P 21)::
.go (.move (tm 21)) (P 22)::
.gd (P 22) false (.load1 (tm 3)) (P 23)::
.gd (P 22) false (.move (tm 0)) (P 24)::
.gd (P 22) false (.call (.con (.func (.func 96) ⟨[]⟩ ⟨[]⟩)) [tm 24]) (P 25)::
.gd (P 22) false (.call (tm 23) [tm 25]) (P 26)::
.go (.pick (tm 22) (.con (.bool true)) (tm 26)) (P 27)::
.go (.move (tm 27)) (P 6)::
[]) [.ok,.ok,.ok,.ok,.ok,.ok,.rd (some ((P 22),false)) (.load1 (tm 3)) (some (P 23)) [9],.ok,.ok,.ok,.ok,.ok]) .ret) .skip)) (.seq (.seq (.draw 13 (.go (.loadN 8 (tm 1)) (P 28)::
.go (.fieldAddr 0 (tm 1)) (P 29)::
.go (.fieldAddr 1 (tm 29)) (P 30)::
.go (.load1 (tm 30)) (P 31)::
.go (.load1 (tm 2)) (P 32)::
.go (.indexAddr none 1 (tm 31) (tm 32)) (P 33)::
.go (.load1 (tm 33)) (P 34)::
.go (.move (tm 7)) (P 35)::
.go (.indexAddr none 1 (tm 34) (tm 35)) (P 36)::
.go (.load1 (tm 36)) (P 37)::
.go (.call (.con (.func (.func 85) ⟨[]⟩ ⟨[]⟩)) [(tm 28),(tm 37)]) (P 38)::
.go (.len 0 (tm 38)) (P 39)::
.go (.move (.con (.int .i64 (.ofNat 0)))) (P 40)::
[]) [.ok,.ok,.ok,.ok,.ok,.ok,.ok,.ok,.ok,.ok,.ok,.ok,.ok]) (.block 0 (.loop (.seq (.run (.go (.bin .lss 3 (tm 40) (tm 39)) (P 41)::
[])) (.seq (.cond (tm 41) .skip (.exit 0)) (.seq (.block 1 (.seq (.run (.go (.indexAddr none 1 (tm 38) (tm 40)) (P 42)::
.go (.load1 (tm 42)) (P 43)::
.go (.move (tm 43)) (P 9)::
[])) (.seq (.draw 7 (.go (.load1 (tm 4)) (P 44)::
.go (.move (tm 0)) (P 45)::
.go (.move (tm 9)) (P 46)::
.go (.buildSlice 3 1 [(.int .i64 (.ofNat 0))] [(0,1,(tm 46))]) (P 47)::
.go (.append 3 1 8 (tm 45) (tm 47)) (P 48)::
.go (.call (tm 44) [tm 48]) (P 49)::
.go (.un .not (tm 49)) (P 50)::
[]) [.rd none (.load1 (tm 4)) (some (P 44)) [4,5],.ok,.ok,.ok,.ok,.ok,.ok]) (.cond (tm 50) (.seq (.run (.go (.move (.con (.bool false))) (P 6)::
[])) .ret) .skip)))) (.run (.go (.bin .add 3 (tm 40) (.con (.int .i64 (.ofNat 1)))) (P 51)::
.go (.move (tm 51)) (P 40)::
[])))))))) (.seq (.run (.go (.move (.con (.bool true))) (P 6)::
[])) .ret)))))
theorem de95 : @compF Try.prog (Gl.none Try.prog) Try.f95 5=.mk d95 (mkTT 52) [(P 0),(P 1),(P 2),(P 3),(P 4)] [.tmp (P 6)]:=by kernel_rfl
theorem dg95 : Try.prog.funcs[95]?=some Try.f95:=Try.func95
theorem do95 : okF Try.prog Try.f95=true:=by kernel_rfl
def cho (T : Tb) (r : Nat) : Nat->List Int->List (List Int)
 | 0,l=>if al T r l then [l] else []
 | k+1,l=>(nbs T.b ((T.C.getD r []).getD l.length 0)).flatMap λn=>cho T r k (l++[n])
def okC (H : Heap) (L : List (List Int)) (k : Nat) (W : Nat->Prop) (X : Heap) (l : List Value) : Prop:=∃ v G,l=[v]/\H.next<=G/\(∀ i,W i->i<G)/\∃ Y : Heap,Y.next=G/\Ow Y X 3 v (Li (L.getD k []))
def lowb (X : Heap) : Value->Nat
 | .slice (some a) _ _=>a.block
 | _=>X.next
structure Ctx (T : Tb) (r : Nat) (c f s y : Value) (d : Nat->Int) (U : Nat->Prop) (I' : Nat->(Nat->Prop)->Heap->Prop) (X0 : Heap) (pb pr py pc : Nat) : Prop where
 b : BV X0 c f s T
 hb : 2<=T.b/\T.b<=100
 hr : r<T.C.length
 hf : fits T
 hv : valid T
 kb : Bx X0 pb (bl T.b c f s d) 89
 kr : Bx X0 pr [I r] 3
 ky : Bx X0 py [y] 104
 kc : Bx X0 pc [.func (.func 95) ⟨[]⟩ ⟨[PT pb,PT pr,PT py,PT pc]⟩] 104
 hU : ∀ i,U i->i<X0.next
 stab : ∀ k W W' X X',I' k W X->(∀ i,W i->X0.next<=i)->GrowS W X X'->(∀ i,W i->W' i)->(∀ i,W' i->W i\/X.next<=i)->I' k W' X'
 body : ∀ k W X l,k<(cho T r (cols T) []).length->I' k W X->(∀ i,W i->X0.next<=i/\i<X.next)->GrowS U X0 X->okC X0 (cho T r (cols T) []) k W X l->FV Try.prog y l X (λv X'=>GrowS U X X'/\v=.bool true/\I' (k+1) W X')
 nb : ∀ X,GrowS U X0 X->BV X c f s T
 yv : vEq 3 y y=true
 ub : ¬ U pb/\¬ U pr/\¬ U py/\¬ U pc
theorem f95_0 {T : Tb} {r : Nat} {c f s y : Value} {d : Nat->Int} {U : Nat->Prop} {I' : Nat->(Nat->Prop)->Heap->Prop} {X0 : Heap} {pb pr py pc : Nat} (h : Ctx T r c f s y d U I' X0 pb pr py pc) {l : List Int} {X : Heap} {W : Nat->Prop} {p : Nat} {v : Value}
  (hl : l.length=cols T) (hI : I' p W X) (hW : ∀ i,W i->X0.next<=i/\i<X.next) (hg : GrowS U X0 X) (hls : LS X v l) (hlb : ∀ x∈l,0<=x/\x<=20000) (hp : al T r l->p<(cho T r (cols T) []).length/\(cho T r (cols T) []).getD p []=l) :
  F Try.prog 95 ⟨[v,PT pb,PT pr,PT py,PT pc]⟩ X (λw Y=>w=.bool true/\GrowS U X Y/\I' (p+(cho T r 0 l).length) W Y):=by
 have bb:=h.nb X hg
 obtain⟨kb,kr,ky,kc⟩ : Bx X pb (bl T.b c f s d) 89/\Bx X pr [I r] 3/\Bx X py [y] 104/\Bx X pc [.func (.func 95) ⟨[]⟩ ⟨[PT pb,PT pr,PT py,PT pc]⟩] 104:=⟨h.kb.growS hg h.ub.1,h.kr.growS hg h.ub.2.1,h.ky.growS hg h.ub.2.2.1,h.kc.growS hg h.ub.2.2.2⟩
 have hlen:=hls.len
 obtain⟨pv,nv,cv,rfl⟩:=hls.s.isS
 have hcl : cols T<=4:=by
  have h0 : 0<T.C.length:=by have:=h.hr;omega
  rw[<- cols_0 h0]
  exact h.hf.2.2 _ (List.getElem_mem h0)
 have hrow:=h.hv.2.2.1 _ (List.getElem_mem h.hr)
 refine F.entryL rfl dg95 do95 de95 rfl (by kernel_rfl) ?_
 simp only[sets]
 refine V.re [(0,.slice pv nv cv),(1,PT pb),(2,PT pr),(3,PT py),(4,PT pc)] (N:=52) zE zY ?_
 intro t hF hA
 simp only[Kn,and_true] at hA
 refine zS ?_
 refine V.l0 ?_
 refine zS ?_
 have zf:=@hlen
 refine V.lz ?_
 refine zS ?_
 refine V.run ?_
 have zf:=kb.2
 refine VI.sz 3 ?_
 simp only[ds]
 refine VI.callA rfl (f68_ok bb.t) zA (λH2 g2=>?_)
 refine VI.l0 ?_
 refine zS ?_
 refine V.condP zP (λh1=>?_) (λh1=>?_)
 ·have b2:=kb.grow g2
  have r2:=kr.grow g2
  have y2:=ky.grow g2
  have ls2:=hls.grow g2
  have f76':=f76_ok (d:=d) (r:=r) (bb.grow g2) ls2.s h.hr h.hb (by have:=h.hf.2.1;omega) (by omega) hlb (by have:=h.hf.2.2 _ (List.getElem_mem h.hr);omega) (λv hv=>by have:=hrow.2 v hv;omega)
  have yv:=h.yv
  by_cases hal : al T r l
  ·rw[decide_eq_true hal] at f76'
   obtain⟨p1,p2⟩:=hp hal
   have e1 : (cho T r 0 l).length=1:=by unfold cho;rw[if_pos hal];rfl
   refine zS ?_
   refine V.draw ?_
   have zf:=aI b2.2<|r2.2
   refine VD.nz 3 ?_
   simp only[ds]
   refine VD.callA zA (f76') zA (λH3 g3=>?_)
   have y3:=y2.grow g3
   have zf:=y3.2
   refine VD.nz 4 ?_
   simp only[ds]
   refine VD.callRT zG zA (f96_ok (ls2.grow g3).s (by omega)) zA (λw4 H4 ⟨g4,o4⟩=>?_)
   have g24:=(g2.trans g3).trans g4
   have hI4 : I' p W H4:=h.stab p W W X H4 hI (λi hi=>(hW i hi).1) g24.s (λ_ hi=>hi) (λ_ hi=>.inl hi)
   have hok : okC X0 (cho T r (cols T) []) p W H4 [w4]:=⟨w4,H3.next,rfl,Nat.le_trans hg.1 (g2.trans g3).1,λi hi=>Nat.lt_of_lt_of_le (hW i hi).2 (g2.trans g3).1,H3,rfl,by rw[p2];exact o4⟩
   refine VD.callVT zG zA (h.body p W H4 [w4] p1 hI4 (λi hi=>⟨(hW i hi).1,Nat.lt_of_lt_of_le (hW i hi).2 g24.1⟩) (hg.trans g24.s) hok) zA (λw5 H5 ⟨g5,hw5,hI5⟩=>?_)
   subst hw5
   have m3:=g3.1
   have m4:=g4.1
   have m5:=g5.1
   have gY:=(g24.s (U:=U)).trans g5
   refine VD.d0 ?_ ?_ rfl ?_
   ·exact zM
   ·simp only[dcAll,dcOk,wantD,List.cons_append,List.nil_append,true_and,and_true]
    have y4:=y3.grow g4
    exact λhw q hq=>by simp only[wantD,D5,hF,hA,↓reduceIte,qD,qE,beq_iff_eq,decide_eq_false_iff_not,decide_eq_true_eq] at hw;simp only[List.mem_cons,List.not_mem_nil,or_false] at hq;(repeat (rcases hq with rfl|hq;exact⟨_,_,_,rfl,(by simp +contextual (disch:=first|omega|simp only[nx];omega) only[D4,qF,qG,qA,qB,qC,D5,hF,hA,↓reduceIte,qD,qE,if_true,not_false_eq_true,not_true_eq_false,hw,y4.2];with_reducible rfl),λp hp=>by cases hp;simp only[D5,hF,hA,↓reduceIte,qD,qE,hw,if_true,not_false_eq_true];first|exact vEq_An|(simp[vEq,vEq0,all2];done)|assumption⟩));(try (subst hq;exact⟨_,_,_,rfl,(by simp +contextual (disch:=first|omega|simp only[nx];omega) only[D4,qF,qG,qA,qB,qC,D5,hF,hA,↓reduceIte,qD,qE,if_true,not_false_eq_true,not_true_eq_false,hw,y4.2];with_reducible rfl),λp hp=>by cases hp;simp only[D5,hF,hA,↓reduceIte,qD,qE,hw,if_true,not_false_eq_true];first|exact vEq_An|(simp[vEq,vEq0,all2];done)|assumption⟩))
   refine zS ?_
   refine V.ret (V.rets rfl (Lv.retF (by simp +contextual (disch:=first|omega|simp only[nx];omega) only[D1,cells_alloc_at,cells_alloc_ne,cells_set_at,cells_set_ne,yres,yres1,yresL,qA,qB,qC,D5,hF,hA,↓reduceIte,qD,qE];rfl) ?_))
   exact⟨rfl,gY,by rw[e1];exact hI5⟩
  ·rw[decide_eq_false hal] at f76'
   have e1 : (cho T r 0 l).length=0:=by unfold cho;rw[if_neg hal];rfl
   refine zS ?_
   refine V.draw ?_
   have zf:=aI b2.2<|r2.2
   refine VD.nz 3 ?_
   simp only[ds]
   refine VD.callA zA (f76') zA (λH3 g3=>?_)
   refine VD.n0 2 ?_
   simp only[ds]
   refine VD.gdF zG ?_
   refine VD.gdF zG ?_
   refine VD.gdF zG ?_
   refine VD.gdF zG ?_
   have m3:=g3.1
   refine VD.d0 ?_ ?_ rfl ?_
   ·exact zM
   ·simp only[dcAll,dcOk,wantD,List.cons_append,List.nil_append,true_and,and_true]
    exact λhw q hq=>by simp only[wantD,D5,hF,hA,↓reduceIte,qD,qE,beq_iff_eq,decide_eq_false_iff_not,decide_eq_true_eq] at hw;cases hw
   refine zS ?_
   refine V.ret (V.rets rfl (Lv.retF (by simp +contextual (disch:=first|omega|simp only[nx];omega) only[D1,cells_alloc_at,cells_alloc_ne,cells_set_at,cells_set_ne,yres,yres1,yresL,qA,qB,qC,D5,hF,hA,↓reduceIte,qD,qE];rfl) ?_))
   exact⟨rfl,(g2.trans g3).s,by rw[e1];exact h.stab p W W X H3 hI (λi hi=>(hW i hi).1) (g2.trans g3).s (λ_ hi=>hi) (λ_ hi=>.inl hi)⟩
 ·omega
theorem ls_own {W : Nat->Prop} {X : Heap} {v : Value} {l : List Int} (h : (v=.slice none 0 0/\l=[])\/∃ i,v=.slice (some ⟨i,0,none⟩) l.length l.length/\Chn W X 3 0 i l) : LS X v l:=by
 rcases h with⟨rfl,rfl⟩|⟨i,rfl,h⟩
 ·exact⟨.nil⟩
 ·cases h with
  | own hw hi h=>exact⟨.at hi h (Nat.le_refl _) (by simp[Li]) (by simp) (λk x hx=>by simpa [Li] using hx)⟩
theorem ls_growS {U : Nat->Prop} {A B : Heap} {i n k : Nat} {l : List Int} (h : LS A (.slice (some ⟨i,0,none⟩) n k) l) (g : GrowS U A B) (hu : ¬ U i) : LS B (.slice (some ⟨i,0,none⟩) n k) l:=by
 obtain⟨h⟩:=h
 cases h with
 | «at» hi hc hn hl hs hv=>exact⟨.at (Nat.lt_of_lt_of_le hi g.1) ((g.cells hi hu).trans hc) hn hl hs hv⟩
theorem f95_ok {T : Tb} {r : Nat} {c f s y : Value} {d : Nat->Int} {U : Nat->Prop} {I' : Nat->(Nat->Prop)->Heap->Prop} {X0 : Heap} {pb pr py pc : Nat} (h : Ctx T r c f s y d U I' X0 pb pr py pc) : ∀ {k : Nat} {l : List Int} {X : Heap} {W : Nat->Prop} {p : Nat} {v : Value}
  (_ : k+l.length=cols T) (_ : I' p W X) (_ : ∀ i,W i->X0.next<=i/\i<X.next) (_ : GrowS U X0 X) (_ : (v=.slice none 0 0/\l=[])\/∃ i,v=.slice (some ⟨i,0,none⟩) l.length l.length/\Chn W X 3 0 i l) (_ : ∀ x∈l,0<=x/\x<=20000) (_ : ∃ a b,cho T r (cols T) []=a++cho T r k l++b/\a.length=p),
  F Try.prog 95 ⟨[v,PT pb,PT pr,PT py,PT pc]⟩ X (λw Y=>w=.bool true/\∃ W',(∀ j,W j->W' j)/\(∀ j,W' j->(W j\/X.next<=j)/\j<Y.next)/\GrowS (λj=>U j\/(W j/\lowb X v<=j)) X Y/\I' (p+(cho T r k l).length) W' Y/\∀ i,v=.slice (some ⟨i,0,none⟩) l.length l.length->Chn W' Y 3 k i l):=by
 intro k
 induction k with
 | zero=>
  intro l X W p v hl hI hW hg hv hlb hp
  have hUW : ∀ j,W j->¬ U j:=λj hj hu=>by have:=(hW j hj).1;have:=h.hU j hu;omega
  refine (f95_0 h (p:=p) (by omega) hI hW hg (ls_own hv) hlb ?_).mono ?_
  ·intro hal
   obtain⟨a,b,e,rfl⟩:=hp
   have e1 : cho T r 0 l=[l]:=by unfold cho;rw[if_pos hal]
   rw[e,e1]
   exact⟨by simp,by simp⟩
  ·rintro w Y ⟨rfl,g,hY⟩
   refine⟨rfl,W,λ_ hj=>hj,λj hj=>⟨.inl hj,Nat.lt_of_lt_of_le (hW j hj).2 g.1⟩,g.mono (λ_ hj=>.inl hj),hY,?_⟩
   rintro i rfl
   rcases hv with⟨e,_⟩|⟨i',e,hC⟩
   ·cases e
   ·cases e
    exact hC.keep g (λj hj _=>hUW j hj)
 | succ k ih=>
  intro l X W p v hl hI hW hg hv hlb hp
  have bb:=h.nb X hg
  obtain⟨kb,kr,ky,kc⟩ : Bx X pb (bl T.b c f s d) 89/\Bx X pr [I r] 3/\Bx X py [y] 104/\Bx X pc [.func (.func 95) ⟨[]⟩ ⟨[PT pb,PT pr,PT py,PT pc]⟩] 104:=⟨h.kb.growS hg h.ub.1,h.kr.growS hg h.ub.2.1,h.ky.growS hg h.ub.2.2.1,h.kc.growS hg h.ub.2.2.2⟩
  have hls:=ls_own hv
  have hlen:=hls.len
  obtain⟨pv,nv,cv,rfl⟩:=hls.s.isS
  have hcl : cols T<=4:=by
   have h0 : 0<T.C.length:=by have:=h.hr;omega
   rw[<- cols_0 h0]
   exact h.hf.2.2 _ (List.getElem_mem h0)
  have hrow:=h.hv.2.2.1 _ (List.getElem_mem h.hr)
  refine F.entryL rfl dg95 do95 de95 rfl (by kernel_rfl) ?_
  simp only[sets]
  refine V.re [(0,.slice pv nv cv),(1,PT pb),(2,PT pr),(3,PT py),(4,PT pc)] (N:=52) zE zY ?_
  intro t hF hA
  simp only[Kn,and_true] at hA
  refine zS ?_
  refine V.l0 ?_
  refine zS ?_
  have zf:=@hlen
  refine V.lz ?_
  refine zS ?_
  refine V.run ?_
  have zf:=kb.2
  refine VI.sz 3 ?_
  simp only[ds]
  refine VI.callA rfl (f68_ok bb.t) zA (λH2 g2=>?_)
  refine VI.l0 ?_
  refine zS ?_
  refine V.condP zP (λh1=>?_) (λh1=>?_)
  ·omega
  have hr0:=h.hr
  have hrl:=hrow.1
  have hlr : l.length<T.C[r].length:=by omega
  have b2:=kb.grow g2
  have r2:=kr.grow g2
  obtain⟨q,u,hq,hu⟩:=bb.t.c.at ri h.hr
  have hqk:=hq .i64
  obtain⟨hu1,hu2⟩:=hu H2 g2
  obtain⟨q2,hq2,hx2⟩:=hu2.at hlr
  have hx3:=hx2 H2 (.refl _)
  have hcell:=hrow.2 _ (List.getElem_mem hlr)
  obtain⟨nb,hnb⟩ : ∃ nb,nb=nbs T.b T.C[r][l.length]:=⟨_,rfl⟩
  have f85':=f85_own (n:=T.C[r][l.length]) (d:=d) (bb.grow g2) h.hb (by omega)
  rw[<- hnb] at f85'
  refine zS ?_
  refine V.draw ?_
  have zf:=aI b2.2<|aI r2.2<|aI @hqk<|aI @hu1<|aI @hq2<|@hx3
  refine VD.nz 9 ?_
  simp only[ds]
  have zf:=aI b2.2<|aI r2.2<|aI @hqk<|aI @hu1<|aI @hq2<|@hx3
  refine VD.nz 1 ?_
  simp only[ds]
  refine VD.callR zA (f85') zA (λw3 H3 ⟨g3,ls3,i3,n3,k3,hi3,e3⟩=>?_)
  have hl3:=ls3.len
  have m3:=g3.1
  have zf:=@hl3
  refine VD.dz ?_ ?_ rfl ?_
  ·exact zM
  ·simp only[dcAll,dcOk,wantD,List.cons_append,List.nil_append,true_and,and_true]
  have g23:=g2.trans g3
  subst e3
  have hU3 : ∀ i,U i->i<X0.next:=h.hU
  have hXX:=hg.1
  have hX3:=g23.1
  have hX2:=g2.1
  have eC : (T.C.getD r []).getD l.length 0=T.C[r][l.length]:=by rw[gdl hr0,List.getD_eq_getElem?_getD,List.getElem?_eq_getElem hlr];rfl
  have ech : cho T r (k+1) l=nb.flatMap λn=>cho T r k (l++[n]):=by
   rw[hnb,<- eC];rfl
  have hb:=h.hb
  have hnl : nb.length<=2:=by rw[hnb];unfold nbs cp;split<;>simp
  have hbd : ∀ n∈nb,0<=n/\n<=20000:=by
   intro n hn
   rw[hnb,nbs_mem] at hn
   have q1:=lo_bd (n:=T.C[r][l.length]) h.hb (by omega)
   have q2:=lo_bd (n:=T.C[r][l.length]+T.b-1) h.hb (by omega)
   rcases hn with rfl|rfl
   ·omega
   ·unfold hi;omega
  refine zS ?_
  refine V.loop (λz t m Y=>∃ (j : Nat) (W' : Nat->Prop),j<=nb.length/\z=nb.length-j/\m=[]/\(∀ i,W i->W' i)/\(∀ i,W' i->(W i\/H3.next<=i)/\i<Y.next)/\GrowS (λi=>U i\/(W i/\lowb X (.slice pv nv cv)<=i)) H3 Y/\I' (p+((nb.take j).flatMap λn=>cho T r k (l++[n])).length) W' Y/\(∀ i,Value.slice pv nv cv=.slice (some ⟨i,0,none⟩) l.length l.length->Chn W' Y 3 (k+1) i l)/\Full 52 t/\Kn [(0,.slice pv nv cv),(1,PT pb),(2,PT pr),(3,PT py),(4,PT pc),(38,.slice (some ⟨i3,0,none⟩) n3 k3),(39,I nb.length),(40,I j)] t) nb.length ?_ ?_
  ·refine⟨0,W,by omega,by omega,rfl,λ_ hi=>hi,λi hi=>⟨.inl hi,by have:=(hW i hi).2;omega⟩,.refl _,?_,?_,zF,zK⟩
   ·exact h.stab p W W X H3 hI (λi hi=>(hW i hi).1) g23.s (λ_ hi=>hi) (λ_ hi=>.inl hi)
   ·intro i e
    rcases hv with⟨e',_⟩|⟨i',e',hC⟩
    ·rw[e'] at e;cases e
    ·rw[e'] at e;cases e
     have hC1 : Chn W X 3 (k+1) i l:=by
      cases hC with
      | own a b c=>exact .own a b c
     exact hC1.keep (g23.s (U:=λ_=>False)) (λ_ _ _=>id)
  clear hF hA
  rintro z t m Y ⟨j,W',hj,rfl,rfl,hW1,hW2,hgY,hIY,hCY,hF,hA⟩
  simp only[Kn,and_true] at hA
  refine zS ?_
  refine V.l0 ?_
  refine zS ?_
  refine V.condP zP (λhlt=>?_) (λhlt=>?_)
  ·have hj1 : j<nb.length:=by omega
   have ls4 : LS Y (.slice (some ⟨i3,0,none⟩) n3 k3) nb:=ls_growS ls3 hgY (λhh=>by
    rcases hh with hh|⟨hh,_⟩
    ·have:=hU3 _ hh;omega
    ·have:=(hW _ hh).2;omega)
   obtain⟨q4,hq4,hx4⟩:=ls4.at hj1
   have hx5:=hx4 Y (.refl _)
   refine zS ?_
   have zf:=aI @hq4<|@hx5
   refine V.lz ?_
   refine zS ?_
   have hnj:=hbd _ (List.getElem_mem hj1)
   have gUY : GrowS U X0 Y:=⟨by have:=hgY.1;omega,λi hi hu=>by
    rw[hgY.2 i (by omega) (λhh=>hh.elim hu (λhh=>by have:=(hW i hh.1).1;omega)),g23.2 i (by omega),hg.2 i hi hu]⟩
   have kcY : Bx Y pc [.func (.func 95) ⟨[]⟩ ⟨[PT pb,PT pr,PT py,PT pc]⟩] 104:=h.kc.growS gUY h.ub.2.2.2
   obtain⟨Ya,hYa⟩ : ∃ Ya,Ya=Y.alloc (.cells ⟨[Value.int .i64 nb[j]]⟩ 3 true):=⟨_,rfl⟩
   have gYa : Grow Y Ya:=by rw[hYa];exact (Grow.refl Y).alloc _
   have hYn : Ya.next=Y.next+1:=by rw[hYa];rfl
   obtain⟨Z,q1,q2,q3,q5⟩:=Chn.push (W:=W') (X:=Ya) (e:=3) (d:=k+1) (s:=Y.next) (bytes:=8) (v:=.slice pv nv cv) (l:=l) (n:=nb[j]) (el:=3) (rw':=true) (by omega) (by omega) (by omega)
    (by
     rcases hv with e|⟨i,e,_⟩
     ·exact .inl e
     ·exact .inr ⟨i,e,(hCY i e).keep (gYa.s (U:=λ_=>False)) (λ_ _ _=>id)⟩) (by omega) (by rw[hYa];exact cells_alloc _ _ _ _)
   have gAZ : GrowS W' Ya Z:=by
    rcases q5 with⟨_,_,g⟩|⟨_,_,_,g,_,_⟩
    ·exact g.s
    ·exact g.mono (λ_ hh=>hh.1)
   have gYZ : GrowS W' Y Z:=gYa.s.trans gAZ
   have hYX : X0.next<=Y.next:=gUY.1
   have hH3Y:=hgY.1
   have hW'0 : ∀ i,W' i->X0.next<=i/\i<Y.next:=λi hi=>by
    obtain⟨e,e2⟩:=hW2 i hi
    rcases e with e|e
    ·exact⟨(hW i e).1,e2⟩
    ·exact⟨by omega,e2⟩
   have gUZ : GrowS U X0 Z:=⟨by omega,λi hi hu=>by
    rw[gYZ.2 i (by omega) (λhh=>by have:=(hW'0 i hh).1;omega),gUY.2 i hi hu]⟩
   have htk : nb.take (j+1)=nb.take j++[nb[j]]:=(List.take_append_getElem hj1).symm
   have ihc:=ih (l:=l++[nb[j]]) (X:=Z) (W:=λi=>W' i\/i=Ya.next) (p:=p+((nb.take j).flatMap λn=>cho T r k (l++[n])).length) (v:=.slice (some ⟨Ya.next,0,none⟩) (l.length+1) (l.length+1))
    (by rw[List.length_append,List.length_singleton];omega)
    (h.stab _ W' _ Y Z hIY (λi hi=>(hW'0 i hi).1) gYZ (λ_ hi=>.inl hi) (λi hi=>hi.imp id (λe=>by omega)))
    (λi hi=>by
     rcases hi with hi|rfl
     ·have:=hW'0 i hi;omega
     ·omega) gUZ
    (.inr ⟨Ya.next,by simp,.own (.inr rfl) (by omega) q3⟩)
    (λx hx=>by
     rcases List.mem_append.1 hx with hx|hx
     ·exact hlb x hx
     ·rw[List.mem_singleton.1 hx];exact hnj)
    (by
     obtain⟨a,b,e,ea⟩:=hp
     refine⟨a++(nb.take j).flatMap (λn=>cho T r k (l++[n])),(nb.drop (j+1)).flatMap (λn=>cho T r k (l++[n]))++b,?_,by rw[List.length_append,ea]⟩
     rw[e,ech]
     have e2 : nb=nb.take j++[nb[j]]++nb.drop (j+1):=by rw[<- htk,List.take_append_drop]
     conv=>lhs;rw[e2]
     simp only[List.flatMap_append,List.flatMap_cons,List.flatMap_nil,List.append_nil,List.append_assoc])
   rw[hYa] at q1
   rw[hYa] at ihc
   have fvc:=FV.fn (P:=Try.prog) (g:=95) (a:=[]) (b:=[PT pb,PT pr,PT py,PT pc]) (l:=[Value.slice (some ⟨(Y.alloc (.cells ⟨[Value.int .i64 nb[j]]⟩ 3 true)).next,0,none⟩) (l.length+1) (l.length+1)]) ihc
   refine V.draw ?_
   have zf:=aI kcY.2<|@q1
   refine VD.nz 5 ?_
   simp only[ds]
   refine VD.callV zA (fvc) zA (λw5 Y2 ⟨hw5,W2,a1,a2,a3,a4,a5⟩=>?_)
   subst hw5
   have gUY2 : GrowS U X0 Y2:=⟨by have:=a3.1;omega,λi hi hu=>by
    rw[a3.2 i (by omega) (λhh=>hh.elim hu (λhh=>by
     rcases hh.1 with hh|hh
     ·have:=(hW'0 i hh).1;omega
     ·have hh2 : i=Ya.next:=by rw[hYa];exact hh
      omega)),gUZ.2 i hi hu]⟩
   have kcZ : Bx Y2 pc [.func (.func 95) ⟨[]⟩ ⟨[PT pb,PT pr,PT py,PT pc]⟩] 104:=h.kc.growS gUY2 h.ub.2.2.2
   have m6:=a3.1
   have hZn : Z.next=Y.next+1+1:=by omega
   refine VD.d0 ?_ ?_ rfl ?_
   ·exact zM
   ·simp only[dcAll,dcOk,wantD,List.cons_append,List.nil_append,true_and,and_true]
    have kcA:=(kcY.grow gYa).2
    rw[hYa] at kcA
    have kcB:=(h.kc.growS gUZ h.ub.2.2.2).2
    have zf:=aI kcY.2<|aI @kcA<|aI @kcB<|kcZ.2
    exact zR
   refine zS ?_
   refine V.condF zA ?_
   refine zS ?_
   refine V.l0 ?_
   refine V.nil (Or.inl ⟨rfl,nb.length-(j+1),by omega,?_⟩)
   have hlw : ∀ i,W2 i->(W' i\/i=Ya.next\/Z.next<=i)/\i<Y2.next:=λi hi=>by
    obtain⟨e,e2⟩:=a2 i hi
    refine⟨?_,e2⟩
    rcases e with (e|e)|e
    ·exact .inl e
    ·exact .inr (.inl (by rw[hYa];exact e))
    ·exact .inr (.inr e)
   have h31 : ∀ i,i<Ya.next->¬ U i->Y2.get i=Z.get i:=λi hi hu=>a3.2 i (by omega) (λhh=>hh.elim hu (λhh=>by
    have h5 : Ya.next<=i:=by rw[hYa];exact hh.2
    omega))
   refine⟨j+1,W2,by omega,by omega,rfl,λi hi=>a1 i (.inl (hW1 i hi)),?_,?_,?_,?_,zF,zK⟩
   ·intro i hi
    obtain⟨e,e2⟩:=hlw i hi
    refine⟨?_,e2⟩
    rcases e with e|e|e
    ·exact (hW2 i e).1
    ·exact .inr (by omega)
    ·exact .inr (by omega)
   ·refine⟨by omega,λi hi hu=>?_⟩
    rw[h31 i (by omega) (λhh=>hu (.inl hh)),<- hgY.2 i hi hu,<- gYa.2 i (by omega)]
    rcases q5 with⟨_,_,g⟩|⟨i',e,_,g,_,_⟩
    ·exact g.2 i (by omega)
    ·refine g.2 i (by omega) (λhh=>hu (.inr ⟨?_,?_⟩))
     ·rcases (hW2 i hh.1).1 with e3|e3
      ·exact e3
      ·omega
     ·rw[e];exact hh.2
   ·rw[htk,List.flatMap_append,List.length_append,<- Nat.add_assoc]
    simpa using a4
   ·intro i e
    rcases q5 with⟨e',_,_⟩|⟨i',e',g1',_,g3',g4'⟩
    ·rw[e'] at e;cases e
    ·rw[e'] at e;cases e
     have hiW:=hW'0 i g4'
     refine .lent (a1 i (.inl g4')) (by omega) ((h31 i g3' (λhh=>by have:=hU3 _ hh;omega)).trans g1') g3' (r:=[nb[j]]) ?_
     have:=a5 _ (by rw[List.length_append,List.length_singleton])
     rw[hYa]
     exact this
  ·obtain rfl : j=nb.length:=by omega
   rw[List.take_length,<- ech] at hIY
   refine V.exit ?_
   refine zX ?_
   refine V.nil (Or.inr ⟨by simp,?_⟩)
   refine zX ?_
   refine zS ?_
   refine V.l0 ?_
   refine zS ?_
   refine V.ret (V.rets rfl (Lv.retF (by simp +contextual (disch:=first|omega|simp only[nx];omega) only[D1,cells_alloc_at,cells_alloc_ne,cells_set_at,cells_set_ne,yres,yres1,yresL,qA,qB,qC,D5,hF,hA,↓reduceIte,qD,qE];rfl) ?_))
   refine⟨rfl,W',hW1,λi hi=>⟨?_,(hW2 i hi).2⟩,?_,hIY,hCY⟩
   ·rcases (hW2 i hi).1 with hh|hh
    ·exact .inl hh
    ·exact .inr (by omega)
   ·exact g23.s.trans hgY
end Go.Xe.TRX
namespace Go.Xe.Rnd
structure Rs where
 w : Nat
 c : Int
 b : List (List Int)
def cmb (x y : Rs) : Rs:=if y.w=0 then x else if x.w=0\/y.c<x.c then ⟨x.w+y.w,y.c,y.b⟩ else ⟨x.w+y.w,x.c,x.b⟩
theorem cmb_w (x y : Rs) : (cmb x y).w=x.w+y.w:=by
 unfold cmb
 split
 ·omega
 ·split<;>rfl
theorem cmb_nz (x : Rs) {y : Rs} (h : y.w≠0) : cmb x y=if x.w=0\/y.c<x.c then ⟨x.w+y.w,y.c,y.b⟩ else ⟨x.w+y.w,x.c,x.b⟩:=by rw[cmb,if_neg h]
theorem cmb_assoc (x y z : Rs) : cmb (cmb x y) z=cmb x (cmb y z):=by
 by_cases hz : z.w=0
 ·have e1 : cmb (cmb x y) z=cmb x y:=by rw[cmb,if_pos hz]
  have e2 : cmb y z=y:=by rw[cmb,if_pos hz]
  rw[e1,e2]
 ·by_cases hy : y.w=0
  ·have e1 : cmb x y=x:=by rw[cmb,if_pos hy]
   have e2 : cmb y z=z:=by
    rw[cmb,if_neg hz,if_pos (.inl hy),hy,Nat.zero_add]
   rw[e1,e2]
  ·have hyz : (cmb y z).w≠0:=by rw[cmb_w];omega
   have hxy : (cmb x y).w≠0:=by rw[cmb_w];omega
   rw[cmb_nz _ hz,cmb_nz _ hyz,cmb_w,cmb_w]
   have e1 : (cmb x y).c=if x.w=0\/y.c<x.c then y.c else x.c:=by rw[cmb,if_neg hy];split<;>rfl
   have e2 : (cmb x y).b=if x.w=0\/y.c<x.c then y.b else x.b:=by rw[cmb,if_neg hy];split<;>rfl
   have e3 : (cmb y z).c=if z.c<y.c then z.c else y.c:=by
    rw[cmb,if_neg hz]
    by_cases h : z.c<y.c
    ·rw[if_pos (.inr h),if_pos h]
    ·rw[if_neg (by omega),if_neg h]
   have e4 : (cmb y z).b=if z.c<y.c then z.b else y.b:=by
    rw[cmb,if_neg hz]
    by_cases h : z.c<y.c
    ·rw[if_pos (.inr h),if_pos h]
    ·rw[if_neg (by omega),if_neg h]
   rw[e1,e2,e3,e4]
   by_cases h1 : x.w=0\/y.c<x.c
   ·rw[if_pos h1,if_pos h1]
    by_cases h2 : z.c<y.c
    ·rw[if_pos h2,if_pos h2,if_pos (by omega),if_pos (by omega),Nat.add_assoc]
    ·rw[if_neg h2,if_neg h2,if_neg (by omega),if_pos h1,Nat.add_assoc]
   ·rw[if_neg h1,if_neg h1]
    by_cases h2 : z.c<y.c
    ·rw[if_pos h2,if_pos h2]
     by_cases h3 : z.c<x.c
     ·rw[if_pos (.inr h3),if_pos (.inr h3),Nat.add_assoc]
     ·rw[if_neg (by omega),if_neg (by omega),Nat.add_assoc]
    ·rw[if_neg h2,if_neg h2,if_neg (by omega),if_neg h1,Nat.add_assoc]
def rsf (f : List (List Int)->Int) : List (List (List Int))->Rs
 | []=>⟨0,0,[]⟩
 | N::L=>cmb ⟨1,f N,N⟩ (rsf f L)
theorem rsf_w (f : List (List Int)->Int) : ∀ L,(rsf f L).w=L.length
 | []=>rfl
 | N::L=>by rw[rsf,cmb_w,rsf_w f L,List.length_cons];exact Nat.add_comm _ _
theorem cmb_0 (f : List (List Int)->Int) (L : List (List (List Int))) : cmb ⟨0,0,[]⟩ (rsf f L)=rsf f L:=by
 cases L with
 | nil=>rfl
 | cons N L=>
  have h : (rsf f (N::L)).w≠0:=by rw[rsf_w];simp
  rw[cmb,if_neg h,if_pos (.inl rfl),Nat.zero_add]
theorem rsf_app (f : List (List Int)->Int) : ∀ A B,rsf f (A++B)=cmb (rsf f A) (rsf f B)
 | [],B=>(cmb_0 f B).symm
 | N::A,B=>by rw[List.cons_append,rsf,rsf_app f A B,rsf,cmb_assoc]
def sft (far : Int) (x : List Int) (r : Rs) : Rs:=if r.w=0 then ⟨0,0,[]⟩ else ⟨r.w,far+r.c,x::r.b⟩
theorem rsf_map {f g : List (List Int)->Int} {far : Int} {x : List Int} (h : ∀ N,f (x::N)=far+g N) : ∀ L,rsf f (L.map (x::·))=sft far x (rsf g L)
 | []=>rfl
 | N::L=>by
  rw[List.map_cons,rsf,rsf_map h L,rsf,h]
  have hw:=rsf_w g L
  by_cases h0 : L.length=0
  ·have e1 : (rsf g L).w=0:=by omega
   have e2 : (sft far x (rsf g L)).w=0:=by rw[sft,if_pos e1]
   rw[cmb,if_pos e2,cmb,if_pos e1,sft,if_neg (by simp)]
  ·have e1 : (rsf g L).w≠0:=by omega
   have e2 : sft far x (rsf g L)=⟨(rsf g L).w,far+(rsf g L).c,x::(rsf g L).b⟩:=by rw[sft,if_neg e1]
   rw[e2,cmb,if_neg e1,cmb,if_neg e1]
   by_cases h2 : (rsf g L).c<g N
   ·rw[if_pos (by simp;omega),if_pos (by simp;omega),sft,if_neg (by simp)]
   ·rw[if_neg (by simp;omega),if_neg (by simp;omega),sft,if_neg (by simp)]
theorem rsf_add {f g : List (List Int)->Int} {far : Int} {x : List Int} (h : ∀ N,f (x::N)=far+g N) (A L : List (List (List Int))) (hL : L≠[]) :
  rsf f (A++L.map (x::·))=if (rsf f A).w=0\/far+(rsf g L).c<(rsf f A).c then ⟨(rsf f A).w+(rsf g L).w,far+(rsf g L).c,x::(rsf g L).b⟩ else ⟨(rsf f A).w+(rsf g L).w,(rsf f A).c,(rsf f A).b⟩:=by
 have e1 : (rsf g L).w≠0:=by rw[rsf_w];intro e;exact hL (List.length_eq_zero_iff.1 e)
 rw[rsf_app,rsf_map h,sft,if_neg e1,cmb,if_neg e1]
theorem rsf_spec (f : List (List Int)->Int) : ∀ L,L≠[]->∃ A B,L=A++(rsf f L).b::B/\(rsf f L).c=f (rsf f L).b/\(∀ N∈A,(rsf f L).c<f N)/\∀ N∈B,(rsf f L).c<=f N
 | [],h=>absurd rfl h
 | N::L,_=>by
  by_cases h0 : L=[]
  ·subst h0
   exact⟨[],[],rfl,rfl,λ_ h=>by simp at h,λ_ h=>by simp at h⟩
  ·obtain⟨A,B,h1,h2,h3,h4⟩:=rsf_spec f L h0
   have e1 : (rsf f L).w≠0:=by rw[rsf_w];intro e;exact h0 (List.length_eq_zero_iff.1 e)
   rw[rsf,cmb,if_neg e1]
   by_cases hc : (rsf f L).c<f N
   ·rw[if_pos (by simp;omega)]
    refine⟨N::A,B,by rw[List.cons_append,<- h1],h2,?_,h4⟩
    intro M hM
    rcases List.mem_cons.1 hM with rfl|hM
    ·exact hc
    ·exact h3 M hM
   ·rw[if_neg (by simp;omega)]
    refine⟨[],L,rfl,rfl,λ_ h=>by simp at h,?_⟩
    intro M hM
    rw[h1] at hM
    rcases List.mem_append.1 hM with hM|hM
    ·have:=h3 M hM;show f N<=f M;omega
    ·rcases List.mem_cons.1 hM with rfl|hM
     ·show f N<=_;omega
     ·have:=h4 M hM;show f N<=f M;omega
theorem rsf_mem {f : List (List Int)->Int} {L : List (List (List Int))} (h : L≠[]) : (rsf f L).b∈L:=by
 obtain⟨A,B,h1,_⟩:=rsf_spec f L h
 have h2 : (rsf f L).b∈A++(rsf f L).b::B:=by simp
 exact Eq.mp (congrArg ((rsf f L).b∈·) h1.symm) h2
end Go.Xe.Rnd
namespace Go.Xe.TRX
open Go Go.Xe Go.Proofs
open Go.Xe.Rnd
def fol (T : Tb) : Nat->(Nat->Int)->List (List (List Int))
 | 0,g=>if als T.b g (due T.C) then [[]] else []
 | k+1,g=>(cho T (T.C.length-(k+1)) (cols T) []).flatMap λx=>(fol T k (pl g x)).map (x::·)
def fco (T : Tb) (k : Nat) (N : List (List Int)) : Int:=chg (T.C.drop (T.C.length-k)) N
def sr (T : Tb) (k : Nat) (g : Nat->Int) : Rs:=rsf (fco T k) (fol T k g)
theorem cho_mem {T : Tb} {r : Nat} : ∀ {k : Nat} {l x : List Int},x∈cho T r k l↔∃ y,x=l++y/\y.length=k/\(∀ j,j<k->rd T.b (y.getD j 0) ((T.C.getD r []).getD (l.length+j) 0))/\al T r x
 | 0,l,x=>by
  unfold cho
  constructor
  ·intro h
   split at h
   ·rename_i hal
    rw[List.mem_singleton] at h
    subst h
    exact⟨[],by simp,rfl,λj hj=>by omega,hal⟩
   ·cases h
  ·rintro⟨y,rfl,hy,_,hal⟩
   have : y=[]:=List.length_eq_zero_iff.1 hy
   subst this
   rw[List.append_nil] at hal ⊢
   rw[if_pos hal];simp
 | k+1,l,x=>by
  show x∈(nbs T.b ((T.C.getD r []).getD l.length 0)).flatMap (λn=>cho T r k (l++[n]))↔_
  rw[List.mem_flatMap]
  constructor
  ·rintro⟨n,hn,hx⟩
   obtain⟨y,rfl,hy,hr,hal⟩:=cho_mem.1 hx
   refine⟨n::y,by simp,by simp[hy],?_,hal⟩
   intro j hj
   cases j with
   | zero=>exact nbs_mem.1 hn
   | succ j=>
    have:=hr j (by omega)
    rw[List.length_append,List.length_singleton] at this
    rw[show l.length+(j+1)=l.length+1+j by omega]
    exact this
  ·rintro⟨y,rfl,hy,hr,hal⟩
   cases y with
   | nil=>simp at hy
   | cons n y=>
    refine⟨n,nbs_mem.2 (hr 0 (by omega)),cho_mem.2 ⟨y,by simp,by simpa using hy,?_,hal⟩⟩
    intro j hj
    have:=hr (j+1) (by omega)
    rw[List.length_append,List.length_singleton,show l.length+1+j=l.length+(j+1) by omega]
    exact this
theorem row_mem {T : Tb} {r : Nat} {x : List Int} : x∈cho T r (cols T) []↔x.length=cols T/\(∀ j,j<cols T->rd T.b (x.getD j 0) ((T.C.getD r []).getD j 0))/\al T r x:=by
 rw[cho_mem]
 constructor
 ·rintro⟨y,rfl,h1,h2,h3⟩
  refine⟨by simpa using h1,λj hj=>?_,h3⟩
  have:=h2 j hj
  simpa using this
 ·rintro⟨h1,h2,h3⟩
  exact⟨x,rfl,h1,λj hj=>by simpa using h2 j hj,h3⟩
theorem due_cons (x : List Int) (N : List (List Int)) (i : Nat) : due (x::N) i=x.getD i 0+due N i:=rfl
theorem due_pl {g : Nat->Int} {x : List Int} {N : List (List Int)} : (λi=>g i+due (x::N) i)=λi=>pl g x i+due N i:=by
 funext i
 rw[due_cons];unfold pl;omega
theorem fol_mem {T : Tb} : ∀ {k : Nat} {g : Nat->Int} {N : List (List Int)},k<=T.C.length->(N∈fol T k g↔N.length=k/\(∀ i,i<k->N.getD i []∈cho T (T.C.length-k+i) (cols T) [])/\als T.b (λi=>g i+due N i) (due T.C))
 | 0,g,N,_=>by
  unfold fol
  have e : ∀ i,g i+due [] i=g i:=λi=>Int.add_zero _
  constructor
  ·intro h
   split at h
   ·rename_i ha
    rw[List.mem_singleton] at h
    subst h
    refine⟨rfl,λi hi=>by omega,?_⟩
    simp only[e];exact ha
   ·cases h
  ·rintro⟨h1,_,h3⟩
   have : N=[]:=List.length_eq_zero_iff.1 h1
   subst this
   simp only[e] at h3
   rw[if_pos h3];simp
 | k+1,g,N,hk=>by
  show N∈(cho T (T.C.length-(k+1)) (cols T) []).flatMap (λx=>(fol T k (pl g x)).map (x::·))↔_
  have er : ∀ i,T.C.length-(k+1)+(i+1)=T.C.length-k+i:=λi=>by omega
  rw[List.mem_flatMap]
  constructor
  ·rintro⟨x,hx,hN⟩
   obtain⟨M,hM,rfl⟩:=List.mem_map.1 hN
   obtain⟨h1,h2,h3⟩:=(fol_mem (by omega)).1 hM
   refine⟨by simp[h1],?_,by rw[due_pl];exact h3⟩
   intro i hi
   cases i with
   | zero=>exact hx
   | succ i=>
    rw[er]
    exact h2 i (by omega)
  ·rintro⟨h1,h2,h3⟩
   cases N with
   | nil=>simp at h1
   | cons x M=>
    refine⟨x,h2 0 (by omega),List.mem_map.2 ⟨M,(fol_mem (by omega)).2 ⟨by simpa using h1,?_,by rw[<- due_pl];exact h3⟩,rfl⟩⟩
    intro i hi
    have:=h2 (i+1) (by omega)
    rw[er] at this
    exact this
def rnds (T : Tb) : List (List (List Int)):=fol T T.C.length (λ_=>0)
theorem rnds_mem {T : Tb} {N : List (List Int)} : N∈rnds T↔(N.length=T.C.length/\∀ row∈N,row.length=cols T)/\isr T N:=by
 unfold rnds
 rw[fol_mem (Nat.le_refl _),Nat.sub_self]
 have e : (λi=>(0 : Int)+due N i)=due N:=by funext i;exact Int.zero_add _
 rw[e]
 constructor
 ·rintro⟨h1,h2,h3⟩
  have h4 : ∀ i,i<N.length->(N.getD i []).length=cols T/\(∀ j,j<cols T->rd T.b ((N.getD i []).getD j 0) ((T.C.getD i []).getD j 0))/\al T i (N.getD i []):=λi hi=>by
   have:=h2 i (by omega)
   rw[Nat.zero_add] at this
   exact row_mem.1 this
  refine⟨⟨h1,λrow hr=>?_⟩,λr hr=>⟨λk hk=>(h4 r hr).2.1 k (by rw[<- (h4 r hr).1];exact hk),(h4 r hr).2.2⟩,h3⟩
  obtain⟨i,hi,rfl⟩:=List.mem_iff_getElem.1 hr
  have:=(h4 i hi).1
  rwa [gdl hi] at this
 ·rintro⟨⟨h1,h2⟩,h3,h4⟩
  refine⟨h1,λi hi=>?_,h4⟩
  rw[Nat.zero_add]
  have hi' : i<N.length:=by omega
  have hl : (N.getD i []).length=cols T:=by rw[gdl hi'];exact h2 _ (List.getElem_mem hi')
  exact row_mem.2 ⟨hl,λj hj=>(h3 i hi').1 j (by omega),(h3 i hi').2⟩
def lx : List Int->List Int->Prop
 | a::l,b::r=>a<b\/(a=b/\lx l r)
 | _,_=>False
def Bf : List (List Int)->List (List Int)->Prop
 | a::l,b::r=>lx a b\/(a=b/\Bf l r)
 | _,_=>False
theorem lx_app : ∀ (l x y : List Int),lx (l++x) (l++y)↔lx x y
 | [],_,_=>.rfl
 | a::l,x,y=>by
  show a<a\/(a=a/\lx (l++x) (l++y))↔_
  rw[lx_app l x y]
  constructor
  ·rintro (h|h)
   ·omega
   ·exact h.2
  ·exact λh=>.inr ⟨rfl,h⟩
theorem lx_ne : ∀ {a b : List Int},lx a b->¬ lx b a
 | [],_,h=>by cases h
 | _::_,[],h=>by cases h
 | a::l,b::r,h=>by
  rintro h2
  rcases h with h|⟨rfl,h⟩
  ·rcases h2 with h2|⟨h2,_⟩<;>omega
  ·rcases h2 with h2|⟨_,h2⟩
   ·omega
   ·exact lx_ne h h2
theorem lx_irr (a : List Int) : ¬ lx a a:=λh=>lx_ne h h
theorem Bf_ne : ∀ {a b : List (List Int)},Bf a b->¬ Bf b a
 | [],_,h=>by cases h
 | _::_,[],h=>by cases h
 | a::l,b::r,h=>by
  rintro h2
  rcases h with h|⟨rfl,h⟩
  ·rcases h2 with h2|⟨rfl,_⟩
   ·exact lx_ne h h2
   ·exact lx_irr _ h
  ·rcases h2 with h2|⟨_,h2⟩
   ·exact lx_irr _ h2
   ·exact Bf_ne h h2
theorem nbs_sort {b n : Int} (hb : 2<=b) (hn : 0<=n) : (nbs b n).Pairwise (·<·):=by
 unfold nbs cp
 have h1:=lo_mul hb hn
 have h2:=lo_mul (b:=b) (n:=n+b-1) hb (by omega)
 split
 ·exact List.pairwise_singleton _ _
 ·rename_i hne
  refine List.pairwise_cons.2 ⟨λx hx=>?_,List.pairwise_singleton _ _⟩
  rw[List.mem_singleton] at hx
  subst hx
  unfold hi at hne ⊢
  omega
theorem cho_sort {T : Tb} {r : Nat} (hb : 2<=T.b) (hC : ∀ j,0<=(T.C.getD r []).getD j 0) : ∀ {k : Nat} {l : List Int},(cho T r k l).Pairwise lx
 | 0,l=>by
  unfold cho
  split
  ·exact List.pairwise_singleton _ _
  ·exact List.Pairwise.nil
 | k+1,l=>by
  show ((nbs T.b ((T.C.getD r []).getD l.length 0)).flatMap (λn=>cho T r k (l++[n]))).Pairwise lx
  rw[List.pairwise_flatMap]
  refine⟨λn _=>cho_sort hb hC,(nbs_sort hb (hC _)).imp ?_⟩
  intro a c hac x hx y hy
  obtain⟨x',rfl,_⟩:=cho_mem.1 hx
  obtain⟨y',rfl,_⟩:=cho_mem.1 hy
  rw[List.append_assoc,List.append_assoc,lx_app]
  exact .inl hac
theorem cell_nn {T : Tb} (hv : valid T) (r j : Nat) : 0<=(T.C.getD r []).getD j 0:=by
 by_cases hr : r<T.C.length
 ·rw[gdl hr]
  by_cases hj : j<T.C[r].length
  ·have:=((hv.2.2.1 _ (List.getElem_mem hr)).2 _ (List.getElem_mem hj)).1
   rw[List.getD_eq_getElem?_getD,List.getElem?_eq_getElem hj];exact this
  ·rw[List.getD_eq_getElem?_getD,List.getElem?_eq_none (by omega)];exact Int.le_refl _
 ·have e : T.C.getD r []=[]:=by rw[List.getD_eq_getElem?_getD,List.getElem?_eq_none (by omega)];rfl
  rw[e];exact Int.le_refl _
theorem fol_sort {T : Tb} (hv : valid T) : ∀ {k : Nat} {g : Nat->Int},(fol T k g).Pairwise Bf
 | 0,g=>by
  unfold fol
  split
  ·exact List.pairwise_singleton _ _
  ·exact List.Pairwise.nil
 | k+1,g=>by
  show ((cho T (T.C.length-(k+1)) (cols T) []).flatMap (λx=>(fol T k (pl g x)).map (x::·))).Pairwise Bf
  rw[List.pairwise_flatMap]
  refine⟨λx _=>?_,(cho_sort hv.1.1 (λj=>cell_nn hv _ j)).imp ?_⟩
  ·rw[List.pairwise_map]
   exact (fol_sort hv).imp λh=>.inr ⟨rfl,h⟩
  ·intro a c hac x hx y hy
   obtain⟨x',_,rfl⟩:=List.mem_map.1 hx
   obtain⟨y',_,rfl⟩:=List.mem_map.1 hy
   exact .inl hac
end Go.Xe.TRX
end
