/- What the functions of the layer seat come to: seats that are given, and results. Conditions: none. -/
import Derived.Test.YtelfbgmhleneiaaTVG
-- MOD TV
namespace Go.Xe.TVX
open Go Go.Xe Go.Proofs
open Nat renaming reduceLeDiff → qA, reduceSub → qB, reduceAdd → qC, reduceEqDiff → qD, reduceLT → qE
open Int renaming reduceNegSucc → qF, reduceEq → qG
open Go.Xe.V renaming seq → sA, block → sB, scope → sC, skip → sD, close → sE
open Go.Xe renaming pth → P
open Go.Xe.Sea
set_option maxRecDepth 100000
set_option maxHeartbeats 3200000
set_option linter.unusedSimpArgs false
noncomputable def d97 : FCode:=(.seq (.run (.go (.loadN 22 (tm 1)) (P 9)::
.go (.loadN 8 (tm 2)) (P 10)::
.go (.call (.con (.func (.func 98) ⟨[]⟩ ⟨[]⟩)) [(tm 9),(tm 10)]) (P 11)::
.go (.move (tm 11)) (P 6)::
[])) (.seq (.seq (.run (.go (.move (tm 0)) (P 12)::
.go (.bin .eql 3 (tm 12) (.con (.int .i64 (.ofNat 0)))) (P 13)::
.go (.move (tm 13)) (P 14)::
.gd (P 14) false (.move (tm 6)) (P 15)::
.gd (P 14) false (.len 0 (tm 15)) (P 16)::
.gd (P 14) false (.bin .eql 3 (tm 16) (.con (.int .i64 (.ofNat 0)))) (P 17)::
.go (.pick (tm 14) (.con (.bool true)) (tm 17)) (P 18)::
[])) (.cond (tm 18) .ret .skip)) (.seq (.seq (.run (.go (.move (tm 6)) (P 19)::
.go (.len 0 (tm 19)) (P 20)::
.go (.move (.con (.int .i64 (.ofNat 0)))) (P 21)::
[])) (.block 0 (.loop (.seq (.run (.go (.bin .lss 3 (tm 21) (tm 20)) (P 22)::
[])) (.seq (.cond (tm 22) .skip (.exit 0)) (.seq (.block 1 (.seq (.run (.go (.indexAddr none 1 (tm 19) (tm 21)) (P 23)::
.go (.load1 (tm 23)) (P 24)::
.go (.move (tm 24)) (P 8)::
[])) (.run (.go (.move (tm 8)) (P 25)::
.go (.indexAddr (some 8) 1 (tm 3) (tm 25)) (P 26)::
.go (.load1 (tm 26)) (P 27)::
.go (.bin .add 3 (tm 27) (.con (.int .i64 (.ofNat 1)))) (P 28)::
.go (.indexAddr (some 8) 1 (tm 3) (tm 25)) (P 29)::
.un (.store 1 (tm 29) (tm 28))::
[])))) (.run (.go (.bin .add 3 (tm 21) (.con (.int .i64 (.ofNat 1)))) (P 30)::
.go (.move (tm 30)) (P 21)::
[])))))))) (.seq (.run (.go (.move (tm 6)) (P 31)::
.go (.len 0 (tm 31)) (P 32)::
.go (.move (tm 0)) (P 33)::
.go (.bin .leq 3 (tm 32) (tm 33)) (P 34)::
[])) (.cond (tm 34) (.seq (.run (.go (.loadN 8 (tm 3)) (P 35)::
.un (.store 8 (tm 2) (tm 35))::
[])) (.run (.go (.load1 (tm 4)) (P 36)::
.go (.move (tm 0)) (P 37)::
.go (.move (tm 6)) (P 38)::
.go (.len 0 (tm 38)) (P 39)::
.go (.bin .sub 3 (tm 37) (tm 39)) (P 40)::
.go (.call (tm 36) [tm 40]) (P 41)::
[]))) .skip)))))
theorem de97 : @compF Try.prog (Gl.none Try.prog) Try.f97 5=.mk d97 (mkTT 42) [(P 0),(P 1),(P 2),(P 3),(P 4)] []:=by kernel_rfl
theorem dg97 : Try.prog.funcs[97]?=some Try.f97:=Try.func97
theorem do97 : okF Try.prog Try.f97=true:=by kernel_rfl
theorem up_take {low : Nat→Int} {T : List Nat} (hn : T.Nodup) {j : Nat} (hj : j<T.length) : (fun i=>if i=T[j] then up low (T.take j) T[j]+1 else up low (T.take j) i)=up low (T.take (j+1)):=by
 have hnot : T[j]∉T.take j:=by
  intro hm
  obtain⟨i,hi,e⟩:=List.mem_iff_getElem.1 hm
  rw[List.length_take] at hi
  rw[List.getElem_take] at e
  have:=(List.getElem_inj hn).1 e
  omega
 funext i
 have hm : i∈T.take (j+1)↔i∈T.take j∨i=T[j]:=by rw[tk1 hj,List.mem_append,List.mem_singleton]
 unfold up
 by_cases hi : i=T[j]
 ·subst hi
  rw[if_pos rfl,if_neg hnot,if_pos (hm.2 (.inr rfl))]
 ·rw[if_neg hi]
  by_cases h2 : i∈T.take j
  ·rw[if_pos h2,if_pos (hm.2 (.inl h2))]
  ·rw[if_neg h2,if_neg (fun h=>(hm.1 h).elim h2 hi)]
theorem NL_at {T : List Nat} {j : Nat} (hj : j<T.length) : (NL T)[j]?=some (I (T[j] : Nat)):=by simp[NL,hj]
structure GCx (m S L : Int) (c v : Nat→Int) (pp pl ph pg : Nat) (X : Heap) (low : Nat→Int) : Prop where
 p : Bx X pp (pc m S L c v (sm v 8) (dvf m) (clf m)) 83
 l : Bx X pl (n8 low) 78
 h : Bx X ph (n8 low) 78
 g : Bx X pg [.func (.func 97) ⟨[]⟩ ⟨[PT pp,PT pl,PT ph,PT pg]⟩] 126
theorem f97_ok {m S L : Int} {c v : Nat→Int} {pp pl ph pg : Nat} (hm : 1≤m∧m≤5) (hv : vok v) (hS : 0≤S∧S≤61) (hv8 : ∀ p,¬ p<8→v p=0) (hd : pp≠pl∧pp≠ph∧pl≠ph∧pg≠pl∧pg≠ph) : ∀ {f : Nat} {left : Int} {low : Nat→Int} {X : Heap},0≤left→left<f→(∀ p,0≤low p∧low p+left≤61)→GCx m S L c v pp pl ph pg X low →
  F Try.prog 97 ⟨[I left,PT pp,PT pl,PT ph,PT pg]⟩ X (fun _ Y=>GrowS (fun i=>i=pl∨i=ph) X Y∧Bx Y pl (n8 (giv v (clq m S v) f left low).1) 78∧Bx Y ph (n8 (giv v (clq m S v) f left low).2) 78):=by
 obtain⟨d1,d2,d3,d4,d5⟩:=hd
 intro f
 induction f with
 | zero=>intro left low X h0 h1;omega
 | succ f ih=>
  intro left low X h0 h1 hlb hx
  have hl61 : left≤61:=by have:=hlb 0;omega
  obtain⟨T,hT⟩ : ∃ T,T=tp v (qf m S v low) 8:=⟨_,rfl⟩
  have eg : giv v (clq m S v) (f+1) left low=if left=0∨T=[] then (low,low) else if (T.length : Int)≤left then giv v (clq m S v) f (left-T.length) (up low T) else (low,up low T):=by rw[hT];rfl
  have hTn : T.Nodup:=by rw[hT];exact tp_nodup
  have hTm : ∀ p∈T,p<8:=fun p hp=>by rw[hT] at hp;exact (mem_tp.1 hp).1
  have hTl : T.length≤8:=by rw[hT];exact tp_len
  have f98':=f98_ok (H:=X) (L:=L) (c:=c) (s:=low) hm hv hS (fun p _=>by have:=hlb p;omega) hv8
  rw[← hT] at f98'
  rw[eg]
  have hl1:=hx.l.1
  have hh1:=hx.h.1
  have hp1:=hx.p.1
  have hg1:=hx.g.1
  refine F.entryL rfl dg97 do97 de97 rfl (by kernel_rfl) ?_
  simp only[sets]
  refine V.re [(0,I left),(1,PT pp),(2,PT pl),(3,PT ph),(4,PT pg)] (N:=42) zE zY ?_
  intro t hF hA
  simp only[Kn,and_true] at hA
  refine zS ?_
  refine V.run ?_
  have zf:=And.intro hx.p.2<|And.intro hx.l.2<|And.intro @PC<|And.intro @n8_take<|@n8_len
  refine VI.sz 2 ?_
  simp only[ds]
  refine VI.callR zA (f98') zA (fun w1 X1 ⟨g1,o1⟩=>?_)
  have hlen : ∀ Y,ylen 0 Y w1=some (I T.length):=by
   intro Y
   have:=o1.length
   rw[NL_len] at this
   obtain⟨a,b,c',rfl⟩:=o1.sl.isS
   exact this
  obtain⟨pw1,nw1,cw1,rfl⟩:=o1.sl.isS
  refine VI.l0 ?_
  refine zS ?_
  have zf:=@hlen
  refine V.lz ?_
  refine zS ?_
  have n1:=g1.1
  have hz : ((T.length : Int)=0)=(T=[]):=propext ⟨fun h=>List.length_eq_zero_iff.1 (by omega),fun h=>by rw[h];rfl⟩
  by_cases h00 : left=0∨T=[]
  ·have hdd : decide (left=0∨(T.length : Int)=0)=true:=decide_eq_true (by rw[hz];exact h00)
   rw[if_pos h00]
   refine V.condP zP (fun hc0=>?_) (fun hc0=>?_)
   ·refine zS ?_
    refine V.ret (V.rets rfl (Lv.retF (by simp +contextual (disch:=first|omega|simp only[nx];omega) only[D1,cells_alloc_at,cells_alloc_ne,cells_set_at,cells_set_ne,yres,yres1,yresL,qA,qB,qC,D5,hF,hA,↓reduceIte,qD,qE];rfl) ?_))
    exact⟨g1.s,hx.l.grow g1,hx.h.grow g1⟩
   ·exact absurd (by rw[hz] at hc0;exact h00) (by rw[hz] at hc0;exact hc0)
  rw[if_neg h00]
  refine V.condP zP (fun hc0=>?_) (fun hc0=>?_)
  ·exact absurd (by rw[hz] at hc0;exact hc0) h00
  have hx1 : GCx m S L c v pp pl ph pg X1 low:=⟨hx.p.grow g1,hx.l.grow g1,hx.h.grow g1,hx.g.grow g1⟩
  refine zS ?_
  have zf:=@hlen
  refine V.lz ?_
  refine zS ?_
  refine V.loop (fun z t mm Y=>∃ (j : Nat),j≤T.length∧z=T.length-j∧mm=[]∧GrowS (·=ph) X1 Y∧Bx Y ph (n8 (up low (T.take j))) 78∧Full 42 t∧Kn [(0,I left),(1,PT pp),(2,PT pl),(3,PT ph),(4,PT pg),(6,.slice pw1 nw1 cw1),(19,.slice pw1 nw1 cw1),(20,I T.length),(21,I j)] t) T.length ?_ ?_
  ·refine⟨0,by omega,by omega,rfl,.refl _,?_,zF,zK⟩
   have e : up low (T.take 0)=low:=by funext i;simp[up]
   rw[e]
   exact hx1.h
  clear hF hA
  rintro z t mm Y ⟨j,hj,rfl,rfl,hg,hh,hF,hA⟩
  simp only[Kn,and_true] at hA
  have oY:=o1.growS hg (fun i hi (he : i=ph)=>by omega) (Nat.le_refl X.next)
  refine zS ?_
  refine V.l0 ?_
  refine zS ?_
  refine V.condP zP (fun hlt=>?_) (fun hlt=>?_)
  ·have hlt' : j<T.length:=by omega
   have hTj:=hTm _ (List.getElem_mem hlt')
   obtain⟨p2,q2,r2⟩:=oY.sl.get (NL_at hlt') rfl (kd:=.i64)
   have r2':=r2 Y (.refl _)
   have ia:=idx_arr (i:=ph) (o:=0) (kd:=.i64) hTj
   have hg8:=n8_get (f:=up low (T.take j)) hTj
   have hs8:=n8_set (f:=up low (T.take j)) (p:=T[j]) (x:=up low (T.take j) T[j]+1)
   have hub : 0≤up low (T.take j) T[j]∧up low (T.take j) T[j]≤62:=by
    have:=hlb T[j]
    unfold up
    split<;>omega
   refine zS ?_
   have zf:=And.intro @q2<|@r2'
   refine V.lz ?_
   refine zS ?_
   have zf:=And.intro @ia<|And.intro hh.2<|And.intro @hg8<|And.intro @n8_len<|And.intro @hTj<|@hs8
   refine V.lz ?_
   refine zS ?_
   refine V.l0 ?_
   refine V.nil (Or.inl ⟨rfl,T.length-(j+1),by omega,?_⟩)
   refine⟨j+1,hlt',rfl,rfl,hg.set (.inl rfl) _,?_,zF,zK⟩
   rw[← up_take hTn hlt']
   exact Bx.put hh.1 _ _
  ·obtain rfl : j=T.length:=by omega
   rw[List.take_length] at hh
   have hxY : Bx Y pl (n8 low) 78:=hx1.l.growS hg (fun e=>d3 e)
   have hpY:=hx1.p.growS hg (fun e=>d2 e)
   have hgY:=hx1.g.growS hg (fun e=>d5 e)
   refine V.exit ?_
   refine zX ?_
   refine V.nil (Or.inr ⟨by simp,?_⟩)
   refine zX ?_
   refine zS ?_
   have zf:=@hlen
   refine V.lz ?_
   refine zS ?_
   refine V.condP zP (fun hle=>?_) (fun hle=>?_)
   ·rw[if_pos hle]
    have hpos : 0<T.length:=List.length_pos_iff.2 (fun e=>h00 (.inr e))
    have n8p:=n8_set0 (up low T) low
    refine zS ?_
    have zf:=And.intro hh.2<|And.intro @n8_take<|And.intro @n8_len<|And.intro @n8_ok<|And.intro hxY.2<|@n8p
    refine V.lz ?_
    refine V.heap (fun Z=>GrowS (fun i=>i=pl∨i=ph) X1 Z∧GCx m S L c v pp pl ph pg Z (up low T)) ⟨?_,?_⟩ ?_
    ·exact (hg.mono (fun _ e=>.inr e)).set (.inl (.inl rfl)) _
    ·exact⟨hpY.set d1 _,Bx.put hxY.1 _ _,hh.set (fun e=>d3 e.symm) _,hgY.set d4 _⟩
    rintro Z ⟨gZ,xZ⟩
    have ihc:=ih (left:=left-T.length) (low:=up low T) (X:=Z) (by omega) (by omega) (fun p=>by
     have:=hlb p
     unfold up
     split<;>omega) xZ
    have fvc:=FV.fn (P:=Try.prog) (g:=97) (a:=[]) (b:=[PT pp,PT pl,PT ph,PT pg]) (l:=[I (left-T.length)]) ihc
    obtain⟨R,fvR,hR⟩ : ∃ R,FV Try.prog (.func (.func 97) ⟨[]⟩ ⟨[PT pp,PT pl,PT ph,PT pg]⟩) [I (left-T.length)] Z R∧∀ w Y,R w Y→(GrowS (fun i=>i=pl∨i=ph) Z Y∧Bx Y pl (n8 (giv v (clq m S v) f (left-T.length) (up low T)).1) 78∧Bx Y ph (n8 (giv v (clq m S v) f (left-T.length) (up low T)).2) 78):=⟨_,fvc,fun _ _ h=>h⟩
    clear fvc ihc
    refine zS ?_
    refine V.run ?_
    have zf:=And.intro xZ.g.2<|@hlen
    refine VI.sz 5 ?_
    simp only[ds]
    refine VI.callV (y:=.func (.func 97) ⟨[]⟩ ⟨[PT pp,PT pl,PT ph,PT pg]⟩) zA (by simp only[List.map_cons,List.map_nil,D6,D5,hF,hA,↓reduceIte,qD,qE];exact fvR) (fun w W hw=>?_)
    obtain⟨gW,w1,w2⟩:=hR _ _ hw
    refine VI.l0 ?_
    refine zS ?_
    refine V.nil (Lv.normal (by simp only[yres,yresL,Option.map_some];rfl) ?_)
    exact⟨((g1.s).trans gZ).trans gW,w1,w2⟩
   ·rw[if_neg hle]
    refine zS ?_
    refine V.nil (Lv.normal (by simp only[yres,yresL,Option.map_some];rfl) ?_)
    exact⟨(g1.s).trans (hg.mono (fun _ e=>.inr e)),hxY,hh⟩
end Go.Xe.TVX
/- What the functions of the layer seat come to: results. Conditions: none. -/
-- MOD TV
namespace Go.Xe.TVX
open Go Go.Xe Go.Proofs
open Nat renaming reduceLeDiff → qA, reduceSub → qB, reduceAdd → qC, reduceEqDiff → qD, reduceLT → qE
open Int renaming reduceNegSucc → qF, reduceEq → qG
open Go.Xe.V renaming seq → sA, block → sB, scope → sC, skip → sD, close → sE
open Go.Xe renaming pth → P
open Go.Xe.Sea
set_option maxRecDepth 100000
set_option maxHeartbeats 3200000
set_option linter.unusedSimpArgs false
noncomputable def d79 : FCode:=(.seq (.run (.go (.box 83 (tm 0)) (P 1)::
.go (.alloc 78 [(.int .i64 (.ofNat 0)),(.int .i64 (.ofNat 0)),(.int .i64 (.ofNat 0)),(.int .i64 (.ofNat 0)),(.int .i64 (.ofNat 0)),(.int .i64 (.ofNat 0)),(.int .i64 (.ofNat 0)),(.int .i64 (.ofNat 0))]) (P 2)::
.go (.alloc 78 [(.int .i64 (.ofNat 0)),(.int .i64 (.ofNat 0)),(.int .i64 (.ofNat 0)),(.int .i64 (.ofNat 0)),(.int .i64 (.ofNat 0)),(.int .i64 (.ofNat 0)),(.int .i64 (.ofNat 0)),(.int .i64 (.ofNat 0))]) (P 3)::
[])) (.seq (.run (.go (.alloc 126 [.nilFunc]) (P 4)::
[])) (.seq (.run (.go (.makeFunc 97 [] [(tm 1),(tm 2),(tm 3),(tm 4)]) (P 5)::
.un (.store 1 (tm 4) (tm 5))::
[])) (.seq (.run (.go (.load1 (tm 4)) (P 6)::
.go (.fieldAddr 0 (tm 1)) (P 7)::
.go (.fieldAddr 1 (tm 7)) (P 8)::
.go (.load1 (tm 8)) (P 9)::
.go (.call (tm 6) [tm 9]) (P 10)::
[])) (.seq (.draw 4 (.go (.loadN 8 (tm 2)) (P 11)::
.go (.loadN 8 (tm 3)) (P 12)::
.un (.store 8 (tm 2) (tm 11))::
.un (.store 8 (tm 3) (tm 12))::
[]) [.ok,.rd none (.loadN 8 (tm 3)) (some (P 12)) [3],.ok,.ok]) .ret)))))
theorem de79 : @compF Try.prog (Gl.none Try.prog) Try.f79 1=.mk d79 (mkTT 13) [(P 0)] [.many (P 2) 8,.many (P 3) 8]:=by kernel_rfl
theorem dg79 : Try.prog.funcs[79]?=some Try.f79:=Try.func79
theorem do79 : okF Try.prog Try.f79=true:=by kernel_rfl
def otc (m S : Int) (v : Nat→Int) : (Nat→Int)×(Nat→Int):=giv v (clq m S v) 62 S (fun _=>0)
theorem n8_vEq (f : Nat→Int) : vEq 3 (.agg ⟨n8 f⟩) (.agg ⟨n8 f⟩)=true:=by
 simp only[vEq]
 exact all2_refl (fun x hx=>by
  obtain⟨i,_,rfl⟩:=List.mem_map.1 hx
  simp[vEq,vEq0])
theorem f79_ok {H : Heap} {m S L : Int} {c v : Nat→Int} (hm : 1≤m∧m≤5) (hv : vok v) (hS : 0≤S∧S≤61) (hv8 : ∀ p,¬ p<8→v p=0) :
  Gives Try.prog 79 [.agg ⟨pc m S L c v (sm v 8) (dvf m) (clf m)⟩] H (.tuple ⟨[.agg ⟨n8 (otc m S v).1⟩,.agg ⟨n8 (otc m S v).2⟩]⟩):=by
 refine F.entryL rfl dg79 do79 de79 rfl (by kernel_rfl) ?_
 simp only[sets]
 refine V.re [(0,.agg ⟨pc m S L c v (sm v 8) (dvf m) (clf m)⟩)] (N:=13) zE zY ?_
 intro t hF hA
 simp only[Kn,and_true] at hA
 refine zS ?_
 refine V.l0 ?_
 refine zS ?_
 refine V.l0 ?_
 refine V.heap (fun X=>Grow H X∧Bx X H.next (pc m S L c v (sm v 8) (dvf m) (clf m)) 83∧Bx X (H.next+1) (n8 fun _=>0) 78∧Bx X (H.next+2) (n8 fun _=>0) 78∧Bx X (H.next+3) [.nilFunc] 126) ⟨?_,?_,?_,?_,?_⟩ ?_
 ·exact zW
 ·exact zB
 ·rw[← n8_0];exact zB
 ·rw[← n8_0];exact zB
 ·exact zB
 rintro H1 ⟨g1,b1,c1,d1,e1⟩
 refine zS ?_
 have zf:=e1.2
 refine V.lz ?_
 refine V.heap (fun X=>Grow H X∧GCx m S L c v H.next (H.next+1) (H.next+2) (H.next+3) X (fun _=>0)) ⟨?_,?_⟩ ?_
 ·exact zW
 ·exact⟨b1.set (by omega) _,c1.set (by omega) _,d1.set (by omega) _,Bx.put e1.1 _ _⟩
 rintro H2 ⟨g2,x2⟩
 have f97':=f97_ok (f:=62) (left:=S) (X:=H2) hm hv hS hv8 (by omega) (by omega) (by omega) (fun _=>by omega) x2
 have fvc:=FV.fn (P:=Try.prog) (g:=97) (a:=[]) (b:=[PT H.next,PT (H.next+1),PT (H.next+2),PT (H.next+3)]) (l:=[I S]) f97'
 obtain⟨R,fvR,hR⟩ : ∃ R,FV Try.prog (.func (.func 97) ⟨[]⟩ ⟨[PT H.next,PT (H.next+1),PT (H.next+2),PT (H.next+3)]⟩) [I S] H2 R∧∀ w Y,R w Y→(GrowS (fun i=>i=H.next+1∨i=H.next+2) H2 Y∧Bx Y (H.next+1) (n8 (otc m S v).1) 78∧Bx Y (H.next+2) (n8 (otc m S v).2) 78):=⟨_,fvc,fun _ _ h=>h⟩
 clear fvc f97'
 refine zS ?_
 refine V.run ?_
 have zf:=And.intro x2.g.2<|And.intro x2.p.2<|@PC
 refine VI.sz 4 ?_
 simp only[ds]
 refine VI.callV (y:=.func (.func 97) ⟨[]⟩ ⟨[PT H.next,PT (H.next+1),PT (H.next+2),PT (H.next+3)]⟩) zA (by simp only[List.map_cons,List.map_nil,D6,D5,hF,hA,↓reduceIte,qD,qE];exact fvR) (fun w H3 hw=>?_)
 obtain⟨g3,l3,h3⟩:=hR _ _ hw
 have g13 : Grow H H3:=g3.grow g2 (fun i hi=>by omega)
 have n8a:=n8_set0 (otc m S v).1 (otc m S v).1
 have n8b:=n8_set0 (otc m S v).2 (otc m S v).2
 have ve1:=n8_vEq (otc m S v).1
 have ve2:=n8_vEq (otc m S v).2
 refine VI.l0 ?_
 refine zS ?_
 have zf:=And.intro l3.2<|And.intro h3.2<|And.intro @n8_take<|And.intro @n8_len<|And.intro @n8_ok<|And.intro @n8a<|@n8b
 refine V.dz ?_ ?_ rfl ?_
 ·exact zM
 ·simp only[dcAll,dcOk,wantD,List.cons_append,List.nil_append,true_and,and_true]
  have zf:=And.intro l3.2<|And.intro h3.2<|And.intro @n8_take<|And.intro @n8_len<|And.intro @n8_ok<|And.intro @n8a<|@n8b
  exact zR
 refine zS ?_
 refine V.ret (V.rets rfl (Lv.retG (by simp +contextual (disch:=first|omega|simp only[nx];omega) only[D1,cells_alloc_at,cells_alloc_ne,cells_set_at,cells_set_ne,yres,yres1,yresL,qA,qB,qC,D5,hF,hA,↓reduceIte,qD,qE,n8_take,n8_len];rfl) ?_ ?_))
 ·exact zW
 ·rfl
def eq8 (f g : Nat→Int) : Prop:=∀ i,i<8→f i=g i
instance (f g : Nat→Int) : Decidable (eq8 f g):=Nat.decidableBallLT 8 fun i _=>f i=g i
theorem otc_fin {m S : Int} {v : Nat→Int} (hv : vok v) (hS : 0≤S∧S≤61) (hv8 : ∀ p,¬ p<8→v p=0) : Fin v (clq m S v) S (otc m S v).1 (otc m S v).2:=by
 have v8 : ∀ p,0<v p→p<8:=fun p hp=>by
  apply Decidable.by_contra
  intro hn
  rw[hv8 p hn] at hp;omega
 refine giv_fin (fun p t hp ht=>clq_ok hv hS (v8 p hp) hp ht) (fun p t hp ht=>clq_dec hv hS (v8 p hp) hp ht) hS.1 (by omega) giv_low0 ?_
 rw[sm_0];omega
theorem sm_each {s : Nat→Int} (h : ∀ p,0≤s p) : ∀ {n p : Nat},p<n→s p≤sm s n
 | 0,_,hp=>absurd hp (Nat.not_lt_zero _)
 | n+1,p,hp=>by
  simp only[sm]
  have h0:=sm_le (s:=fun _=>0) (t:=s) (n:=n) (fun p _=>h p)
  rw[sm_0] at h0
  rcases Nat.lt_succ_iff_lt_or_eq.1 hp with h1|rfl
  ·have:=sm_each h h1
   have:=h n
   omega
  ·omega
theorem Fin.bd {v : Nat→Int} {c : Nat→Int→Q2} {S : Int} {low high : Nat→Int} (h : Fin v c S low high) (hS : 0≤S) : (∀ p,0≤low p∧low p≤S)∧(∀ p,low p≤high p∧high p≤low p+1)∧0≤sm low 8∧sm low 8≤S:=by
 have hs0:=sm_le (s:=fun _=>0) (t:=low) (n:=8) (fun p _=>h.1.nn p)
 rw[sm_0] at hs0
 have hle : sm low 8≤S:=by
  rcases h.2 with⟨_,e,_⟩|⟨_,e,_⟩|⟨_,e,_⟩
  ·rw[e,sm_0];exact hS
  ·omega
  ·omega
 refine⟨fun p=>⟨h.1.nn p,?_⟩,fun p=>?_,hs0,hle⟩
 ·by_cases hp : p<8
  ·have:=sm_each h.1.nn hp
   omega
  ·rw[h.1.adm p (fun hh=>hp hh.1)];exact hS
 ·rcases h.2 with⟨_,_,e⟩|⟨_,_,e⟩|⟨_,_,_,e⟩
  ·rw[e];omega
  ·rw[e];omega
  ·rw[e];unfold up;split<;>omega
def sure (m S : Int) (v : Nat→Int) : Prop:=eq8 (otc m S v).1 (otc m S v).2
instance (m S : Int) (v : Nat→Int) : Decidable (sure m S v):=by unfold sure;infer_instance
end Go.Xe.TVX
