/- What the functions of the layer seat come to: a rule at work, shares and quotients. Conditions: none. -/
import Derived.Test.YtlfikodljmdekaaTVA
-- MOD TV
namespace Go.Xe.TVX
open Go Go.Xe Go.Proofs
open Nat renaming reduceLeDiff → qA, reduceSub → qB, reduceAdd → qC, reduceEqDiff → qD, reduceLT → qE
open Int renaming reduceNegSucc → qF, reduceEq → qG
open Go.Xe.V renaming seq → sA, block → sB, scope → sC, skip → sD, close → sE
open Go.Xe renaming pth → P
open Go.Xe.Sea
set_option maxRecDepth 100000
set_option maxHeartbeats 3200000
set_option linter.unusedSimpArgs false
noncomputable def d75 : FCode:=(.seq (.run (.go (.move (.con (.map none))) (P 0)::
[])) (.seq (.run (.go (.makeMap 5) (P 1)::
.un (.mapUpdate 5 (tm 1) (.con (.int .u8 (.ofNat 1))) (.con (.func (.func 91) ⟨[]⟩ ⟨[]⟩)))::
.un (.mapUpdate 5 (tm 1) (.con (.int .u8 (.ofNat 2))) (.con (.func (.func 92) ⟨[]⟩ ⟨[]⟩)))::
.un (.mapUpdate 5 (tm 1) (.con (.int .u8 (.ofNat 3))) (.con (.func (.func 93) ⟨[]⟩ ⟨[]⟩)))::
.un (.mapUpdate 5 (tm 1) (.con (.int .u8 (.ofNat 4))) (.con (.func (.func 94) ⟨[]⟩ ⟨[]⟩)))::
.go (.move (tm 1)) (P 2)::
.go (.move (tm 2)) (P 0)::
[])) .ret))
theorem de75 : @compF Try.prog (Gl.none Try.prog) Try.f75 0=.mk d75 (mkTT 3) [] [.tmp (P 0)]:=by kernel_rfl
theorem dg75 : Try.prog.funcs[75]?=some Try.f75:=Try.func75
theorem do75 : okF Try.prog Try.f75=true:=by kernel_rfl
noncomputable def d55 : FCode:=(.seq (.run (.go (.box 28 (tm 0)) (P 2)::
.go (.alloc 83 [(.int .u8 (.ofNat 0)),(.int .i64 (.ofNat 0)),(.int .i64 (.ofNat 0)),(.int .i64 (.ofNat 0)),(.int .i64 (.ofNat 0)),(.int .i64 (.ofNat 0)),(.int .i64 (.ofNat 0)),(.int .i64 (.ofNat 0)),(.int .i64 (.ofNat 0)),(.int .i64 (.ofNat 0)),(.int .i64 (.ofNat 0)),(.int .i64 (.ofNat 0)),(.int .i64 (.ofNat 0)),(.int .i64 (.ofNat 0)),(.int .i64 (.ofNat 0)),(.int .i64 (.ofNat 0)),(.int .i64 (.ofNat 0)),(.int .i64 (.ofNat 0)),(.int .i64 (.ofNat 0)),(.int .i64 (.ofNat 0)),.nilFunc,.nilFunc]) (P 4)::
[])) (.seq (.draw 10 (.go (.loadN 3 (tm 2)) (P 6)::
.go (.move (tm 1)) (P 7)::
.go (.call (.con (.func (.func 62) ⟨[]⟩ ⟨[]⟩)) [tm 7]) (P 8)::
.go (.call (.con (.func (.func 75) ⟨[]⟩ ⟨[]⟩)) []) (P 9)::
.go (.fieldAddr 0 (tm 2)) (P 10)::
.go (.load1 (tm 10)) (P 11)::
.go (.lookup 5 .nilFunc (tm 9) (tm 11) false) (P 12)::
.go (.build [(.int .u8 (.ofNat 0)),(.int .i64 (.ofNat 0)),(.int .i64 (.ofNat 0)),(.int .i64 (.ofNat 0)),(.int .i64 (.ofNat 0)),(.int .i64 (.ofNat 0)),(.int .i64 (.ofNat 0)),(.int .i64 (.ofNat 0)),(.int .i64 (.ofNat 0)),(.int .i64 (.ofNat 0)),(.int .i64 (.ofNat 0)),(.int .i64 (.ofNat 0)),(.int .i64 (.ofNat 0)),(.int .i64 (.ofNat 0)),(.int .i64 (.ofNat 0)),(.int .i64 (.ofNat 0)),(.int .i64 (.ofNat 0)),(.int .i64 (.ofNat 0)),(.int .i64 (.ofNat 0)),(.int .i64 (.ofNat 0)),.nilFunc,.nilFunc] [(0,3,(tm 6)),(3,8,(tm 8)),(20,1,(tm 12)),(21,1,(.con (.func (.func 76) ⟨[]⟩ ⟨[]⟩)))]) (P 13)::
.go (.alloc 83 [(.int .u8 (.ofNat 0)),(.int .i64 (.ofNat 0)),(.int .i64 (.ofNat 0)),(.int .i64 (.ofNat 0)),(.int .i64 (.ofNat 0)),(.int .i64 (.ofNat 0)),(.int .i64 (.ofNat 0)),(.int .i64 (.ofNat 0)),(.int .i64 (.ofNat 0)),(.int .i64 (.ofNat 0)),(.int .i64 (.ofNat 0)),(.int .i64 (.ofNat 0)),(.int .i64 (.ofNat 0)),(.int .i64 (.ofNat 0)),(.int .i64 (.ofNat 0)),(.int .i64 (.ofNat 0)),(.int .i64 (.ofNat 0)),(.int .i64 (.ofNat 0)),(.int .i64 (.ofNat 0)),(.int .i64 (.ofNat 0)),.nilFunc,.nilFunc]) (P 5)::
.un (.store 22 (tm 5) (tm 13))::
[]) [.rd none (.loadN 3 (tm 2)) (some (P 6)) [3,4],.ok,.ok,.ok,.ok,.rd none (.load1 (tm 10)) (some (P 11)) [0,3],.ok,.ok,.nw none (some (P 5)) 8 true,.ok]) (.seq (.seq (.run (.go (.fieldAddr 0 (tm 2)) (P 14)::
.go (.load1 (tm 14)) (P 15)::
.go (.bin .eql 5 (tm 15) (.con (.int .u8 (.ofNat 5)))) (P 16)::
[])) (.cond (tm 16) (.run (.go (.fieldAddr 21 (tm 5)) (P 17)::
.un (.store 1 (tm 17) (.con (.func (.func 77) ⟨[]⟩ ⟨[]⟩)))::
[])) .skip)) (.seq (.run (.go (.loadN 22 (tm 5)) (P 18)::
.go (.call (.con (.func (.func 78) ⟨[]⟩ ⟨[]⟩)) [tm 18]) (P 19)::
.un (.store 22 (tm 4) (tm 19))::
[])) .ret))))
theorem de55 : @compF Try.prog (Gl.none Try.prog) Try.f55 2=.mk d55 (mkTT 20) [(P 0),(P 1)] [.many (P 4) 22]:=by kernel_rfl
theorem dg55 : Try.prog.funcs[55]?=some Try.f55:=Try.func55
theorem do55 : okF Try.prog Try.f55=true:=by kernel_rfl
def ku (a : Int) : Value:=.int .u8 a
theorem ku_ok : KeyOk Try.prog 5 ku (fun a=>0≤a∧a≤255) where
 keyed:=by kernel_rfl
 keyish _:=rfl
 keyOf a h:=by
  have hw : (Lit.int .u8 a).wf=true:=by
   simp only[Lit.wf,Bool.and_eq_true,decide_eq_true_eq]
   show (0 : Int)≤a∧a≤255
   omega
  unfold keyOf ku
  simp[Try.underlying5,mapKey,hw]
 eq a b:=by simp[ku,valEq,cellEq]
def dmp (a : Int) : Option Value:=if a=4 then some (fn 94) else if a=3 then some (fn 93) else if a=2 then some (fn 92) else if a=1 then some (fn 91) else none
def dvf (m : Int) : Value:=(dmp m).getD .nilFunc
def clf (m : Int) : Value:=if m=5 then fn 77 else fn 76
theorem dvf_ok (m : Int) : ok1 (dvf m)=true:=by
 unfold dvf dmp
 repeat' split
 all_goals rfl
theorem clf_ok (m : Int) : ok1 (clf m)=true:=by
 unfold clf
 split<;>rfl
theorem f75_ok (H : Heap) : F Try.prog 75 ⟨[]⟩ H (fun w X=>∃ i,w=.map (some i)∧Grow H X∧MpF X i 5 ku dmp):=by
 have h0:=MpF.new (α:=Int) H 5 ku
 obtain⟨o1,e1,h1⟩:=h0.upd ku_ok (a:=1) (by omega) (fn 91)
 obtain⟨o2,e2,h2⟩:=h1.upd ku_ok (a:=2) (by omega) (fn 92)
 obtain⟨o3,e3,h3⟩:=h2.upd ku_ok (a:=3) (by omega) (fn 93)
 obtain⟨o4,e4,h4⟩:=h3.upd ku_ok (a:=4) (by omega) (fn 94)
 simp only[ku] at e1 e2 e3 e4
 refine F.entryL rfl dg75 do75 de75 rfl (by kernel_rfl) ?_
 simp only[sets]
 refine V.re [] (N:=3) zE zY ?_
 intro t hF hA
 refine zS ?_
 refine V.l0 ?_
 refine zS ?_
 have zf:=And.intro @e1<|And.intro @e2<|And.intro @e3<|@e4
 refine V.lz ?_
 refine zS ?_
 refine V.ret (V.rets rfl (Lv.retF (by simp +contextual (disch:=first|omega|simp only[nx];omega) only[D1,cells_alloc_at,cells_alloc_ne,cells_set_at,cells_set_ne,yres,yres1,yresL,qA,qB,qC,D5,hF,hA,↓reduceIte,qD,qE];rfl) ?_))
 refine⟨_,rfl,?_,?_⟩
 ·exact zW
 ·exact h4
theorem dv_look {X : Heap} {i : Nat} (h : MpF X i 5 ku dmp) {m : Int} (hm : 0≤m∧m≤255) : ylookup Try.prog 5 .nilFunc X (.map (some i)) (.int .u8 m) false=some (dvf m):=MpF.look ku_ok h hm .nilFunc
abbrev pw (m S L : Int) (c : Nat→Int) : List Value:=pc m S L c (vts L c) (sm (vts L c) 8) (dvf m) (clf m)
theorem dvf_fill (m : Int) (off : Nat) (c : List Value) (f : List Value→Option (Array Value)) : yfillV (dvf m) off 1 c f=if off<c.length then f (c.set off (dvf m)) else none:=by
 have h : notTop (dvf m)=true∧(dvf m).cells=#[dvf m]:=by
  unfold dvf dmp
  by_cases h4 : m=4
  ·rw[if_pos h4];exact⟨rfl,rfl⟩
  ·rw[if_neg h4]
   by_cases h3 : m=3
   ·rw[if_pos h3];exact⟨rfl,rfl⟩
   ·rw[if_neg h3]
    by_cases h2 : m=2
    ·rw[if_pos h2];exact⟨rfl,rfl⟩
    ·rw[if_neg h2]
     split<;>exact⟨rfl,rfl⟩
 exact yfV_one h.1 h.2
theorem bc8 (m S L : Int) (g : Nat→Int) : setCells (n8 g) 3 ⟨[.int .u8 m,I S,I L,I 0,I 0,I 0,I 0,I 0,I 0,I 0,I 0,I 0,I 0,I 0,I 0,I 0,I 0,I 0,I 0,I 0,.nilFunc,.nilFunc]⟩=⟨pc m S L g (fun _=>0) 0 .nilFunc .nilFunc⟩:=rfl
theorem pc_setd {m S L : Int} {c v : Nat→Int} {tot : Int} {d k x : Value} : (pc m S L c v tot d k).set 20 x=pc m S L c v tot x k:=rfl
theorem f55_ok {H : Heap} {m S L : Int} {x : Value} {l : List Int} (h : LS H x l) (hl : l.length≤8) (hb : ∀ v∈l,0≤v∧v≤10000) (hm : 1≤m∧m≤5) : Gives Try.prog 55 [.agg ⟨A3 m S L⟩,x] H (.agg ⟨pw m S L (gl0 l)⟩):=by
 have hgb : ∀ i,i<8→0≤gl0 l i∧gl0 l i≤10000:=by
  intro i _
  unfold gl0
  by_cases hi : i<l.length
  ·rw[List.getD_eq_getElem?_getD,List.getElem?_eq_getElem hi]
   exact hb _ (List.getElem_mem hi)
  ·rw[List.getD_eq_getElem?_getD,List.getElem?_eq_none (by omega)]
   simp
 have hdo:=dvf_ok m
 have hf76 : ok1 (fn 76)=true:=rfl
 obtain⟨Z22,hZ⟩ : ∃ Z : List Value,Z=[.int .u8 0,I 0,I 0,I 0,I 0,I 0,I 0,I 0,I 0,I 0,I 0,I 0,I 0,I 0,I 0,I 0,I 0,I 0,I 0,I 0,.nilFunc,.nilFunc]:=⟨_,rfl⟩
 have hZl : Z22.length=22:=by rw[hZ];rfl
 refine F.entryL rfl dg55 do55 de55 rfl (by kernel_rfl) ?_
 simp only[sets]
 refine V.re [(0,.agg ⟨A3 m S L⟩),(1,x)] (N:=20) zE zY ?_
 intro t hF hA
 simp only[Kn,and_true] at hA
 refine zS ?_
 refine V.l0 ?_
 refine V.heap (fun X=>Grow H X∧Bx X H.next (A3 m S L) 28∧Bx X (H.next+1) Z22 83) ⟨?_,?_,?_⟩ ?_
 ·exact zW
 ·exact zB
 ·rw[hZ];exact zB
 rintro H1 ⟨g1,b1,c1⟩
 refine zS ?_
 refine V.draw ?_
 have zf:=b1.2
 refine VD.nz 2 ?_
 simp only[ds]
 refine VD.callA zA (f62_ok (h.grow g1) hl) zA (fun H2 g2=>?_)
 have b2:=b1.grow g2
 have c2:=c1.grow g2
 have g12:=g1.trans g2
 refine VD.callR zA (f75_ok H2) zA (fun w3 H3 ⟨im,hw3,g3,hm3⟩=>?_)
 subst hw3
 have b3:=b2.grow g3
 have c3:=c2.grow g3
 have g13:=g12.trans g3
 have hlk:=dv_look hm3 (m:=m) (by omega)
 have hlk2 : ∀ o,ylookup Try.prog 5 .nilFunc (H3.alloc o) (.map (some im)) (.int .u8 m) false=some (dvf m):=fun o=>dv_look (hm3.grow ((Grow.refl H3).alloc o)) (by omega)
 have m2:=g2.1
 have m3:=g3.1
 have hfl:=dvf_fill m
 have hbc:=bc8 m S L (gl0 l)
 have epu:=pc_put (m:=m) (S:=S) (L:=L) (c:=gl0 l) (v:=fun _=>0) (tot:=0) (d:=dvf m) (k:=fn 76) (x:=[.int .u8 0,I 0,I 0,I 0,I 0,I 0,I 0,I 0,I 0,I 0,I 0,I 0,I 0,I 0,I 0,I 0,I 0,I 0,I 0,I 0,.nilFunc,.nilFunc]) rfl
 have hok:=pc_ok (m:=m) (S:=S) (L:=L) (c:=gl0 l) (v:=fun _=>0) (tot:=0) hdo hf76
 have n3 : H.next+2≤H3.next:=by
  have:=c3.1
  omega
 have zf:=And.intro b3.2<|@hlk
 refine VD.nz 3 ?_
 simp only[ds]
 have zf:=And.intro @hfl<|And.intro @hbc<|And.intro @n8_len<|And.intro @PC<|And.intro @pc_setd<|And.intro @epu<|@hok
 refine VD.dz ?_ ?_ rfl ?_
 ·exact zM
 ·simp only[dcAll,dcOk,wantD,List.cons_append,List.nil_append,true_and,and_true]
  have zf:=And.intro b1.2<|And.intro b2.2<|b3.2
  exact⟨zR,zR,fun _=>⟨_,_,_,rfl,rfl,rfl,(by simp only[D5,hF,hA,↓reduceIte,qD,qE];simp[inBound]),fun _=>⟨_,_,_,cells_alloc _ _ _ _,(by first|exact An_inb|rfl)⟩⟩⟩
 refine V.heap (fun X=>Grow H X∧Bx X H.next (A3 m S L) 28∧Bx X (H.next+1) Z22 83∧Bx X H3.next (pc m S L (gl0 l) (fun _=>0) 0 (dvf m) (fn 76)) 83) ⟨?_,?_,?_,?_⟩ ?_
 ·exact zW
 ·exact (b3.alloc _).set (by have:=b3.1;omega) _
 ·exact (c3.alloc _).set (by have:=c3.1;omega) _
 ·exact Bx.put (by simp only[Heap.next_alloc];omega) _ _
 rintro H4 ⟨g4,b4,c4,d4⟩
 refine zS ?_
 have zf:=b4.2
 refine V.lz ?_
 refine zS ?_
 refine V.join (fun t m' X=>m'=[]∧Grow H X∧Bx X (H.next+1) Z22 83∧Bx X H3.next (pc m S L (gl0 l) (fun _=>0) 0 (dvf m) (clf m)) 83∧Full 20 t∧Kn [(4,PT (H.next+1)),(5,PT H3.next)] t) ?_ ?_
 ·refine V.condP zP (fun h5=>?_) (fun h5=>?_)
  ·refine zS ?_
   have zf:=And.intro d4.2<|@PC
   refine V.lz ?_
   refine V.nil (Or.inl ⟨rfl,rfl,?_,?_,?_,zF,zK⟩)
   ·exact zW
   ·exact c4.set (by omega) _
   ·have e : clf m=fn 77:=if_pos h5
    rw[e]
    exact Bx.put d4.1 _ _
  ·refine zS ?_
   refine V.nil (Or.inl ⟨rfl,rfl,g4,c4,?_,zF,zK⟩)
   have e : clf m=fn 76:=if_neg h5
   rw[e]
   exact d4
 clear hF hA
 rintro t _ X ⟨rfl,gX,cX,dX,hF,hA⟩
 simp only[Kn,and_true] at hA
 refine zS ?_
 refine V.run ?_
 have zf:=And.intro dX.2<|@PC
 refine VI.sz 1 ?_
 simp only[ds]
 refine VI.callA rfl (f78_ok (dvf_ok m) (clf_ok m) hgb) zA (fun H6 g6=>?_)
 have c6:=cX.grow g6
 have g16:=gX.trans g6
 have hok6:=pc_ok (m:=m) (S:=S) (L:=L) (c:=gl0 l) (v:=vts L (gl0 l)) (tot:=sm (vts L (gl0 l)) 8) (dvf_ok m) (clf_ok m)
 have epu6:=pc_put (m:=m) (S:=S) (L:=L) (c:=gl0 l) (v:=vts L (gl0 l)) (tot:=sm (vts L (gl0 l)) 8) (d:=dvf m) (k:=clf m) hZl
 have zf:=And.intro c6.2<|And.intro @PC<|And.intro @hok6<|And.intro @epu6<|@hZl
 refine VI.lz ?_
 refine zS ?_
 refine V.ret (V.rets rfl (Lv.retG (by simp +contextual (disch:=first|omega|simp only[nx];omega) only[D1,cells_alloc_at,cells_alloc_ne,cells_set_at,cells_set_ne,yres,yres1,yresL,qA,qB,qC,D5,hF,hA,↓reduceIte,qD,qE,PC];rfl) ?_ ?_))
 ·exact zW
 ·rfl
end Go.Xe.TVX
/- What the functions of the layer seat come to: shares and quotients. Conditions: none. -/
-- MOD TV
namespace Go.Xe.TVX
open Go Go.Xe Go.Proofs
open Nat renaming reduceLeDiff → qA, reduceSub → qB, reduceAdd → qC, reduceEqDiff → qD, reduceLT → qE
open Int renaming reduceNegSucc → qF, reduceEq → qG
open Go.Xe.V renaming seq → sA, block → sB, scope → sC, skip → sD, close → sE
open Go.Xe renaming pth → P
open Go.Xe.Sea
set_option maxRecDepth 100000
set_option maxHeartbeats 3200000
set_option linter.unusedSimpArgs false
noncomputable def d65 : FCode:=(.seq (.run (.go (.box 83 (tm 0)) (P 2)::
.go (.move (.con (.int .i64 (.ofNat 0)))) (P 4)::
.go (.move (.con (.int .i64 (.ofNat 0)))) (P 5)::
[])) (.seq (.seq (.run (.go (.move (tm 1)) (P 7)::
.go (.fieldAddr 11 (tm 2)) (P 8)::
.go (.indexAddr (some 8) 1 (tm 8) (tm 7)) (P 9)::
.go (.load1 (tm 9)) (P 10)::
.go (.bin .eql 3 (tm 10) (.con (.int .i64 (.ofNat 0)))) (P 11)::
[])) (.cond (tm 11) (.seq (.run (.go (.move (.con (.int .i64 (.ofNat 0)))) (P 4)::
.go (.move (.con (.int .i64 (.ofNat 0)))) (P 5)::
[])) .ret) .skip)) (.seq (.draw 9 (.go (.move (tm 1)) (P 12)::
.go (.fieldAddr 11 (tm 2)) (P 13)::
.go (.indexAddr (some 8) 1 (tm 13) (tm 12)) (P 14)::
.go (.load1 (tm 14)) (P 15)::
.go (.fieldAddr 0 (tm 2)) (P 16)::
.go (.fieldAddr 1 (tm 16)) (P 17)::
.go (.load1 (tm 17)) (P 18)::
.go (.bin .mul 3 (tm 15) (tm 18)) (P 19)::
.go (.move (tm 19)) (P 6)::
[]) [.ok,.ok,.ok,.ok,.ok,.ok,.ok,.ok,.ok]) (.seq (.draw 10 (.go (.move (tm 6)) (P 20)::
.go (.fieldAddr 19 (tm 2)) (P 21)::
.go (.load1 (tm 21)) (P 22)::
.go (.bin .quo 3 (tm 20) (tm 22)) (P 23)::
.go (.move (tm 6)) (P 24)::
.go (.fieldAddr 19 (tm 2)) (P 25)::
.go (.load1 (tm 25)) (P 26)::
.go (.bin .rem 3 (tm 24) (tm 26)) (P 27)::
.go (.move (tm 23)) (P 4)::
.go (.move (tm 27)) (P 5)::
[]) [.ok,.ok,.ok,.ok,.ok,.ok,.ok,.ok,.ok,.ok]) .ret))))
theorem de65 : @compF Try.prog (Gl.none Try.prog) Try.f65 2=.mk d65 (mkTT 28) [(P 0),(P 1)] [.tmp (P 4),.tmp (P 5)]:=by kernel_rfl
theorem dg65 : Try.prog.funcs[65]?=some Try.f65:=Try.func65
theorem do65 : okF Try.prog Try.f65=true:=by kernel_rfl
def shr (S : Int) (v : Nat→Int) (p : Nat) : Int×Int:=if v p=0 then (0,0) else ((v p*S)/sm v 8,(v p*S)%sm v 8)
def vok (v : Nat→Int) : Prop:=∀ p,p<8→0≤v p∧v p≤10000
theorem vts_vok {L : Int} {c : Nat→Int} (h : ∀ i,i<8→0≤c i∧c i≤10000) : vok (vts L c):=fun p hp=>vts_bd (h p hp)
theorem sm_bd {v : Nat→Int} (h : vok v) : 0≤sm v 8∧sm v 8≤80000:=by
 have h1:=sm_le (s:=fun _=>0) (t:=v) (n:=8) (fun p hp=>(h p hp).1)
 have h2:=sm_le (s:=v) (t:=fun _=>10000) (n:=8) (fun p hp=>(h p hp).2)
 rw[sm_0] at h1
 have e : sm (fun _=>10000) 8=80000:=rfl
 omega
theorem sm_ge {v : Nat→Int} (h : vok v) {p : Nat} (hp : p<8) : v p≤sm v 8:=by
 have h2:=sm_le (s:=fun i=>if i=p then v i else 0) (t:=v) (n:=8) (fun i hi=>by have:=(h i hi).1;show (if i=p then v i else 0)≤v i;split<;>omega)
 have e : ∀ n,p<n→sm (fun i=>if i=p then v i else 0) n=v p:=by
  intro n
  induction n with
  | zero=>intro h;omega
  | succ n ih=>
   intro hn
   simp only[sm]
   by_cases hpn : p=n
   ·subst hpn
    rw[if_pos rfl,sm_cong (t:=fun _=>0) (fun i hi=>if_neg (by omega)),sm_0]
    omega
   ·rw[ih (by omega),if_neg (by omega)]
    omega
 rw[e 8 hp] at h2
 exact h2
theorem vS_bd {a S : Int} (ha : 0≤a∧a≤10000) (hS : 0≤S∧S≤61) : 0≤a*S∧a*S≤610000:=⟨Int.mul_nonneg ha.1 hS.1,Int.le_trans (Int.mul_le_mul ha.2 hS.2 hS.1 (by omega)) (by omega)⟩
theorem shr_bd {S : Int} {v : Nat→Int} (hv : vok v) (hS : 0≤S∧S≤61) {p : Nat} (hp : p<8) : (0≤(shr S v p).1∧(shr S v p).1≤610000)∧0≤(shr S v p).2∧(shr S v p).2≤80000∧(v p≠0→(shr S v p).2<sm v 8):=by
 unfold shr
 split
 ·exact⟨by simp,by simp,by simp,fun h=>absurd (by assumption) h⟩
 ·have h1:=vS_bd (hv p hp) hS
  have h2:=sm_ge hv hp
  have h3:=(hv p hp).1
  have h4:=sm_bd hv
  have h5 : 0<sm v 8:=by omega
  have h6:=Int.emod_nonneg (v p*S) (Int.ne_of_gt h5)
  have h7:=Int.emod_lt_of_pos (v p*S) h5
  have h8:=Int.ediv_nonneg h1.1 (Int.le_of_lt h5)
  have h9:=Int.ediv_le_self (sm v 8) h1.1
  simp only
  exact⟨⟨h8,by omega⟩,h6,by omega,fun _=>h7⟩
theorem f65_ok {H : Heap} {m S L : Int} {c v : Nat→Int} {d k : Value} {p : Nat} (hp : p<8) (hv : vok v) (hS : 0≤S∧S≤61) : Gives Try.prog 65 [.agg ⟨pc m S L c v (sm v 8) d k⟩,I p] H (.tuple ⟨[I (shr S v p).1,I (shr S v p).2]⟩):=by
 have ia:=idx_arr (i:=H.next) (o:=11) (kd:=.i64) hp
 have hvp:=pc_v (m:=m) (S:=S) (L:=L) (c:=c) (v:=v) (tot:=sm v 8) (d:=d) (k:=k) hp
 refine F.entryL rfl dg65 do65 de65 rfl (by kernel_rfl) ?_
 simp only[sets]
 refine V.re [(0,.agg ⟨pc m S L c v (sm v 8) d k⟩),(1,I p)] (N:=28) zE zY ?_
 intro t hF hA
 simp only[Kn,and_true] at hA
 refine zS ?_
 refine V.l0 ?_
 refine V.heap (fun X=>Grow H X∧Bx X H.next (pc m S L c v (sm v 8) d k) 83) ⟨?_,?_⟩ ?_
 ·exact zW
 ·exact zB
 rintro H1 ⟨g1,b1⟩
 refine zS ?_
 have zf:=And.intro b1.2<|And.intro @PC<|And.intro @ia<|@hvp
 refine V.lz ?_
 refine zS ?_
 refine V.condP zP (fun hz=>?_) (fun hz=>?_)
 ·refine zS ?_
  refine V.l0 ?_
  refine zS ?_
  refine V.ret (V.rets rfl (Lv.retG (by simp +contextual (disch:=first|omega|simp only[nx];omega) only[D1,cells_alloc_at,cells_alloc_ne,cells_set_at,cells_set_ne,yres,yres1,yresL,qA,qB,qC,D5,hF,hA,↓reduceIte,qD,qE];rfl) ?_ ?_))
  ·exact g1
  ·unfold shr;rw[if_pos hz]
 ·have h1:=vS_bd (hv p hp) hS
  have h2:=sm_ge hv hp
  have h3:=(hv p hp).1
  have h5 : 0<sm v 8:=by omega
  have h6 : ¬ sm v 8=0:=by omega
  have h7:=tdiv_bd h1.1 h5
  refine zS ?_
  have zf:=And.intro b1.2<|And.intro @PC<|And.intro @ia<|@hvp
  refine V.dz ?_ ?_ rfl ?_
  ·exact zM
  ·simp only[dcAll,dcOk,wantD,List.cons_append,List.nil_append,true_and,and_true]
  refine zS ?_
  have zf:=And.intro b1.2<|And.intro @PC<|@h6
  refine V.dz ?_ ?_ rfl ?_
  ·exact zM
  ·simp only[dcAll,dcOk,wantD,List.cons_append,List.nil_append,true_and,and_true]
  refine zS ?_
  refine V.ret (V.rets rfl (Lv.retG (by simp +contextual (disch:=first|omega|simp only[nx];omega) only[D1,cells_alloc_at,cells_alloc_ne,cells_set_at,cells_set_ne,yres,yres1,yresL,qA,qB,qC,D5,hF,hA,↓reduceIte,qD,qE];rfl) ?_ ?_))
  ·exact g1
  ·unfold shr
   rw[if_neg hz,Int.tdiv_eq_ediv_of_nonneg h1.1,Int.tmod_eq_emod_of_nonneg h1.1]
def dsq (m s : Int) : Int:=if m=4 then s*(s+1) else if m=3 then (2*s+1)*(2*s+1) else if m=2 then (s+1)*(s+1) else s*s
def clq (m S : Int) (v : Nat→Int) (p : Nat) (s : Int) : Q2:=
 if m=5 then (if s<(shr S v p).1 then (1,0) else if s=(shr S v p).1 then ((shr S v p).2,sm v 8) else (0,1)) else (v p*v p,dsq m s)
end Go.Xe.TVX
/- What the functions of the layer seat come to: quotients of all parties, one by one. Conditions: none. -/
-- MOD TV
namespace Go.Xe.TVX
open Go Go.Xe Go.Proofs
open Nat renaming reduceLeDiff → qA, reduceSub → qB, reduceAdd → qC, reduceEqDiff → qD, reduceLT → qE
open Int renaming reduceNegSucc → qF, reduceEq → qG
open Go.Xe.V renaming seq → sA, block → sB, scope → sC, skip → sD, close → sE
open Go.Xe renaming pth → P
open Go.Xe.Sea
set_option maxRecDepth 100000
set_option maxHeartbeats 3200000
set_option linter.unusedSimpArgs false
theorem sm_pos {v : Nat→Int} (hv : vok v) {p : Nat} (hp : p<8) (h : 0<v p) : 0<sm v 8:=by
 have:=sm_ge hv hp;omega
theorem kl_int {n : Int} (h : (Lit.int .i64 n).wf=true) (k : Nat) : Try.prog.keyLits (k+1) 3 [I n]=some [.int .i64 n]:=by
 unfold Program.keyLits
 simp only[Try.underlying3]
 rw[if_pos ⟨trivial,h⟩]
theorem wf_k {x : Int} (h1 : -1000000000≤x) (h2 : x≤1000000000) : (Lit.int .i64 x).wf=true:=by
 simp only[Lit.wf,Bool.and_eq_true,decide_eq_true_eq]
 show (-9223372036854775808 : Int)≤x∧x≤9223372036854775807
 omega
end Go.Xe.TVX
/- What the functions of the layer seat come to: the parties that may be next. Conditions: none. -/
-- MOD TV
namespace Go.Xe.TVX
open Go Go.Xe Go.Proofs
open Nat renaming reduceLeDiff → qA, reduceSub → qB, reduceAdd → qC, reduceEqDiff → qD, reduceLT → qE
open Int renaming reduceNegSucc → qF, reduceEq → qG
open Go.Xe.V renaming seq → sA, block → sB, scope → sC, skip → sD, close → sE
open Go.Xe renaming pth → P
open Go.Xe.Sea
set_option maxRecDepth 100000
set_option maxHeartbeats 3200000
set_option linter.unusedSimpArgs false
end Go.Xe.TVX
/- What the functions of the layer seat come to: seats that are given, and results. Conditions: none. -/
-- MOD TV
namespace Go.Xe.TVX
open Go Go.Xe Go.Proofs
open Nat renaming reduceLeDiff → qA, reduceSub → qB, reduceAdd → qC, reduceEqDiff → qD, reduceLT → qE
open Int renaming reduceNegSucc → qF, reduceEq → qG
open Go.Xe.V renaming seq → sA, block → sB, scope → sC, skip → sD, close → sE
open Go.Xe renaming pth → P
open Go.Xe.Sea
set_option maxRecDepth 100000
set_option maxHeartbeats 3200000
set_option linter.unusedSimpArgs false
structure GCx (m S L : Int) (c v : Nat→Int) (pp pl ph pg : Nat) (X : Heap) (low : Nat→Int) : Prop where
 p : Bx X pp (pc m S L c v (sm v 8) (dvf m) (clf m)) 83
 l : Bx X pl (n8 low) 78
 h : Bx X ph (n8 low) 78
 g : Bx X pg [.func (.func 97) ⟨[]⟩ ⟨[PT pp,PT pl,PT ph,PT pg]⟩] 126
end Go.Xe.TVX
/- What the functions of the layer seat come to: results. Conditions: none. -/
-- MOD TV
namespace Go.Xe.TVX
open Go Go.Xe Go.Proofs
open Nat renaming reduceLeDiff → qA, reduceSub → qB, reduceAdd → qC, reduceEqDiff → qD, reduceLT → qE
open Int renaming reduceNegSucc → qF, reduceEq → qG
open Go.Xe.V renaming seq → sA, block → sB, scope → sC, skip → sD, close → sE
open Go.Xe renaming pth → P
open Go.Xe.Sea
set_option maxRecDepth 100000
set_option maxHeartbeats 3200000
set_option linter.unusedSimpArgs false
def otc (m S : Int) (v : Nat→Int) : (Nat→Int)×(Nat→Int):=giv v (clq m S v) 62 S (fun _=>0)
def eq8 (f g : Nat→Int) : Prop:=∀ i,i<8→f i=g i
instance (f g : Nat→Int) : Decidable (eq8 f g):=Nat.decidableBallLT 8 fun i _=>f i=g i
def sure (m S : Int) (v : Nat→Int) : Prop:=eq8 (otc m S v).1 (otc m S v).2
instance (m S : Int) (v : Nat→Int) : Decidable (sure m S v):=by unfold sure;infer_instance
end Go.Xe.TVX
