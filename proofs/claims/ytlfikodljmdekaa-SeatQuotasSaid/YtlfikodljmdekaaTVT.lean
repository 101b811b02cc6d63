/- What the functions of the layer seat come to: SeatKind. Conditions: none. -/
import Derived.Test.YtlfikodljmdekaaTVJ
-- MOD TV
namespace Go.Xe.TVX
open Go Go.Xe Go.Proofs
open Nat renaming reduceLeDiff → qA, reduceSub → qB, reduceAdd → qC, reduceEqDiff → qD, reduceLT → qE
open Int renaming reduceNegSucc → qF, reduceEq → qG
open Go.Xe.V renaming seq → sA, block → sB, scope → sC, skip → sD, close → sE
open Go.Xe renaming pth → P
open Go.Xe.Sea
set_option maxRecDepth 100000
set_option maxHeartbeats 3200000
set_option linter.unusedSimpArgs false
theorem SR.ok {m S L : Int} {l : List Int} {X : Heap} {w : Value} (h : SR m S L l X w) (h0 : flt m S L l=0) : ∃ y e,w=.tuple ⟨[y,I e]⟩∧((¬ sure m S (vl L l)∧y=.slice none 0 0∧e=10)∨(sure m S (vl L l)∧e=0∧LS X y (fl l.length (otc m S (vl L l)).1))):=by
 obtain⟨y,e,hw,h⟩:=h
 refine⟨y,e,hw,?_⟩
 rcases h with⟨h,_⟩|⟨_,h⟩|⟨_,h⟩
 ·exact absurd h0 h
 ·exact .inl h
 ·exact .inr h
end Go.Xe.TVX
/- What the functions of the layer seat come to: SeatVotes. Conditions: none. -/
-- MOD TV
namespace Go.Xe.TVX
open Go Go.Xe Go.Proofs
open Nat renaming reduceLeDiff → qA, reduceSub → qB, reduceAdd → qC, reduceEqDiff → qD, reduceLT → qE
open Int renaming reduceNegSucc → qF, reduceEq → qG
open Go.Xe.V renaming seq → sA, block → sB, scope → sC, skip → sD, close → sE
open Go.Xe renaming pth → P
open Go.Xe.Sea
set_option maxRecDepth 100000
set_option maxHeartbeats 3200000
set_option linter.unusedSimpArgs false
noncomputable def d36 : FCode:=(.seq (.run (.go (.box 23 (tm 0)) (P 2)::
.go (.move (.con (.int .i64 (.ofNat 0)))) (P 4)::
[])) (.seq (.run (.go (.move (.con (.int .i64 (.ofNat 0)))) (P 5)::
[])) (.seq (.seq (.run (.go (.move (.con (.int .i64 (.ofNat 0)))) (P 6)::
[])) (.block 0 (.loop (.seq (.seq (.run (.go (.move (tm 6)) (P 7)::
.go (.move (tm 1)) (P 8)::
.go (.len 0 (tm 8)) (P 9)::
.go (.bin .lss 3 (tm 7) (tm 9)) (P 10)::
[])) (.cond (tm 10) .skip (.exit 0))) (.seq (.block 1 (.seq (.draw 6 (.go (.loadN 3 (tm 2)) (P 13)::
.go (.move (tm 1)) (P 14)::
.go (.move (tm 6)) (P 15)::
.go (.indexAddr none 1 (tm 14) (tm 15)) (P 16)::
.go (.load1 (tm 16)) (P 17)::
.go (.call (.con (.func (.func 37) ⟨[]⟩ ⟨[]⟩)) [(tm 13),(tm 17)]) (P 18)::
[]) [.ok,.ok,.ok,.ok,.ok,.ok]) (.cond (tm 18) (.run (.go (.move (tm 5)) (P 19)::
.go (.move (tm 1)) (P 20)::
.go (.move (tm 6)) (P 21)::
.go (.indexAddr none 1 (tm 20) (tm 21)) (P 22)::
.go (.load1 (tm 22)) (P 23)::
.go (.bin .add 3 (tm 19) (tm 23)) (P 24)::
.go (.move (tm 24)) (P 5)::
[])) .skip))) (.run (.go (.move (tm 6)) (P 11)::
.go (.bin .add 3 (tm 11) (.con (.int .i64 (.ofNat 1)))) (P 12)::
.go (.move (tm 12)) (P 6)::
[]))))))) (.seq (.run (.go (.move (tm 5)) (P 25)::
.go (.move (tm 25)) (P 4)::
[])) .ret))))
theorem de36 : @compF Try.prog (Gl.none Try.prog) Try.f36 2=.mk d36 (mkTT 26) [(P 0),(P 1)] [.tmp (P 4)]:=by kernel_rfl
theorem dg36 : Try.prog.funcs[36]?=some Try.f36:=Try.func36
theorem do36 : okF Try.prog Try.f36=true:=by kernel_rfl
theorem sm_out {v : Nat→Int} : ∀ {k n : Nat},(∀ p,n≤p→v p=0)→sm v (n+k)=sm v n
 | 0,_,_=>rfl
 | k+1,n,h=>by
  show sm v (n+k)+v (n+k)=_
  rw[sm_out h,h (n+k) (by omega)];omega
theorem vl_sum {L : Int} {l : List Int} (hl : l.length≤8) : sm (vl L l) 8=sm (vl L l) l.length:=by
 have:=sm_out (v:=vl L l) (n:=l.length) (k:=8-l.length) (fun p hp=>vl_out hp)
 rw[show l.length+(8-l.length)=8 by omega] at this
 exact this
theorem f36_ok {H : Heap} {m S L : Int} {x : Value} {l : List Int} (h : LS H x l) (hl8 : l.length≤8) (hb : ∀ v∈l,0≤v∧v≤10000) : Gives Try.prog 36 [.agg ⟨A3 m S L⟩,x] H (I (sm (vl L l) 8)):=by
 have hl:=h.len
 obtain⟨px,nx',cx,rfl⟩:=h.s.isS
 refine F.entryL rfl dg36 do36 de36 rfl (by kernel_rfl) ?_
 simp only[sets]
 refine V.re [(0,.agg ⟨A3 m S L⟩),(1,.slice px nx' cx)] (N:=26) zE zY ?_
 intro t hF hA
 simp only[Kn,and_true] at hA
 refine zS ?_
 refine V.l0 ?_
 refine V.heap (fun X=>Grow H X∧Bx X H.next (A3 m S L) 23) ⟨?_,?_⟩ ?_
 ·exact zW
 ·exact zB
 rintro H1 ⟨g1,b1⟩
 refine zS ?_
 refine V.l0 ?_
 refine zS ?_
 refine V.l0 ?_
 refine zS ?_
 refine V.loop (fun z t mm X=>∃ (k : Nat),k≤l.length∧z=l.length-k∧mm=[]∧Grow H X∧Bx X H.next (A3 m S L) 23∧(0≤sm (vl L l) k∧sm (vl L l) k≤10000*k)∧Full 26 t∧Kn [(1,.slice px nx' cx),(2,PT H.next),(5,I (sm (vl L l) k)),(6,I k)] t) l.length ?_ ?_
 ·exact⟨0,by omega,by omega,rfl,g1,b1,by simp[sm],zF,zK⟩
 clear hF hA
 rintro z t mm X ⟨k,hk,rfl,rfl,hg,bx,hsb,hF,hA⟩
 simp only[Kn,and_true] at hA
 refine zS ?_
 have zf:=@hl
 refine V.lz ?_
 refine zS ?_
 refine V.condP zP (fun hlt=>?_) (fun hlt=>?_)
 ·have hlt' : k<l.length:=by omega
  obtain⟨p,hp,hx⟩:=h.at hlt'
  have hx1:=hx X hg
  have hbk:=hb _ (List.getElem_mem hlt')
  have ev : sm (vl L l) (k+1)=sm (vl L l) k+(if adm L l[k] then l[k] else 0):=by
   show sm (vl L l) k+vl L l k=_
   congr 1
   unfold vl vts
   rw[gl0_at hlt']
  refine zS ?_
  refine V.draw ?_
  have zf:=And.intro bx.2<|And.intro @hp<|@hx1
  refine VD.nz 5 ?_
  simp only[ds]
  refine VD.callA zA (f37_ok m S L l[k] X) zA (fun X2 g2=>?_)
  have bx2:=bx.grow g2
  have hg2:=hg.trans g2
  have hx2:=hx X2 hg2
  have m2:=g2.1
  refine VD.d0 ?_ ?_ rfl ?_
  ·exact zM
  ·simp only[dcAll,dcOk,wantD,List.cons_append,List.nil_append,true_and,and_true]
  refine zS ?_
  refine V.condP zP (fun ha=>?_) (fun ha=>?_)
  ·rw[if_pos ha] at ev
   refine zS ?_
   have zf:=And.intro @hp<|@hx2
   refine V.lz ?_
   refine zS ?_
   refine V.l0 ?_
   refine V.nil (Or.inl ⟨rfl,l.length-(k+1),by omega,?_⟩)
   refine⟨k+1,hlt',rfl,rfl,hg2,bx2,by rw[ev];omega,?_⟩
   rw[ev]
   exact⟨zF,zK⟩
  ·rw[if_neg ha] at ev
   refine zS ?_
   refine V.l0 ?_
   refine V.nil (Or.inl ⟨rfl,l.length-(k+1),by omega,?_⟩)
   refine⟨k+1,hlt',rfl,rfl,hg2,bx2,by rw[ev];omega,?_⟩
   rw[ev,Int.add_zero]
   exact⟨zF,zK⟩
 ·obtain rfl : k=l.length:=by omega
  refine V.exit ?_
  refine zX ?_
  refine V.nil (Or.inr ⟨by simp,?_⟩)
  refine zX ?_
  refine zS ?_
  refine V.l0 ?_
  refine zS ?_
  refine V.ret (V.rets rfl (Lv.retG (by simp +contextual (disch:=first|omega|simp only[nx];omega) only[D1,cells_alloc_at,cells_alloc_ne,cells_set_at,cells_set_ne,yres,yres1,yresL,qA,qB,qC,D5,hF,hA,↓reduceIte,qD,qE];rfl) ?_ ?_))
  ·exact hg
  ·rw[vl_sum hl8]
end Go.Xe.TVX
/- What the functions of the layer seat come to: SeatVotes. Conditions: none. -/
-- MOD TV
namespace Go.Xe.TVX
open Go Go.Xe Go.Proofs
open Nat renaming reduceLeDiff → qA, reduceSub → qB, reduceAdd → qC, reduceEqDiff → qD, reduceLT → qE
open Int renaming reduceNegSucc → qF, reduceEq → qG
open Go.Xe.V renaming seq → sA, block → sB, scope → sC, skip → sD, close → sE
open Go.Xe renaming pth → P
open Go.Xe.Sea
set_option maxRecDepth 100000
set_option maxHeartbeats 3200000
set_option linter.unusedSimpArgs false
end Go.Xe.TVX
/- What the functions of the layer seat come to: one seat more. Conditions: none. -/
-- MOD TV
namespace Go.Xe.TVX
open Go Go.Xe Go.Proofs
open Nat renaming reduceLeDiff → qA, reduceSub → qB, reduceAdd → qC, reduceEqDiff → qD, reduceLT → qE
open Int renaming reduceNegSucc → qF, reduceEq → qG
open Go.Xe.V renaming seq → sA, block → sB, scope → sC, skip → sD, close → sE
open Go.Xe renaming pth → P
open Go.Xe.Sea
set_option maxRecDepth 100000
set_option maxHeartbeats 3200000
set_option linter.unusedSimpArgs false
end Go.Xe.TVX
/- What the functions of the layer seat come to: SeatHouse. Conditions: none. -/
-- MOD TV
namespace Go.Xe.TVX
open Go Go.Xe Go.Proofs
open Nat renaming reduceLeDiff → qA, reduceSub → qB, reduceAdd → qC, reduceEqDiff → qD, reduceLT → qE
open Int renaming reduceNegSucc → qF, reduceEq → qG
open Go.Xe.V renaming seq → sA, block → sB, scope → sC, skip → sD, close → sE
open Go.Xe renaming pth → P
open Go.Xe.Sea
set_option maxRecDepth 100000
set_option maxHeartbeats 3200000
set_option linter.unusedSimpArgs false
end Go.Xe.TVX
/- What the functions of the layer seat come to: SeatHouse. Conditions: none. -/
-- MOD TV
namespace Go.Xe.TVX
open Go Go.Xe Go.Proofs
open Nat renaming reduceLeDiff → qA, reduceSub → qB, reduceAdd → qC, reduceEqDiff → qD, reduceLT → qE
open Int renaming reduceNegSucc → qF, reduceEq → qG
open Go.Xe.V renaming seq → sA, block → sB, scope → sC, skip → sD, close → sE
open Go.Xe renaming pth → P
open Go.Xe.Sea
set_option maxRecDepth 100000
set_option maxHeartbeats 3200000
set_option linter.unusedSimpArgs false
end Go.Xe.TVX
/- What the functions of the layer seat come to: shares, rounded down and up. Conditions: none. -/
-- MOD TV
namespace Go.Xe.TVX
open Go Go.Xe Go.Proofs
open Nat renaming reduceLeDiff → qA, reduceSub → qB, reduceAdd → qC, reduceEqDiff → qD, reduceLT → qE
open Int renaming reduceNegSucc → qF, reduceEq → qG
open Go.Xe.V renaming seq → sA, block → sB, scope → sC, skip → sD, close → sE
open Go.Xe renaming pth → P
open Go.Xe.Sea
set_option maxRecDepth 100000
set_option maxHeartbeats 3200000
set_option linter.unusedSimpArgs false
noncomputable def d35 : FCode:=(.seq (.run (.go (.box 28 (tm 0)) (P 2)::
.go (.move (.con (.slice none 0 0))) (P 4)::
.go (.move (.con (.int .i64 (.ofNat 0)))) (P 5)::
[])) (.seq (.seq (.run (.go (.loadN 3 (tm 2)) (P 12)::
.go (.move (tm 1)) (P 13)::
.go (.call (.con (.func (.func 54) ⟨[]⟩ ⟨[]⟩)) [(tm 12),(tm 13)]) (P 14)::
.go (.move (tm 14)) (P 6)::
[])) (.seq (.run (.go (.move (tm 6)) (P 15)::
.go (.bin .neq 26 (tm 15) (.con (.int .i64 (.ofNat 0)))) (P 16)::
[])) (.cond (tm 16) (.seq (.run (.go (.move (tm 6)) (P 17)::
.go (.move (.con (.slice none 0 0))) (P 4)::
.go (.move (tm 17)) (P 5)::
[])) .ret) .skip))) (.seq (.run (.go (.loadN 3 (tm 2)) (P 18)::
.go (.move (tm 1)) (P 19)::
.go (.call (.con (.func (.func 55) ⟨[]⟩ ⟨[]⟩)) [(tm 18),(tm 19)]) (P 20)::
.go (.alloc 83 [(.int .u8 (.ofNat 0)),(.int .i64 (.ofNat 0)),(.int .i64 (.ofNat 0)),(.int .i64 (.ofNat 0)),(.int .i64 (.ofNat 0)),(.int .i64 (.ofNat 0)),(.int .i64 (.ofNat 0)),(.int .i64 (.ofNat 0)),(.int .i64 (.ofNat 0)),(.int .i64 (.ofNat 0)),(.int .i64 (.ofNat 0)),(.int .i64 (.ofNat 0)),(.int .i64 (.ofNat 0)),(.int .i64 (.ofNat 0)),(.int .i64 (.ofNat 0)),(.int .i64 (.ofNat 0)),(.int .i64 (.ofNat 0)),(.int .i64 (.ofNat 0)),(.int .i64 (.ofNat 0)),(.int .i64 (.ofNat 0)),.nilFunc,.nilFunc]) (P 7)::
.un (.store 22 (tm 7) (tm 20))::
[])) (.seq (.run (.go (.move (.con (.slice none 0 0))) (P 8)::
[])) (.seq (.seq (.run (.go (.move (tm 1)) (P 21)::
.go (.len 0 (tm 21)) (P 22)::
.go (.move (.con (.int .i64 (.ofNat 0)))) (P 23)::
[])) (.block 0 (.loop (.seq (.run (.go (.bin .lss 3 (tm 23) (tm 22)) (P 24)::
[])) (.seq (.cond (tm 24) .skip (.exit 0)) (.seq (.block 1 (.seq (.run (.go (.move (tm 23)) (P 25)::
.go (.move (tm 25)) (P 9)::
[])) (.seq (.run (.go (.loadN 22 (tm 7)) (P 27)::
.go (.move (tm 9)) (P 28)::
.go (.call (.con (.func (.func 65) ⟨[]⟩ ⟨[]⟩)) [(tm 27),(tm 28)]) (P 29)::
.go (.move (tm 29)) (P 26)::
.go (.extract (tm 26) 0) (P 30)::
.go (.extract (tm 26) 1) (P 31)::
.go (.move (tm 30)) (P 10)::
.go (.move (tm 31)) (P 11)::
[])) (.run (.go (.move (tm 8)) (P 32)::
.go (.move (tm 10)) (P 33)::
.go (.move (tm 10)) (P 34)::
.go (.move (tm 11)) (P 35)::
.go (.mm false [(tm 35),(.con (.int .i64 (.ofNat 1)))]) (P 36)::
.go (.bin .add 3 (tm 34) (tm 36)) (P 37)::
.go (.build [(.int .i64 (.ofNat 0)),(.int .i64 (.ofNat 0))] [(0,1,(tm 33)),(1,1,(tm 37))]) (P 38)::
.go (.buildSlice 49 1 [(.int .i64 (.ofNat 0)),(.int .i64 (.ofNat 0))] [(0,2,(tm 38))]) (P 39)::
.go (.append 49 2 16 (tm 32) (tm 39)) (P 40)::
.go (.move (tm 40)) (P 8)::
[]))))) (.run (.go (.bin .add 3 (tm 23) (.con (.int .i64 (.ofNat 1)))) (P 41)::
.go (.move (tm 41)) (P 23)::
[])))))))) (.seq (.run (.go (.move (tm 8)) (P 42)::
.go (.move (tm 42)) (P 4)::
.go (.move (.con (.int .i64 (.ofNat 0)))) (P 5)::
[])) .ret))))))
theorem de35 : @compF Try.prog (Gl.none Try.prog) Try.f35 2=.mk d35 (mkTT 43) [(P 0),(P 1)] [.tmp (P 4),.tmp (P 5)]:=by kernel_rfl
theorem dg35 : Try.prog.funcs[35]?=some Try.f35:=Try.func35
theorem do35 : okF Try.prog Try.f35=true:=by kernel_rfl
def shi (S : Int) (v : Nat→Int) (p : Nat) : Int:=(shr S v p).1+(if 1<(shr S v p).2 then 1 else (shr S v p).2)
def qro (S : Int) (v : Nat→Int) (k : Nat) : List (List Value):=(List.range k).map fun p=>A2 (shr S v p).1 (shi S v p)
theorem qro_len (S : Int) (v : Nat→Int) (k : Nat) : (qro S v k).length=k:=by simp[qro]
theorem qro_w (S : Int) (v : Nat→Int) (k : Nat) : ∀ x∈qro S v k,x.length=2:=by
 intro x hx
 obtain⟨p,_,rfl⟩:=List.mem_map.1 hx
 rfl
theorem qro_1 (S : Int) (v : Nat→Int) (k : Nat) : qro S v (k+1)=qro S v k++[A2 (shr S v k).1 (shi S v k)]:=by simp[qro,List.range_succ]
theorem qro_at {S : Int} {v : Nat→Int} {k p : Nat} (h : p<k) : (qro S v k)[p]?=some (A2 (shr S v p).1 (shi S v p)):=by simp[qro,h]
def QTA (m S L : Int) (l : List Int) (H X : Heap) (w : Value) : Prop:=∃ y e,w=.tuple ⟨[y,I e]⟩∧((flt m S L l≠0∧y=.slice none 0 0∧e=flt m S L l)∨(flt m S L l=0∧e=0∧OwW 2 H X 49 y (qro S (vl L l) l.length)))
theorem f35_ok {H : Heap} {m S L : Int} {x : Value} {l : List Int} (h : LS H x l) : F Try.prog 35 ⟨[.agg ⟨A3 m S L⟩,x]⟩ H (fun w X=>Grow H X∧QTA m S L l H X w):=by
 have hl:=h.len
 obtain⟨px,nx',cx,rfl⟩:=h.s.isS
 refine F.entryL rfl dg35 do35 de35 rfl (by kernel_rfl) ?_
 simp only[sets]
 refine V.re [(0,.agg ⟨A3 m S L⟩),(1,.slice px nx' cx)] (N:=43) zE zY ?_
 intro t hF hA
 simp only[Kn,and_true] at hA
 refine zS ?_
 refine V.l0 ?_
 refine V.heap (fun X=>Grow H X∧Bx X H.next (A3 m S L) 28) ⟨?_,?_⟩ ?_
 ·exact zW
 ·exact zB
 rintro H1 ⟨g1,b1⟩
 refine zS ?_
 refine V.run ?_
 have zf:=b1.2
 refine VI.sz 2 ?_
 simp only[ds]
 refine VI.callA rfl (f54_ok (m:=m) (S:=S) (L:=L) (h.grow g1)) zA (fun H2 g2=>?_)
 have b2:=b1.grow g2
 have g12:=g1.trans g2
 refine VI.l0 ?_
 refine zS ?_
 refine V.l0 ?_
 refine zS ?_
 refine V.condP zP (fun he=>?_) (fun he=>?_)
 ·refine zS ?_
  refine V.l0 ?_
  refine zS ?_
  refine V.ret (V.rets rfl (Lv.retF (by simp +contextual (disch:=first|omega|simp only[nx];omega) only[D1,cells_alloc_at,cells_alloc_ne,cells_set_at,cells_set_ne,yres,yres1,yresL,qA,qB,qC,D5,hF,hA,↓reduceIte,qD,qE];rfl) ?_))
  exact⟨g12,_,_,rfl,.inl ⟨he,rfl,rfl⟩⟩
 have he0 : flt m S L l=0:=Decidable.not_not.1 he
 obtain⟨hr,hl8,hb⟩:=flt_0.1 he0
 have hm : 1≤m∧m≤5:=⟨hr.1,hr.2.1⟩
 have hvk:=vl_ok (L:=L) hb
 have hS : 0≤S∧S≤61:=⟨hr.2.2.1,by have:=hr.2.2.2.1;omega⟩
 have hok:=pc_ok (m:=m) (S:=S) (L:=L) (c:=gl0 l) (v:=vl L l) (tot:=sm (vl L l) 8) (dvf_ok m) (clf_ok m)
 have epu:=pc_put (m:=m) (S:=S) (L:=L) (c:=gl0 l) (v:=vl L l) (tot:=sm (vl L l) 8) (d:=dvf m) (k:=clf m) (x:=[.int .u8 0,I 0,I 0,I 0,I 0,I 0,I 0,I 0,I 0,I 0,I 0,I 0,I 0,I 0,I 0,I 0,I 0,I 0,I 0,I 0,.nilFunc,.nilFunc]) rfl
 refine zS ?_
 refine V.run ?_
 have zf:=b2.2
 refine VI.sz 2 ?_
 simp only[ds]
 refine VI.callA rfl (f55_ok (m:=m) (S:=S) (L:=L) (h.grow g12) hl8 hb hm) zA (fun H3 g3=>?_)
 have g13:=g12.trans g3
 have n3:=g13.1
 have zf:=And.intro @PC<|And.intro @hok<|@epu
 refine VI.lz ?_
 refine V.heap (fun X=>Grow H X∧Bx X H3.next (pw m S L (gl0 l)) 83) ⟨?_,?_⟩ ?_
 ·exact zW
 ·exact Bx.put (by simp only[Heap.next_alloc];omega) _ _
 rintro H4 ⟨g4,b4⟩
 refine zS ?_
 refine V.l0 ?_
 refine zS ?_
 have zf:=@hl
 refine V.lz ?_
 refine zS ?_
 refine V.loop (fun z t mm X=>∃ (k : Nat) (w : Value),k≤l.length∧z=l.length-k∧mm=[]∧Grow H4 X∧OwW 2 H4 X 49 w (qro S (vl L l) k)∧Full 43 t∧Kn [(7,PT H3.next),(8,w),(22,I l.length),(23,I k)] t) l.length ?_ ?_
 ·exact⟨0,_,by omega,by omega,rfl,.refl _,.nil,zF,zK⟩
 clear hF hA
 rintro z t mm X ⟨k,w,hk,rfl,rfl,hg,ow,hF,hA⟩
 simp only[Kn,and_true] at hA
 have bx:=b4.grow hg
 refine zS ?_
 refine V.l0 ?_
 refine zS ?_
 refine V.condP zP (fun hlt=>?_) (fun hlt=>?_)
 ·have hlt' : k<l.length:=by omega
  have hsb:=shr_bd hvk hS (show k<8 by omega)
  refine zS ?_
  refine V.l0 ?_
  refine zS ?_
  refine V.run ?_
  have zf:=And.intro bx.2<|@PC
  refine VI.sz 2 ?_
  simp only[ds]
  refine VI.callA rfl (f65_ok (m:=m) (S:=S) (L:=L) (c:=gl0 l) (d:=dvf m) (k:=clf m) (show k<8 by omega) hvk hS) zA (fun X2 g2'=>?_)
  have hg2:=hg.trans g2'
  have ow2:=ow.keep g2'
  refine VI.l0 ?_
  refine zS ?_
  obtain⟨u,Y,a1,a2,a3,a4,a5,a6⟩:=OwW.push (bytes:=16) (x:=A2 (shr S (vl L l) k).1 (shi S (vl L l) k)) (by decide) hg2 ow2 (qro_w _ _ _) rfl rfl (by rw[qro_len];omega) (by rw[qro_len];omega)
  have hsh : (shr S (vl L l) k).1+(if 1<(shr S (vl L l) k).2 then 1 else (shr S (vl L l) k).2)=shi S (vl L l) k:=rfl
  have hsb2 : 0≤(if 1<(shr S (vl L l) k).2 then 1 else (shr S (vl L l) k).2)∧(if 1<(shr S (vl L l) k).2 then 1 else (shr S (vl L l) k).2)≤1:=by split<;>omega
  obtain⟨mn,hmn⟩ : ∃ mn,mn=(if 1<(shr S (vl L l) k).2 then 1 else (shr S (vl L l) k).2):=⟨_,rfl⟩
  rw[← hmn] at hsh hsb2
  have hmn2:=hmn.symm
  have zf:=And.intro @hmn2<|And.intro @hsh<|@a1
  refine V.lz ?_
  refine zS ?_
  refine V.l0 ?_
  refine V.nil (Or.inl ⟨rfl,l.length-(k+1),by omega,?_⟩)
  refine⟨k+1,u,by omega,rfl,rfl,a3,?_,zF,zK⟩
  rw[qro_1]
  exact a2
 ·obtain rfl : k=l.length:=by omega
  refine V.exit ?_
  refine zX ?_
  refine V.nil (Or.inr ⟨by simp,?_⟩)
  refine zX ?_
  refine zS ?_
  refine V.l0 ?_
  refine zS ?_
  refine V.ret (V.rets rfl (Lv.retF (by simp +contextual (disch:=first|omega|simp only[nx];omega) only[D1,cells_alloc_at,cells_alloc_ne,cells_set_at,cells_set_ne,yres,yres1,yresL,qA,qB,qC,D5,hF,hA,↓reduceIte,qD,qE];rfl) ?_))
  exact⟨g4.trans hg,_,_,rfl,.inr ⟨he0,rfl,ow.base g4.1⟩⟩
end Go.Xe.TVX
