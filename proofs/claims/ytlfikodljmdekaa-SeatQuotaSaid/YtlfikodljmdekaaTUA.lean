/- What the functions of the layer seat come to: SeatKind. Conditions: none. -/
import Derived.Test.YtlfikodljmdekaaTVJ
-- MOD TV
namespace Go.Xe.TVX
open Go Go.Xe Go.Proofs
open Nat renaming reduceLeDiff → qA, reduceSub → qB, reduceAdd → qC, reduceEqDiff → qD, reduceLT → qE
open Int renaming reduceNegSucc → qF, reduceEq → qG
open Go.Xe.V renaming seq → sA, block → sB, scope → sC, skip → sD, close → sE
open Go.Xe renaming pth → P
open Go.Xe.Sea
set_option maxRecDepth 100000
set_option maxHeartbeats 3200000
set_option linter.unusedSimpArgs false
theorem SR.ok {m S L : Int} {l : List Int} {X : Heap} {w : Value} (h : SR m S L l X w) (h0 : flt m S L l=0) : ∃ y e,w=.tuple ⟨[y,I e]⟩∧((¬ sure m S (vl L l)∧y=.slice none 0 0∧e=10)∨(sure m S (vl L l)∧e=0∧LS X y (fl l.length (otc m S (vl L l)).1))):=by
 obtain⟨y,e,hw,h⟩:=h
 refine⟨y,e,hw,?_⟩
 rcases h with⟨h,_⟩|⟨_,h⟩|⟨_,h⟩
 ·exact absurd h0 h
 ·exact .inl h
 ·exact .inr h
end Go.Xe.TVX
/- What the functions of the layer seat come to: SeatVotes. Conditions: none. -/
-- MOD TV
namespace Go.Xe.TVX
open Go Go.Xe Go.Proofs
open Nat renaming reduceLeDiff → qA, reduceSub → qB, reduceAdd → qC, reduceEqDiff → qD, reduceLT → qE
open Int renaming reduceNegSucc → qF, reduceEq → qG
open Go.Xe.V renaming seq → sA, block → sB, scope → sC, skip → sD, close → sE
open Go.Xe renaming pth → P
open Go.Xe.Sea
set_option maxRecDepth 100000
set_option maxHeartbeats 3200000
set_option linter.unusedSimpArgs false
noncomputable def d36 : FCode:=(.seq (.run (.go (.box 23 (tm 0)) (P 2)::
.go (.move (.con (.int .i64 (.ofNat 0)))) (P 4)::
[])) (.seq (.run (.go (.move (.con (.int .i64 (.ofNat 0)))) (P 5)::
[])) (.seq (.seq (.run (.go (.move (.con (.int .i64 (.ofNat 0)))) (P 6)::
[])) (.block 0 (.loop (.seq (.seq (.run (.go (.move (tm 6)) (P 7)::
.go (.move (tm 1)) (P 8)::
.go (.len 0 (tm 8)) (P 9)::
.go (.bin .lss 3 (tm 7) (tm 9)) (P 10)::
[])) (.cond (tm 10) .skip (.exit 0))) (.seq (.block 1 (.seq (.draw 6 (.go (.loadN 3 (tm 2)) (P 13)::
.go (.move (tm 1)) (P 14)::
.go (.move (tm 6)) (P 15)::
.go (.indexAddr none 1 (tm 14) (tm 15)) (P 16)::
.go (.load1 (tm 16)) (P 17)::
.go (.call (.con (.func (.func 37) ⟨[]⟩ ⟨[]⟩)) [(tm 13),(tm 17)]) (P 18)::
[]) [.ok,.ok,.ok,.ok,.ok,.ok]) (.cond (tm 18) (.run (.go (.move (tm 5)) (P 19)::
.go (.move (tm 1)) (P 20)::
.go (.move (tm 6)) (P 21)::
.go (.indexAddr none 1 (tm 20) (tm 21)) (P 22)::
.go (.load1 (tm 22)) (P 23)::
.go (.bin .add 3 (tm 19) (tm 23)) (P 24)::
.go (.move (tm 24)) (P 5)::
[])) .skip))) (.run (.go (.move (tm 6)) (P 11)::
.go (.bin .add 3 (tm 11) (.con (.int .i64 (.ofNat 1)))) (P 12)::
.go (.move (tm 12)) (P 6)::
[]))))))) (.seq (.run (.go (.move (tm 5)) (P 25)::
.go (.move (tm 25)) (P 4)::
[])) .ret))))
theorem de36 : @compF Try.prog (Gl.none Try.prog) Try.f36 2=.mk d36 (mkTT 26) [(P 0),(P 1)] [.tmp (P 4)]:=by kernel_rfl
theorem dg36 : Try.prog.funcs[36]?=some Try.f36:=Try.func36
theorem do36 : okF Try.prog Try.f36=true:=by kernel_rfl
noncomputable def d34 : FCode:=(.seq (.run (.go (.box 23 (tm 0)) (P 2)::
.go (.move (.con (.bool false))) (P 4)::
[])) (.seq (.run (.go (.loadN 3 (tm 2)) (P 5)::
.go (.move (tm 1)) (P 6)::
.go (.call (.con (.func (.func 36) ⟨[]⟩ ⟨[]⟩)) [(tm 5),(tm 6)]) (P 7)::
.go (.bin .gtr 3 (tm 7) (.con (.int .i64 (.ofNat 0)))) (P 8)::
.go (.move (tm 8)) (P 4)::
[])) .ret))
theorem de34 : @compF Try.prog (Gl.none Try.prog) Try.f34 2=.mk d34 (mkTT 9) [(P 0),(P 1)] [.tmp (P 4)]:=by kernel_rfl
theorem dg34 : Try.prog.funcs[34]?=some Try.f34:=Try.func34
theorem do34 : okF Try.prog Try.f34=true:=by kernel_rfl
theorem sure_sum {m S : Int} {v : Nat→Int} (hv : vok v) (hS : 0≤S∧S≤61) (hv8 : ∀ p,¬ p<8→v p=0) (hs : sure m S v) : ((∃ p,p<8∧0<v p)∧sm (otc m S v).1 8=S)∨((∀ p,p<8→¬ 0<v p)∧(otc m S v).1=fun _=>0):=by
 have F:=otc_fin (m:=m) hv hS hv8
 rcases F.2 with⟨h,e,_⟩|⟨h,e,_⟩|⟨h,e1,e2,e3⟩
 ·exact .inr ⟨h,e⟩
 ·exact .inl ⟨h,e⟩
 ·exfalso
  obtain⟨T,hT⟩ : ∃ T,T=tp v (fun p=>clq m S v p ((otc m S v).1 p)) 8:=⟨_,rfl⟩
  rw[← hT] at e2 e3
  have hne : T≠[]:=fun h=>by rw[h] at e2;simp at e2;omega
  obtain⟨p,hp⟩:=List.exists_mem_of_ne_nil _ hne
  have hp8 : p<8:=by rw[hT] at hp;exact (mem_tp.1 hp).1
  have:=hs p hp8
  rw[e3] at this
  unfold up at this
  rw[if_pos hp] at this
  omega
theorem sm_out {v : Nat→Int} : ∀ {k n : Nat},(∀ p,n≤p→v p=0)→sm v (n+k)=sm v n
 | 0,_,_=>rfl
 | k+1,n,h=>by
  show sm v (n+k)+v (n+k)=_
  rw[sm_out h,h (n+k) (by omega)];omega
theorem vl_sum {L : Int} {l : List Int} (hl : l.length≤8) : sm (vl L l) 8=sm (vl L l) l.length:=by
 have:=sm_out (v:=vl L l) (n:=l.length) (k:=8-l.length) (fun p hp=>vl_out hp)
 rw[show l.length+(8-l.length)=8 by omega] at this
 exact this
theorem f36_ok {H : Heap} {m S L : Int} {x : Value} {l : List Int} (h : LS H x l) (hl8 : l.length≤8) (hb : ∀ v∈l,0≤v∧v≤10000) : Gives Try.prog 36 [.agg ⟨A3 m S L⟩,x] H (I (sm (vl L l) 8)):=by
 have hl:=h.len
 obtain⟨px,nx',cx,rfl⟩:=h.s.isS
 refine F.entryL rfl dg36 do36 de36 rfl (by kernel_rfl) ?_
 simp only[sets]
 refine V.re [(0,.agg ⟨A3 m S L⟩),(1,.slice px nx' cx)] (N:=26) zE zY ?_
 intro t hF hA
 simp only[Kn,and_true] at hA
 refine zS ?_
 refine V.l0 ?_
 refine V.heap (fun X=>Grow H X∧Bx X H.next (A3 m S L) 23) ⟨?_,?_⟩ ?_
 ·exact zW
 ·exact zB
 rintro H1 ⟨g1,b1⟩
 refine zS ?_
 refine V.l0 ?_
 refine zS ?_
 refine V.l0 ?_
 refine zS ?_
 refine V.loop (fun z t mm X=>∃ (k : Nat),k≤l.length∧z=l.length-k∧mm=[]∧Grow H X∧Bx X H.next (A3 m S L) 23∧(0≤sm (vl L l) k∧sm (vl L l) k≤10000*k)∧Full 26 t∧Kn [(1,.slice px nx' cx),(2,PT H.next),(5,I (sm (vl L l) k)),(6,I k)] t) l.length ?_ ?_
 ·exact⟨0,by omega,by omega,rfl,g1,b1,by simp[sm],zF,zK⟩
 clear hF hA
 rintro z t mm X ⟨k,hk,rfl,rfl,hg,bx,hsb,hF,hA⟩
 simp only[Kn,and_true] at hA
 refine zS ?_
 have zf:=@hl
 refine V.lz ?_
 refine zS ?_
 refine V.condP zP (fun hlt=>?_) (fun hlt=>?_)
 ·have hlt' : k<l.length:=by omega
  obtain⟨p,hp,hx⟩:=h.at hlt'
  have hx1:=hx X hg
  have hbk:=hb _ (List.getElem_mem hlt')
  have ev : sm (vl L l) (k+1)=sm (vl L l) k+(if adm L l[k] then l[k] else 0):=by
   show sm (vl L l) k+vl L l k=_
   congr 1
   unfold vl vts
   rw[gl0_at hlt']
  refine zS ?_
  refine V.draw ?_
  have zf:=And.intro bx.2<|And.intro @hp<|@hx1
  refine VD.nz 5 ?_
  simp only[ds]
  refine VD.callA zA (f37_ok m S L l[k] X) zA (fun X2 g2=>?_)
  have bx2:=bx.grow g2
  have hg2:=hg.trans g2
  have hx2:=hx X2 hg2
  have m2:=g2.1
  refine VD.d0 ?_ ?_ rfl ?_
  ·exact zM
  ·simp only[dcAll,dcOk,wantD,List.cons_append,List.nil_append,true_and,and_true]
  refine zS ?_
  refine V.condP zP (fun ha=>?_) (fun ha=>?_)
  ·rw[if_pos ha] at ev
   refine zS ?_
   have zf:=And.intro @hp<|@hx2
   refine V.lz ?_
   refine zS ?_
   refine V.l0 ?_
   refine V.nil (Or.inl ⟨rfl,l.length-(k+1),by omega,?_⟩)
   refine⟨k+1,hlt',rfl,rfl,hg2,bx2,by rw[ev];omega,?_⟩
   rw[ev]
   exact⟨zF,zK⟩
  ·rw[if_neg ha] at ev
   refine zS ?_
   refine V.l0 ?_
   refine V.nil (Or.inl ⟨rfl,l.length-(k+1),by omega,?_⟩)
   refine⟨k+1,hlt',rfl,rfl,hg2,bx2,by rw[ev];omega,?_⟩
   rw[ev,Int.add_zero]
   exact⟨zF,zK⟩
 ·obtain rfl : k=l.length:=by omega
  refine V.exit ?_
  refine zX ?_
  refine V.nil (Or.inr ⟨by simp,?_⟩)
  refine zX ?_
  refine zS ?_
  refine V.l0 ?_
  refine zS ?_
  refine V.ret (V.rets rfl (Lv.retG (by simp +contextual (disch:=first|omega|simp only[nx];omega) only[D1,cells_alloc_at,cells_alloc_ne,cells_set_at,cells_set_ne,yres,yres1,yresL,qA,qB,qC,D5,hF,hA,↓reduceIte,qD,qE];rfl) ?_ ?_))
  ·exact hg
  ·rw[vl_sum hl8]
theorem f34_ok {H : Heap} {m S L : Int} {x : Value} {l : List Int} (h : LS H x l) (hl8 : l.length≤8) (hb : ∀ v∈l,0≤v∧v≤10000) : Gives Try.prog 34 [.agg ⟨A3 m S L⟩,x] H (.bool (decide (0<sm (vl L l) 8))):=by
 obtain⟨px,nx',cx,rfl⟩:=h.s.isS
 refine F.entryL rfl dg34 do34 de34 rfl (by kernel_rfl) ?_
 simp only[sets]
 refine V.re [(0,.agg ⟨A3 m S L⟩),(1,.slice px nx' cx)] (N:=9) zE zY ?_
 intro t hF hA
 simp only[Kn,and_true] at hA
 refine zS ?_
 refine V.l0 ?_
 refine V.heap (fun X=>Grow H X∧Bx X H.next (A3 m S L) 23) ⟨?_,?_⟩ ?_
 ·exact zW
 ·exact zB
 rintro H1 ⟨g1,b1⟩
 refine zS ?_
 refine V.run ?_
 have zf:=b1.2
 refine VI.sz 2 ?_
 simp only[ds]
 refine VI.callA rfl (f36_ok (m:=m) (S:=S) (h.grow g1) hl8 hb) zA (fun H2 g2=>?_)
 refine VI.l0 ?_
 refine zS ?_
 refine V.ret (V.rets rfl (Lv.retG (by simp +contextual (disch:=first|omega|simp only[nx];omega) only[D1,cells_alloc_at,cells_alloc_ne,cells_set_at,cells_set_ne,yres,yres1,yresL,qA,qB,qC,D5,hF,hA,↓reduceIte,qD,qE];rfl) ?_ ?_))
 ·exact g1.trans g2
 ·rfl
end Go.Xe.TVX
/- What the functions of the layer seat come to: SeatVotes. Conditions: none. -/
-- MOD TV
namespace Go.Xe.TVX
open Go Go.Xe Go.Proofs
open Nat renaming reduceLeDiff → qA, reduceSub → qB, reduceAdd → qC, reduceEqDiff → qD, reduceLT → qE
open Int renaming reduceNegSucc → qF, reduceEq → qG
open Go.Xe.V renaming seq → sA, block → sB, scope → sC, skip → sD, close → sE
open Go.Xe renaming pth → P
open Go.Xe.Sea
set_option maxRecDepth 100000
set_option maxHeartbeats 3200000
set_option linter.unusedSimpArgs false
end Go.Xe.TVX
/- What the functions of the layer seat come to: one seat more. Conditions: none. -/
-- MOD TV
namespace Go.Xe.TVX
open Go Go.Xe Go.Proofs
open Nat renaming reduceLeDiff → qA, reduceSub → qB, reduceAdd → qC, reduceEqDiff → qD, reduceLT → qE
open Int renaming reduceNegSucc → qF, reduceEq → qG
open Go.Xe.V renaming seq → sA, block → sB, scope → sC, skip → sD, close → sE
open Go.Xe renaming pth → P
open Go.Xe.Sea
set_option maxRecDepth 100000
set_option maxHeartbeats 3200000
set_option linter.unusedSimpArgs false
end Go.Xe.TVX
/- What the functions of the layer seat come to: SeatHouse. Conditions: none. -/
-- MOD TV
namespace Go.Xe.TVX
open Go Go.Xe Go.Proofs
open Nat renaming reduceLeDiff → qA, reduceSub → qB, reduceAdd → qC, reduceEqDiff → qD, reduceLT → qE
open Int renaming reduceNegSucc → qF, reduceEq → qG
open Go.Xe.V renaming seq → sA, block → sB, scope → sC, skip → sD, close → sE
open Go.Xe renaming pth → P
open Go.Xe.Sea
set_option maxRecDepth 100000
set_option maxHeartbeats 3200000
set_option linter.unusedSimpArgs false
end Go.Xe.TVX
/- What the functions of the layer seat come to: SeatHouse. Conditions: none. -/
-- MOD TV
namespace Go.Xe.TVX
open Go Go.Xe Go.Proofs
open Nat renaming reduceLeDiff → qA, reduceSub → qB, reduceAdd → qC, reduceEqDiff → qD, reduceLT → qE
open Int renaming reduceNegSucc → qF, reduceEq → qG
open Go.Xe.V renaming seq → sA, block → sB, scope → sC, skip → sD, close → sE
open Go.Xe renaming pth → P
open Go.Xe.Sea
set_option maxRecDepth 100000
set_option maxHeartbeats 3200000
set_option linter.unusedSimpArgs false
end Go.Xe.TVX
/- What the functions of the layer seat come to: shares, rounded down and up. Conditions: none. -/
-- MOD TV
namespace Go.Xe.TVX
open Go Go.Xe Go.Proofs
open Nat renaming reduceLeDiff → qA, reduceSub → qB, reduceAdd → qC, reduceEqDiff → qD, reduceLT → qE
open Int renaming reduceNegSucc → qF, reduceEq → qG
open Go.Xe.V renaming seq → sA, block → sB, scope → sC, skip → sD, close → sE
open Go.Xe renaming pth → P
open Go.Xe.Sea
set_option maxRecDepth 100000
set_option maxHeartbeats 3200000
set_option linter.unusedSimpArgs false
noncomputable def d35 : FCode:=(.seq (.run (.go (.box 28 (tm 0)) (P 2)::
.go (.move (.con (.slice none 0 0))) (P 4)::
.go (.move (.con (.int .i64 (.ofNat 0)))) (P 5)::
[])) (.seq (.seq (.run (.go (.loadN 3 (tm 2)) (P 12)::
.go (.move (tm 1)) (P 13)::
.go (.call (.con (.func (.func 54) ⟨[]⟩ ⟨[]⟩)) [(tm 12),(tm 13)]) (P 14)::
.go (.move (tm 14)) (P 6)::
[])) (.seq (.run (.go (.move (tm 6)) (P 15)::
.go (.bin .neq 26 (tm 15) (.con (.int .i64 (.ofNat 0)))) (P 16)::
[])) (.cond (tm 16) (.seq (.run (.go (.move (tm 6)) (P 17)::
.go (.move (.con (.slice none 0 0))) (P 4)::
.go (.move (tm 17)) (P 5)::
[])) .ret) .skip))) (.seq (.run (.go (.loadN 3 (tm 2)) (P 18)::
.go (.move (tm 1)) (P 19)::
.go (.call (.con (.func (.func 55) ⟨[]⟩ ⟨[]⟩)) [(tm 18),(tm 19)]) (P 20)::
.go (.alloc 83 [(.int .u8 (.ofNat 0)),(.int .i64 (.ofNat 0)),(.int .i64 (.ofNat 0)),(.int .i64 (.ofNat 0)),(.int .i64 (.ofNat 0)),(.int .i64 (.ofNat 0)),(.int .i64 (.ofNat 0)),(.int .i64 (.ofNat 0)),(.int .i64 (.ofNat 0)),(.int .i64 (.ofNat 0)),(.int .i64 (.ofNat 0)),(.int .i64 (.ofNat 0)),(.int .i64 (.ofNat 0)),(.int .i64 (.ofNat 0)),(.int .i64 (.ofNat 0)),(.int .i64 (.ofNat 0)),(.int .i64 (.ofNat 0)),(.int .i64 (.ofNat 0)),(.int .i64 (.ofNat 0)),(.int .i64 (.ofNat 0)),.nilFunc,.nilFunc]) (P 7)::
.un (.store 22 (tm 7) (tm 20))::
[])) (.seq (.run (.go (.move (.con (.slice none 0 0))) (P 8)::
[])) (.seq (.seq (.run (.go (.move (tm 1)) (P 21)::
.go (.len 0 (tm 21)) (P 22)::
.go (.move (.con (.int .i64 (.ofNat 0)))) (P 23)::
[])) (.block 0 (.loop (.seq (.run (.go (.bin .lss 3 (tm 23) (tm 22)) (P 24)::
[])) (.seq (.cond (tm 24) .skip (.exit 0)) (.seq (.block 1 (.seq (.run (.go (.move (tm 23)) (P 25)::
.go (.move (tm 25)) (P 9)::
[])) (.seq (.run (.go (.loadN 22 (tm 7)) (P 27)::
.go (.move (tm 9)) (P 28)::
.go (.call (.con (.func (.func 65) ⟨[]⟩ ⟨[]⟩)) [(tm 27),(tm 28)]) (P 29)::
.go (.move (tm 29)) (P 26)::
.go (.extract (tm 26) 0) (P 30)::
.go (.extract (tm 26) 1) (P 31)::
.go (.move (tm 30)) (P 10)::
.go (.move (tm 31)) (P 11)::
[])) (.run (.go (.move (tm 8)) (P 32)::
.go (.move (tm 10)) (P 33)::
.go (.move (tm 10)) (P 34)::
.go (.move (tm 11)) (P 35)::
.go (.mm false [(tm 35),(.con (.int .i64 (.ofNat 1)))]) (P 36)::
.go (.bin .add 3 (tm 34) (tm 36)) (P 37)::
.go (.build [(.int .i64 (.ofNat 0)),(.int .i64 (.ofNat 0))] [(0,1,(tm 33)),(1,1,(tm 37))]) (P 38)::
.go (.buildSlice 49 1 [(.int .i64 (.ofNat 0)),(.int .i64 (.ofNat 0))] [(0,2,(tm 38))]) (P 39)::
.go (.append 49 2 16 (tm 32) (tm 39)) (P 40)::
.go (.move (tm 40)) (P 8)::
[]))))) (.run (.go (.bin .add 3 (tm 23) (.con (.int .i64 (.ofNat 1)))) (P 41)::
.go (.move (tm 41)) (P 23)::
[])))))))) (.seq (.run (.go (.move (tm 8)) (P 42)::
.go (.move (tm 42)) (P 4)::
.go (.move (.con (.int .i64 (.ofNat 0)))) (P 5)::
[])) .ret))))))
theorem de35 : @compF Try.prog (Gl.none Try.prog) Try.f35 2=.mk d35 (mkTT 43) [(P 0),(P 1)] [.tmp (P 4),.tmp (P 5)]:=by kernel_rfl
theorem dg35 : Try.prog.funcs[35]?=some Try.f35:=Try.func35
theorem do35 : okF Try.prog Try.f35=true:=by kernel_rfl
def shi (S : Int) (v : Nat→Int) (p : Nat) : Int:=(shr S v p).1+(if 1<(shr S v p).2 then 1 else (shr S v p).2)
def qro (S : Int) (v : Nat→Int) (k : Nat) : List (List Value):=(List.range k).map fun p=>A2 (shr S v p).1 (shi S v p)
theorem qro_len (S : Int) (v : Nat→Int) (k : Nat) : (qro S v k).length=k:=by simp[qro]
theorem qro_w (S : Int) (v : Nat→Int) (k : Nat) : ∀ x∈qro S v k,x.length=2:=by
 intro x hx
 obtain⟨p,_,rfl⟩:=List.mem_map.1 hx
 rfl
theorem qro_1 (S : Int) (v : Nat→Int) (k : Nat) : qro S v (k+1)=qro S v k++[A2 (shr S v k).1 (shi S v k)]:=by simp[qro,List.range_succ]
theorem qro_at {S : Int} {v : Nat→Int} {k p : Nat} (h : p<k) : (qro S v k)[p]?=some (A2 (shr S v p).1 (shi S v p)):=by simp[qro,h]
def QTA (m S L : Int) (l : List Int) (H X : Heap) (w : Value) : Prop:=∃ y e,w=.tuple ⟨[y,I e]⟩∧((flt m S L l≠0∧y=.slice none 0 0∧e=flt m S L l)∨(flt m S L l=0∧e=0∧OwW 2 H X 49 y (qro S (vl L l) l.length)))
theorem f35_ok {H : Heap} {m S L : Int} {x : Value} {l : List Int} (h : LS H x l) : F Try.prog 35 ⟨[.agg ⟨A3 m S L⟩,x]⟩ H (fun w X=>Grow H X∧QTA m S L l H X w):=by
 have hl:=h.len
 obtain⟨px,nx',cx,rfl⟩:=h.s.isS
 refine F.entryL rfl dg35 do35 de35 rfl (by kernel_rfl) ?_
 simp only[sets]
 refine V.re [(0,.agg ⟨A3 m S L⟩),(1,.slice px nx' cx)] (N:=43) zE zY ?_
 intro t hF hA
 simp only[Kn,and_true] at hA
 refine zS ?_
 refine V.l0 ?_
 refine V.heap (fun X=>Grow H X∧Bx X H.next (A3 m S L) 28) ⟨?_,?_⟩ ?_
 ·exact zW
 ·exact zB
 rintro H1 ⟨g1,b1⟩
 refine zS ?_
 refine V.run ?_
 have zf:=b1.2
 refine VI.sz 2 ?_
 simp only[ds]
 refine VI.callA rfl (f54_ok (m:=m) (S:=S) (L:=L) (h.grow g1)) zA (fun H2 g2=>?_)
 have b2:=b1.grow g2
 have g12:=g1.trans g2
 refine VI.l0 ?_
 refine zS ?_
 refine V.l0 ?_
 refine zS ?_
 refine V.condP zP (fun he=>?_) (fun he=>?_)
 ·refine zS ?_
  refine V.l0 ?_
  refine zS ?_
  refine V.ret (V.rets rfl (Lv.retF (by simp +contextual (disch:=first|omega|simp only[nx];omega) only[D1,cells_alloc_at,cells_alloc_ne,cells_set_at,cells_set_ne,yres,yres1,yresL,qA,qB,qC,D5,hF,hA,↓reduceIte,qD,qE];rfl) ?_))
  exact⟨g12,_,_,rfl,.inl ⟨he,rfl,rfl⟩⟩
 have he0 : flt m S L l=0:=Decidable.not_not.1 he
 obtain⟨hr,hl8,hb⟩:=flt_0.1 he0
 have hm : 1≤m∧m≤5:=⟨hr.1,hr.2.1⟩
 have hvk:=vl_ok (L:=L) hb
 have hS : 0≤S∧S≤61:=⟨hr.2.2.1,by have:=hr.2.2.2.1;omega⟩
 have hok:=pc_ok (m:=m) (S:=S) (L:=L) (c:=gl0 l) (v:=vl L l) (tot:=sm (vl L l) 8) (dvf_ok m) (clf_ok m)
 have epu:=pc_put (m:=m) (S:=S) (L:=L) (c:=gl0 l) (v:=vl L l) (tot:=sm (vl L l) 8) (d:=dvf m) (k:=clf m) (x:=[.int .u8 0,I 0,I 0,I 0,I 0,I 0,I 0,I 0,I 0,I 0,I 0,I 0,I 0,I 0,I 0,I 0,I 0,I 0,I 0,I 0,.nilFunc,.nilFunc]) rfl
 refine zS ?_
 refine V.run ?_
 have zf:=b2.2
 refine VI.sz 2 ?_
 simp only[ds]
 refine VI.callA rfl (f55_ok (m:=m) (S:=S) (L:=L) (h.grow g12) hl8 hb hm) zA (fun H3 g3=>?_)
 have g13:=g12.trans g3
 have n3:=g13.1
 have zf:=And.intro @PC<|And.intro @hok<|@epu
 refine VI.lz ?_
 refine V.heap (fun X=>Grow H X∧Bx X H3.next (pw m S L (gl0 l)) 83) ⟨?_,?_⟩ ?_
 ·exact zW
 ·exact Bx.put (by simp only[Heap.next_alloc];omega) _ _
 rintro H4 ⟨g4,b4⟩
 refine zS ?_
 refine V.l0 ?_
 refine zS ?_
 have zf:=@hl
 refine V.lz ?_
 refine zS ?_
 refine V.loop (fun z t mm X=>∃ (k : Nat) (w : Value),k≤l.length∧z=l.length-k∧mm=[]∧Grow H4 X∧OwW 2 H4 X 49 w (qro S (vl L l) k)∧Full 43 t∧Kn [(7,PT H3.next),(8,w),(22,I l.length),(23,I k)] t) l.length ?_ ?_
 ·exact⟨0,_,by omega,by omega,rfl,.refl _,.nil,zF,zK⟩
 clear hF hA
 rintro z t mm X ⟨k,w,hk,rfl,rfl,hg,ow,hF,hA⟩
 simp only[Kn,and_true] at hA
 have bx:=b4.grow hg
 refine zS ?_
 refine V.l0 ?_
 refine zS ?_
 refine V.condP zP (fun hlt=>?_) (fun hlt=>?_)
 ·have hlt' : k<l.length:=by omega
  have hsb:=shr_bd hvk hS (show k<8 by omega)
  refine zS ?_
  refine V.l0 ?_
  refine zS ?_
  refine V.run ?_
  have zf:=And.intro bx.2<|@PC
  refine VI.sz 2 ?_
  simp only[ds]
  refine VI.callA rfl (f65_ok (m:=m) (S:=S) (L:=L) (c:=gl0 l) (d:=dvf m) (k:=clf m) (show k<8 by omega) hvk hS) zA (fun X2 g2'=>?_)
  have hg2:=hg.trans g2'
  have ow2:=ow.keep g2'
  refine VI.l0 ?_
  refine zS ?_
  obtain⟨u,Y,a1,a2,a3,a4,a5,a6⟩:=OwW.push (bytes:=16) (x:=A2 (shr S (vl L l) k).1 (shi S (vl L l) k)) (by decide) hg2 ow2 (qro_w _ _ _) rfl rfl (by rw[qro_len];omega) (by rw[qro_len];omega)
  have hsh : (shr S (vl L l) k).1+(if 1<(shr S (vl L l) k).2 then 1 else (shr S (vl L l) k).2)=shi S (vl L l) k:=rfl
  have hsb2 : 0≤(if 1<(shr S (vl L l) k).2 then 1 else (shr S (vl L l) k).2)∧(if 1<(shr S (vl L l) k).2 then 1 else (shr S (vl L l) k).2)≤1:=by split<;>omega
  obtain⟨mn,hmn⟩ : ∃ mn,mn=(if 1<(shr S (vl L l) k).2 then 1 else (shr S (vl L l) k).2):=⟨_,rfl⟩
  rw[← hmn] at hsh hsb2
  have hmn2:=hmn.symm
  have zf:=And.intro @hmn2<|And.intro @hsh<|@a1
  refine V.lz ?_
  refine zS ?_
  refine V.l0 ?_
  refine V.nil (Or.inl ⟨rfl,l.length-(k+1),by omega,?_⟩)
  refine⟨k+1,u,by omega,rfl,rfl,a3,?_,zF,zK⟩
  rw[qro_1]
  exact a2
 ·obtain rfl : k=l.length:=by omega
  refine V.exit ?_
  refine zX ?_
  refine V.nil (Or.inr ⟨by simp,?_⟩)
  refine zX ?_
  refine zS ?_
  refine V.l0 ?_
  refine zS ?_
  refine V.ret (V.rets rfl (Lv.retF (by simp +contextual (disch:=first|omega|simp only[nx];omega) only[D1,cells_alloc_at,cells_alloc_ne,cells_set_at,cells_set_ne,yres,yres1,yresL,qA,qB,qC,D5,hF,hA,↓reduceIte,qD,qE];rfl) ?_))
  exact⟨g4.trans hg,_,_,rfl,.inr ⟨he0,rfl,ow.base g4.1⟩⟩
end Go.Xe.TVX
/- What the functions of the layer seat come to: SeatQuotas. Conditions: none. -/
-- MOD TV
namespace Go.Xe.TVX
open Go Go.Xe Go.Proofs
open Nat renaming reduceLeDiff → qA, reduceSub → qB, reduceAdd → qC, reduceEqDiff → qD, reduceLT → qE
open Int renaming reduceNegSucc → qF, reduceEq → qG
open Go.Xe.V renaming seq → sA, block → sB, scope → sC, skip → sD, close → sE
open Go.Xe renaming pth → P
open Go.Xe.Sea
set_option maxRecDepth 100000
set_option maxHeartbeats 3200000
set_option linter.unusedSimpArgs false
end Go.Xe.TVX
/- What the functions of the layer seat come to: SeatTimes. Conditions: none. -/
-- MOD TV
namespace Go.Xe.TVX
open Go Go.Xe Go.Proofs
open Nat renaming reduceLeDiff → qA, reduceSub → qB, reduceAdd → qC, reduceEqDiff → qD, reduceLT → qE
open Int renaming reduceNegSucc → qF, reduceEq → qG
open Go.Xe.V renaming seq → sA, block → sB, scope → sC, skip → sD, close → sE
open Go.Xe renaming pth → P
open Go.Xe.Sea
set_option maxRecDepth 100000
set_option maxHeartbeats 3200000
set_option linter.unusedSimpArgs false
theorem sm_scale {v : Nat→Int} {k : Int} : ∀ {n : Nat},sm (fun p=>k*v p) n=k*sm v n
 | 0=>by simp[sm]
 | n+1=>by simp only[sm];rw[sm_scale,Int.mul_add]
end Go.Xe.TVX
/- What the functions of the layer seat come to: SeatQuota. Conditions: none. -/
-- MOD TV
namespace Go.Xe.TVX
open Go Go.Xe Go.Proofs
open Nat renaming reduceLeDiff → qA, reduceSub → qB, reduceAdd → qC, reduceEqDiff → qD, reduceLT → qE
open Int renaming reduceNegSucc → qF, reduceEq → qG
open Go.Xe.V renaming seq → sA, block → sB, scope → sC, skip → sD, close → sE
open Go.Xe renaming pth → P
open Go.Xe.Sea
set_option maxRecDepth 100000
set_option maxHeartbeats 3200000
set_option linter.unusedSimpArgs false
theorem sm_mul {a : Nat→Int} {k : Int} {n : Nat} : sm (fun p=>a p*k) n=sm a n*k:=by
 have:=sm_scale (v:=a) (k:=k) (n:=n)
 rw[Int.mul_comm (sm a n) k,← this]
 exact sm_cong fun p _=>Int.mul_comm _ _
theorem shr_sums {S : Int} {v : Nat→Int} (hv : vok v) (hS : 0≤S∧S≤61) : sm (fun p=>(shr S v p).1) 8≤S∧(0<sm v 8→S≤sm (fun p=>shi S v p) 8):=by
 have ht:=sm_bd hv
 by_cases h0 : 0<sm v 8
 ·have e1 : ∀ p,p<8→v p*S=(shr S v p).1*sm v 8+(shr S v p).2:=by
   intro p _
   unfold shr
   split
   ·rename_i h;rw[h];simp
   ·have:=Int.mul_ediv_add_emod (v p*S) (sm v 8)
    rw[Int.mul_comm (sm v 8)] at this
    exact this.symm
  have e2 : sm v 8*S=sm (fun p=>(shr S v p).1) 8*sm v 8+sm (fun p=>(shr S v p).2) 8:=by
   rw[← sm_mul,← sm_mul,← sm_add]
   exact sm_cong e1
  have e3 : 0≤sm (fun p=>(shr S v p).2) 8:=by
   have:=sm_le (s:=fun _=>0) (t:=fun p=>(shr S v p).2) (n:=8) (fun p hp=>(shr_bd hv hS hp).2.1)
   rw[sm_0] at this;exact this
  refine⟨?_,fun _=>?_⟩
  ·have : sm (fun p=>(shr S v p).1) 8*sm v 8≤S*sm v 8:=by rw[Int.mul_comm S];omega
   exact Int.le_of_mul_le_mul_right this h0
  ·have e4 : sm (fun p=>(shr S v p).2) 8≤sm (fun p=>(shi S v p-(shr S v p).1)*sm v 8) 8:=by
    apply sm_le
    intro p hp
    have hb:=shr_bd hv hS hp
    show (shr S v p).2≤(shi S v p-(shr S v p).1)*sm v 8
    have e5 : shi S v p-(shr S v p).1=if 1<(shr S v p).2 then 1 else (shr S v p).2:=by unfold shi;omega
    rw[e5]
    split
    ·by_cases hz : v p=0
     ·have : (shr S v p).2=0:=by unfold shr;rw[if_pos hz]
      omega
     ·have:=hb.2.2.2 hz;omega
    ·have : (shr S v p).2=0∨(shr S v p).2=1:=by omega
     rcases this with h|h<;>rw[h]<;>omega
   rw[sm_mul] at e4
   have e6 : sm (fun p=>shi S v p-(shr S v p).1) 8=sm (fun p=>shi S v p) 8-sm (fun p=>(shr S v p).1) 8:=by
    have:=sm_add (s:=fun p=>shi S v p-(shr S v p).1) (t:=fun p=>(shr S v p).1) (n:=8)
    have e7 : sm (fun p=>shi S v p-(shr S v p).1+(shr S v p).1) 8=sm (fun p=>shi S v p) 8:=sm_cong fun p _=>by omega
    rw[e7] at this
    omega
   rw[e6,Int.sub_mul] at e4
   have : S*sm v 8≤sm (fun p=>shi S v p) 8*sm v 8:=by rw[Int.mul_comm S];omega
   exact Int.le_of_mul_le_mul_right this h0
 ·have hz : ∀ p,p<8→v p=0:=fun p hp=>by
   have:=sm_ge hv hp
   have:=(hv p hp).1
   omega
  refine⟨?_,fun h=>absurd h h0⟩
  have : sm (fun p=>(shr S v p).1) 8=sm (fun _=>0) 8:=sm_cong fun p hp=>by unfold shr;rw[if_pos (hz p hp)]
  rw[this,sm_0];exact hS.1
theorem shi_bd {S : Int} {v : Nat→Int} (hv : vok v) (hS : 0≤S∧S≤61) {p : Nat} (hp : p<8) : (shr S v p).1≤shi S v p∧shi S v p≤(shr S v p).1+1:=by
 have hb:=shr_bd hv hS hp
 unfold shi
 split<;>omega
theorem rem_quota {S : Int} {v : Nat→Int} (hv : vok v) (hS : 0≤S∧S≤61) (hv8 : ∀ p,¬ p<8→v p=0) (hs : sure 5 S v) : ∀ p,p<8→(shr S v p).1≤(otc 5 S v).1 p∧(otc 5 S v).1 p≤shi S v p:=by
 have F:=otc_fin (m:=5) hv hS hv8
 obtain⟨q1,q2⟩:=shr_sums hv hS
 have hz : ∀ p,p<8→¬ 0<v p→shr S v p=(0,0)∧shi S v p=0∧(otc 5 S v).1 p=0:=by
  intro p hp h
  have h0 : v p=0:=by have:=(hv p hp).1;omega
  have e : shr S v p=(0,0):=by unfold shr;rw[if_pos h0]
  refine⟨e,by unfold shi;rw[e];rfl,F.1.adm p (fun hh=>h hh.2)⟩
 rcases sure_sum hv hS hv8 hs with⟨⟨p0,hp0,hvp0⟩,eA⟩|⟨hn,_⟩
 ·have ht:=sm_pos hv hp0 hvp0
  have q2:=q2 ht
  have low : ∀ p,p<8→(shr S v p).1≤(otc 5 S v).1 p:=by
   intro p hp
   apply Decidable.by_contra
   intro hh
   have hvp : 0<v p:=by
    apply Decidable.by_contra
    intro h
    obtain⟨e1,_,e3⟩:=hz p hp h
    rw[e1,e3] at hh
    exact hh (Int.le_refl _)
   have hq : ∃ q,q<8∧(shr S v q).1<(otc 5 S v).1 q:=by
    apply Decidable.by_contra
    intro hn
    have : sm (otc 5 S v).1 8<sm (fun p=>(shr S v p).1) 8:=sm_lt (p:=p) (fun q hq=>by
     apply Decidable.by_contra
     intro h
     exact hn ⟨q,hq,by simpa using h⟩) hp (by simpa using hh)
    omega
   obtain⟨q,hq,hl⟩:=hq
   have hvq : 0<v q:=by
    apply Decidable.by_contra
    intro h
    obtain⟨e1,_,e3⟩:=hz q hq h
    rw[e1,e3] at hl
    omega
   have bq:=shr_bd hv hS hq
   have n0:=F.1.nn p
   refine F.1.weak q p ((otc 5 S v).1 q-1) hq hvq hp hvp (by omega) (by omega) ?_
   have e1 : clq 5 S v p ((otc 5 S v).1 p)=(1,0):=by unfold clq;rw[if_pos rfl,if_pos (by omega)]
   rw[e1]
   unfold clq
   rw[if_pos rfl,if_neg (by omega)]
   split
   ·exact qlt_nzz (by simp only;omega) rfl ⟨by simp only;omega,by simp only;omega,by simp only;omega⟩ ⟨by simp,by simp,by simp⟩
   ·exact qlt_nzz (by simp) rfl ⟨by simp,by simp,by simp⟩ ⟨by simp,by simp,by simp⟩
  intro p hp
  refine⟨low p hp,?_⟩
  apply Decidable.by_contra
  intro hh
  have hvp : 0<v p:=by
   apply Decidable.by_contra
   intro h
   obtain⟨_,e2,e3⟩:=hz p hp h
   rw[e2,e3] at hh
   exact hh (Int.le_refl _)
  have hq : ∃ q,q<8∧(otc 5 S v).1 q<shi S v q:=by
   apply Decidable.by_contra
   intro hn
   have : sm (fun p=>shi S v p) 8<sm (otc 5 S v).1 8:=sm_lt (p:=p) (fun q hq=>by
    apply Decidable.by_contra
    intro h
    exact hn ⟨q,hq,by simpa using h⟩) hp (by simpa using hh)
   omega
  obtain⟨q,hq,hl⟩:=hq
  have hvq : 0<v q:=by
   apply Decidable.by_contra
   intro h
   obtain⟨_,e2,e3⟩:=hz q hq h
   rw[e2,e3] at hl
   omega
  have bp:=shr_bd hv hS hp
  have bq:=shr_bd hv hS hq
  have cp:=shi_bd hv hS hp
  have cq:=shi_bd hv hS hq
  have lq:=low q hq
  have hrq : 0<(shr S v q).2:=by
   apply Decidable.by_contra
   intro hn
   have : shi S v q=(shr S v q).1:=by unfold shi;rw[if_neg (by omega)];omega
   omega
  refine F.1.weak p q ((otc 5 S v).1 p-1) hp hvp hq hvq (by omega) (by omega) ?_
  have e1 : clq 5 S v q ((otc 5 S v).1 q)=((shr S v q).2,sm v 8):=by unfold clq;rw[if_pos rfl,if_neg (by omega),if_pos (by omega)]
  rw[e1]
  unfold clq
  rw[if_pos rfl,if_neg (by omega)]
  split
  ·rename_i e
   have hr0 : (shr S v p).2=0:=by
    apply Decidable.by_contra
    intro hn
    have : shi S v p=(shr S v p).1+1:=by unfold shi;split<;>omega
    omega
   rw[hr0,qlt_nz (by simp only;omega)]
   simp only
   have:=Int.mul_pos hrq ht
   omega
  ·rw[qlt_nz (by simp)]
   simp only
   omega
 ·intro p hp
  obtain⟨e1,e2,e3⟩:=hz p hp (hn p hp)
  rw[e1,e2,e3]
  exact⟨Int.le_refl _,Int.le_refl _⟩
end Go.Xe.TVX
