/- What the functions of the layer seat come to: checks of arguments, and quotients. Conditions: none. -/
import Derived.Test.YtlfikodljmdekaaTVX
-- MOD TV
namespace Go.Xe.TVX
open Go Go.Xe Go.Proofs
open Nat renaming reduceLeDiff → qA, reduceSub → qB, reduceAdd → qC, reduceEqDiff → qD, reduceLT → qE
open Int renaming reduceNegSucc → qF, reduceEq → qG
open Go.Xe.V renaming seq → sA, block → sB, scope → sC, skip → sD, close → sE
open Go.Xe renaming pth → P
open Go.Xe.Sea
set_option maxRecDepth 100000
set_option maxHeartbeats 3200000
set_option linter.unusedSimpArgs false
noncomputable def d74 : FCode:=(.seq (.run (.go (.box 28 (tm 0)) (P 3)::
.go (.move (.con (.int .i64 (.ofNat 0)))) (P 6)::
[])) (.seq (.block 0 (.seq (.run (.go (.loadN 3 (tm 3)) (P 8)::
.go (.call (.con (.func (.func 53) ⟨[]⟩ ⟨[]⟩)) [tm 8]) (P 9)::
.go (.un .not (tm 9)) (P 10)::
.go (.move (tm 10)) (P 7)::
[])) (.cond (tm 7) (.seq (.run (.go (.move (.con (.int .i64 (.ofNat 1)))) (P 6)::
[])) .ret) (.seq (.run (.go (.move (tm 1)) (P 12)::
.go (.len 0 (tm 12)) (P 13)::
.go (.bin .gtr 3 (tm 13) (.con (.int .i64 (.ofNat 8)))) (P 14)::
.go (.move (tm 14)) (P 11)::
[])) (.cond (tm 11) (.seq (.run (.go (.move (.con (.int .i64 (.ofNat 3)))) (P 6)::
[])) .ret) (.seq (.run (.go (.move (tm 1)) (P 16)::
.go (.move (tm 2)) (P 17)::
.go (.call (.con (.func (.func 58) ⟨[]⟩ ⟨[]⟩)) [(tm 16),(tm 17)]) (P 18)::
.go (.un .not (tm 18)) (P 19)::
.go (.move (tm 19)) (P 15)::
[])) (.cond (tm 15) (.seq (.run (.go (.move (.con (.int .i64 (.ofNat 2)))) (P 6)::
[])) .ret) .skip))))))) (.seq (.run (.go (.move (.con (.int .i64 (.ofNat 0)))) (P 6)::
[])) .ret)))
theorem de74 : @compF Try.prog (Gl.none Try.prog) Try.f74 3=.mk d74 (mkTT 20) [(P 0),(P 1),(P 2)] [.tmp (P 6)]:=by kernel_rfl
theorem dg74 : Try.prog.funcs[74]?=some Try.f74:=Try.func74
theorem do74 : okF Try.prog Try.f74=true:=by kernel_rfl
noncomputable def d54 : FCode:=(.seq (.run (.go (.box 28 (tm 0)) (P 2)::
.go (.move (.con (.int .i64 (.ofNat 0)))) (P 4)::
[])) (.seq (.draw 6 (.go (.loadN 3 (tm 2)) (P 5)::
.go (.move (tm 1)) (P 6)::
.go (.call (.con (.func (.func 73) ⟨[]⟩ ⟨[]⟩)) []) (P 7)::
.go (.makeFunc 60 [tm 7] []) (P 8)::
.go (.call (.con (.func (.func 74) ⟨[]⟩ ⟨[]⟩)) [(tm 5),(tm 6),(tm 8)]) (P 9)::
.go (.move (tm 9)) (P 4)::
[]) [.rd none (.loadN 3 (tm 2)) (some (P 5)) [3],.ok,.ok,.ok,.ok,.ok]) .ret))
theorem de54 : @compF Try.prog (Gl.none Try.prog) Try.f54 2=.mk d54 (mkTT 10) [(P 0),(P 1)] [.tmp (P 4)]:=by kernel_rfl
theorem dg54 : Try.prog.funcs[54]?=some Try.f54:=Try.func54
theorem do54 : okF Try.prog Try.f54=true:=by kernel_rfl
def flt (m S L : Int) (l : List Int) : Int:=if rvalid m S L then (if l.length≤8 then (if ∀ v∈l,0≤v∧v≤10000 then 0 else 2) else 3) else 1
theorem f74_ok {H : Heap} {m S L : Int} {x fv : Value} {l : List Int} {Pr : Int→Prop} [DecidablePred Pr] (h : LS H x l) (hc : ∀ X y,y∈l→Grow H X→FV Try.prog fv [I y] X (fun v X'=>v=.bool (decide (Pr y))∧Grow X X')) : Gives Try.prog 74 [.agg ⟨A3 m S L⟩,x,fv] H (I (if rvalid m S L then (if l.length≤8 then (if ∀ v∈l,Pr v then 0 else 2) else 3) else 1)):=by
 have hl:=h.len
 refine F.entryL rfl dg74 do74 de74 rfl (by kernel_rfl) ?_
 simp only[sets]
 refine V.re [(0,.agg ⟨A3 m S L⟩),(1,x),(2,fv)] (N:=20) zE zY ?_
 intro t hF hA
 simp only[Kn,and_true] at hA
 refine zS ?_
 refine V.l0 ?_
 refine V.heap (fun X=>Grow H X∧Bx X H.next (A3 m S L) 28) ⟨?_,?_⟩ ?_
 ·exact zW
 ·exact zB
 rintro H1 ⟨g1,b1⟩
 refine zS ?_
 refine V.run ?_
 have zf:=b1.2
 refine VI.sz 1 ?_
 simp only[ds]
 refine VI.callA rfl (f53_ok m S L _) zA (fun H2 g2=>?_)
 have b2:=b1.grow g2
 have g12:=g1.trans g2
 refine VI.l0 ?_
 refine zS ?_
 refine V.condP zP (fun hv=>?_) (fun hv=>?_)
 ·refine zS ?_
  refine V.l0 ?_
  refine zS ?_
  refine V.ret (V.rets rfl (Lv.retG (by simp +contextual (disch:=first|omega|simp only[nx];omega) only[D1,cells_alloc_at,cells_alloc_ne,cells_set_at,cells_set_ne,yres,yres1,yresL,qA,qB,qC,D5,hF,hA,↓reduceIte,qD,qE];rfl) ?_ ?_))
  ·exact g12
  ·rw[if_neg hv]
 ·rw[if_pos (Decidable.not_not.1 hv)]
  refine zS ?_
  have zf:=@hl
  refine V.lz ?_
  refine zS ?_
  refine V.condP zP (fun hn=>?_) (fun hn=>?_)
  ·refine zS ?_
   refine V.l0 ?_
   refine zS ?_
   refine V.ret (V.rets rfl (Lv.retG (by simp +contextual (disch:=first|omega|simp only[nx];omega) only[D1,cells_alloc_at,cells_alloc_ne,cells_set_at,cells_set_ne,yres,yres1,yresL,qA,qB,qC,D5,hF,hA,↓reduceIte,qD,qE];rfl) ?_ ?_))
   ·exact g12
   ·rw[if_neg (by omega)]
  ·rw[if_pos (by omega)]
   refine zS ?_
   refine V.run ?_
   refine VI.s0 2 ?_
   simp only[ds]
   refine VI.callA rfl (f58_ok (h.grow g12) (by omega) (fun X y hy g=>hc X y hy (g12.trans g))) zA (fun H3 g3=>?_)
   refine VI.l0 ?_
   refine zS ?_
   refine V.condP zP (fun ha=>?_) (fun ha=>?_)
   ·refine zS ?_
    refine V.l0 ?_
    refine zS ?_
    refine V.ret (V.rets rfl (Lv.retG (by simp +contextual (disch:=first|omega|simp only[nx];omega) only[D1,cells_alloc_at,cells_alloc_ne,cells_set_at,cells_set_ne,yres,yres1,yresL,qA,qB,qC,D5,hF,hA,↓reduceIte,qD,qE];rfl) ?_ ?_))
    ·exact g12.trans g3
    ·rw[if_neg ha]
   ·refine zS ?_
    refine V.l0 ?_
    refine zS ?_
    refine V.ret (V.rets rfl (Lv.retG (by simp +contextual (disch:=first|omega|simp only[nx];omega) only[D1,cells_alloc_at,cells_alloc_ne,cells_set_at,cells_set_ne,yres,yres1,yresL,qA,qB,qC,D5,hF,hA,↓reduceIte,qD,qE];rfl) ?_ ?_))
    ·exact g12.trans g3
    ·rw[if_pos (Decidable.not_not.1 ha)]
theorem f54_ok {H : Heap} {m S L : Int} {x : Value} {l : List Int} (h : LS H x l) : Gives Try.prog 54 [.agg ⟨A3 m S L⟩,x] H (I (flt m S L l)):=by
 obtain⟨px,nx',cx,rfl⟩:=h.s.isS
 refine F.entryL rfl dg54 do54 de54 rfl (by kernel_rfl) ?_
 simp only[sets]
 refine V.re [(0,.agg ⟨A3 m S L⟩),(1,.slice px nx' cx)] (N:=10) zE zY ?_
 intro t hF hA
 simp only[Kn,and_true] at hA
 refine zS ?_
 refine V.l0 ?_
 refine V.heap (fun X=>Grow H X∧Bx X H.next (A3 m S L) 28) ⟨?_,?_⟩ ?_
 ·exact zW
 ·exact zB
 rintro H1 ⟨g1,b1⟩
 refine zS ?_
 refine V.draw ?_
 have zf:=b1.2
 refine VD.nz 2 ?_
 simp only[ds]
 refine VD.callA zA (f73_ok _) zA (fun H2 g2=>?_)
 have b2:=b1.grow g2
 have g12:=g1.trans g2
 refine VD.n0 1 ?_
 simp only[ds]
 refine VD.callA zA (f74_ok (m:=m) (S:=S) (L:=L) (h.grow g12) (fun X y _ _=>f60_fv 0 10000 X y)) zA (fun H3 g3=>?_)
 have b3:=b2.grow g3
 have m2:=g2.1
 have m3:=g3.1
 refine VD.d0 ?_ ?_ rfl ?_
 ·exact zM
 ·simp only[dcAll,dcOk,wantD,List.cons_append,List.nil_append,true_and,and_true]
  have zf:=And.intro b1.2<|And.intro b2.2<|b3.2
  exact zR
 refine zS ?_
 refine V.ret (V.rets rfl (Lv.retG (by simp +contextual (disch:=first|omega|simp only[nx];omega) only[D1,cells_alloc_at,cells_alloc_ne,cells_set_at,cells_set_ne,yres,yres1,yresL,qA,qB,qC,D5,hF,hA,↓reduceIte,qD,qE];rfl) ?_ ?_))
 ·exact g12.trans g3
 ·rfl
end Go.Xe.TVX
/- What the functions of the layer seat come to: lowest terms, sums, and the numbers of all parties. Conditions: none. -/
-- MOD TV
namespace Go.Xe.TVX
open Go Go.Xe Go.Proofs
open Nat renaming reduceLeDiff → qA, reduceSub → qB, reduceAdd → qC, reduceEqDiff → qD, reduceLT → qE
open Int renaming reduceNegSucc → qF, reduceEq → qG
open Go.Xe.V renaming seq → sA, block → sB, scope → sC, skip → sD, close → sE
open Go.Xe renaming pth → P
open Go.Xe.Sea
set_option maxRecDepth 100000
set_option maxHeartbeats 3200000
set_option linter.unusedSimpArgs false
noncomputable def d96 : FCode:=(.seq (.run (.go (.move (.con (.int .i64 (.ofNat 0)))) (P 2)::
[])) (.seq (.run (.go (.move (.con (.int .i64 (.ofNat 0)))) (P 3)::
[])) (.seq (.seq (.run (.go (.move (tm 0)) (P 6)::
.go (.len 0 (tm 6)) (P 7)::
.go (.move (.con (.int .i64 (.ofNat 0)))) (P 8)::
[])) (.block 0 (.loop (.seq (.run (.go (.bin .lss 3 (tm 8) (tm 7)) (P 9)::
[])) (.seq (.cond (tm 9) .skip (.exit 0)) (.seq (.block 1 (.seq (.run (.go (.indexAddr none 1 (tm 6) (tm 8)) (P 10)::
.go (.load1 (tm 10)) (P 11)::
.go (.move (tm 11)) (P 5)::
[])) (.run (.go (.move (tm 3)) (P 12)::
.go (.move (tm 5)) (P 13)::
.go (.bin .add 3 (tm 12) (tm 13)) (P 14)::
.go (.move (tm 14)) (P 3)::
[])))) (.run (.go (.bin .add 3 (tm 8) (.con (.int .i64 (.ofNat 1)))) (P 15)::
.go (.move (tm 15)) (P 8)::
[])))))))) (.seq (.run (.go (.move (tm 3)) (P 16)::
.go (.move (tm 16)) (P 2)::
[])) .ret))))
theorem de96 : @compF Try.prog (Gl.none Try.prog) Try.f96 1=.mk d96 (mkTT 17) [(P 0)] [.tmp (P 2)]:=by kernel_rfl
theorem dg96 : Try.prog.funcs[96]?=some Try.f96:=Try.func96
theorem do96 : okF Try.prog Try.f96=true:=by kernel_rfl
noncomputable def d62 : FCode:=(.seq (.run (.go (.alloc 78 [(.int .i64 (.ofNat 0)),(.int .i64 (.ofNat 0)),(.int .i64 (.ofNat 0)),(.int .i64 (.ofNat 0)),(.int .i64 (.ofNat 0)),(.int .i64 (.ofNat 0)),(.int .i64 (.ofNat 0)),(.int .i64 (.ofNat 0))]) (P 2)::
[])) (.seq (.run (.go (.alloc 78 [(.int .i64 (.ofNat 0)),(.int .i64 (.ofNat 0)),(.int .i64 (.ofNat 0)),(.int .i64 (.ofNat 0)),(.int .i64 (.ofNat 0)),(.int .i64 (.ofNat 0)),(.int .i64 (.ofNat 0)),(.int .i64 (.ofNat 0))]) (P 3)::
[])) (.seq (.run (.go (.sliceSlow 78 (tm 3) none none) (P 4)::
.go (.move (tm 0)) (P 5)::
.go (.copy 1 (tm 4) (tm 5)) (P 6)::
[])) (.seq (.run (.go (.loadN 8 (tm 3)) (P 7)::
.un (.store 8 (tm 2) (tm 7))::
[])) .ret))))
theorem de62 : @compF Try.prog (Gl.none Try.prog) Try.f62 1=.mk d62 (mkTT 8) [(P 0)] [.many (P 2) 8]:=by kernel_rfl
theorem dg62 : Try.prog.funcs[62]?=some Try.f62:=Try.func62
theorem do62 : okF Try.prog Try.f62=true:=by kernel_rfl
theorem tdiv_bd {a b : Int} (ha : 0≤a) (hb : 0<b) : 0≤a.tdiv b∧a.tdiv b≤a:=by
 rw[Int.tdiv_eq_ediv_of_nonneg ha]
 exact⟨Int.ediv_nonneg ha (Int.le_of_lt hb),Int.ediv_le_self b ha⟩
def sl (l : List Int) : Int:=l.foldl (·+·) 0
theorem sl_app (l : List Int) (x : Int) : sl (l++[x])=sl l+x:=by simp[sl]
theorem f96_ok {H : Heap} {x : Value} {l : List Int} (h : LS H x l) (hn : l.length≤100) (hb : ∀ v∈l,-10000000≤v∧v≤10000000) : Gives Try.prog 96 [x] H (I (sl l)):=by
 have hl:=h.len
 refine F.entryL rfl dg96 do96 de96 rfl (by kernel_rfl) ?_
 simp only[sets]
 refine V.re [(0,x)] (N:=17) zE zY ?_
 intro t hF hA
 simp only[Kn,and_true] at hA
 refine zS ?_
 refine V.l0 ?_
 refine zS ?_
 refine V.l0 ?_
 refine zS ?_
 have zf:=@hl
 refine V.lz ?_
 refine zS ?_
 refine V.loop (fun z t m X=>∃ (k : Nat),k≤l.length∧z=l.length-k∧m=[]∧X=H∧(-(10000000*(k : Int))≤sl (l.take k)∧sl (l.take k)≤10000000*k)∧Full 17 t∧Kn [(0,x),(3,I (sl (l.take k))),(6,x),(7,I l.length),(8,I k)] t) l.length ?_ ?_
 ·exact⟨0,by omega,by omega,rfl,rfl,by simp[sl],zF,zK⟩
 clear hF hA
 rintro z t m X ⟨k,hk,rfl,rfl,rfl,hs,hF,hA⟩
 simp only[Kn,and_true] at hA
 refine zS ?_
 refine V.l0 ?_
 refine zS ?_
 refine V.condP zP (fun hlt=>?_) (fun hlt=>?_)
 ·have hlt' : k<l.length:=by omega
  obtain⟨p,hp,hx⟩:=h.at hlt'
  have hx1:=hx X (.refl _)
  have hbk:=hb _ (List.getElem_mem hlt')
  have e1 : sl (l.take (k+1))=sl (l.take k)+l[k]:=by rw[tk1 hlt',sl_app]
  refine zS ?_
  have zf:=And.intro @hp<|@hx1
  refine V.lz ?_
  refine zS ?_
  refine V.l0 ?_
  refine zS ?_
  refine V.l0 ?_
  refine V.nil (Or.inl ⟨rfl,l.length-(k+1),by omega,?_⟩)
  refine⟨k+1,hlt',rfl,rfl,rfl,by rw[e1];omega,?_⟩
  rw[e1]
  exact⟨zF,zK⟩
 ·obtain rfl : k=l.length:=by omega
  rw[List.take_length] at hA hs
  refine V.exit ?_
  refine zX ?_
  refine V.nil (Or.inr ⟨by simp,?_⟩)
  refine zX ?_
  refine zS ?_
  refine V.l0 ?_
  refine zS ?_
  refine V.ret (V.rets rfl (Lv.retG (by simp +contextual (disch:=first|omega|simp only[nx];omega) only[D1,cells_alloc_at,cells_alloc_ne,cells_set_at,cells_set_ne,yres,yres1,yresL,qA,qB,qC,D5,hF,hA,↓reduceIte,qD,qE];rfl) ?_ ?_))
  ·exact .refl _
  ·rfl
def n8 (f : Nat→Int) : List Value:=An 8 fun i=>I (f i)
theorem n8_len (f : Nat→Int) : (n8 f).length=8:=rfl
theorem n8_ok (f : Nat→Int) : (n8 f).all ok1=true:=rfl
theorem n8_get {f : Nat→Int} {p : Nat} (h : p<8) : (n8 f)[p]?=some (I (f p)):=An_get h
theorem n8_cong {f g : Nat→Int} (h : ∀ i,i<8→f i=g i) : n8 f=n8 g:=An_cong (fun i hi=>by rw[h i hi])
theorem n8_0 : [I 0,I 0,I 0,I 0,I 0,I 0,I 0,I 0]=n8 fun _=>0:=rfl
theorem n8_take (f : Nat→Int) : (n8 f).take 8=n8 f:=rfl
theorem n8_set0 (f g : Nat→Int) : setCells (n8 f) 0 ⟨n8 g⟩=⟨n8 f⟩:=setC_An
theorem n8_ix {f : Nat→Int} {p : Nat} (h : p<8) {k : IntKind} : yindex 8 1 true (.agg ⟨n8 f⟩) (.int k (p : Nat))=some (I (f p)):=by
 simp only[yindex]
 rw[if_pos ⟨by omega,by omega⟩]
 simp only[if_true,Int.toNat_natCast,Nat.mul_one]
 rw[arr_get]
 exact n8_get h
theorem sl78 (i : Nat) : xslice Try.prog 78 (PT i) none none none=some (.slice (some ⟨i,0,none⟩) 8 8):=by
 simp only[xslice,Try.underlying78,xbound]
 rfl
def gl0 (l : List Int) : Nat→Int:=fun i=>l.getD i 0
theorem set_gl : ∀ (l : List Int),l.length≤8→setCells (Li l) 0 ⟨n8 fun _=>0⟩=⟨n8 (gl0 l)⟩
 | [],_=>rfl
 | [_],_=>rfl
 | [_,_],_=>rfl
 | [_,_,_],_=>rfl
 | [_,_,_,_],_=>rfl
 | [_,_,_,_,_],_=>rfl
 | [_,_,_,_,_,_],_=>rfl
 | [_,_,_,_,_,_,_],_=>rfl
 | [_,_,_,_,_,_,_,_],_=>rfl
 | _::_::_::_::_::_::_::_::_::_,h=>by simp at h
theorem Sl.lead {H : Heap} {b : Option Addr} {n c : Nat} {l : List Value} (h : Sl H (.slice b n c) l) (hn : n≠0) : xsource H 1 n b=some ⟨l⟩∧l.length=n:=Sl.source h hn
theorem copy8 {X : Heap} {x : Value} {l : List Int} {i : Nat} (h : LS X x l) (hl : l.length≤8) (hb : Bx X i (n8 fun _=>0) 78) :
  ∃ n Y,ycopy 1 X (.slice (some ⟨i,0,none⟩) 8 8) x=some (n,Y)∧Bx Y i (n8 (gl0 l)) 78∧(∀ H,Grow H X→H.next≤i→Grow H Y)∧∀ j c e,j≠i→Bx X j c e→Bx Y j c e:=by
 obtain⟨h⟩:=h
 obtain⟨b,n,c,rfl⟩:=h.isS
 have hln : l.length=n:=by
  have:=h.len
  rw[Li_len] at this
  simp only[ylen,Option.some.injEq,Value.int.injEq,true_and] at this
  omega
 unfold ycopy
 simp only
 by_cases h0 : n=0
 ·rw[if_pos (by omega)]
  refine⟨_,_,rfl,?_,fun _ g _=>g,fun _ _ _ _ b=>b⟩
  have e : l=[]:=List.length_eq_zero_iff.1 (by omega)
  subst e
  exact hb
 ·rw[if_neg (by omega),Nat.min_eq_left (by omega),(Sl.lead h h0).1]
  simp only[hb.2]
  rw[if_pos]
  ·refine⟨_,_,rfl,?_,fun _ g hi=>g.set hi _,fun _ _ _ hj b=>b.set hj _⟩
   have e : setCells (⟨Li l⟩ : Array Value).toList 0 ⟨n8 fun _=>0⟩=⟨n8 (gl0 l)⟩:=set_gl l hl
   rw[e]
   exact Bx.put hb.1 _ _
  ·refine⟨Li_ok l,?_⟩
   rw[arr_size,n8_len];omega
theorem f62_ok {H : Heap} {x : Value} {l : List Int} (h : LS H x l) (hl : l.length≤8) : Gives Try.prog 62 [x] H (.agg ⟨n8 (gl0 l)⟩):=by
 refine F.entryL rfl dg62 do62 de62 rfl (by kernel_rfl) ?_
 simp only[sets]
 refine V.re [(0,x)] (N:=8) zE zY ?_
 intro t hF hA
 simp only[Kn,and_true] at hA
 refine zS ?_
 refine V.l0 ?_
 refine V.heap (fun X=>Grow H X∧Bx X H.next (n8 fun _=>0) 78∧X.next=H.next+1) ⟨?_,?_,?_⟩ ?_
 ·exact zW
 ·rw[← n8_0];exact zB
 ·rfl
 rintro H1 ⟨g1,b1,e1⟩
 refine zS ?_
 refine V.l0 ?_
 refine V.heap (fun X=>Grow H X∧Bx X H.next (n8 fun _=>0) 78∧Bx X H1.next (n8 fun _=>0) 78) ⟨?_,?_,?_⟩ ?_
 ·exact zW
 ·exact b1.alloc _
 ·rw[← n8_0];exact Bx.new _ _ _
 rintro H2 ⟨g2,b2,c2⟩
 obtain⟨n,Y,hc,cY,gY,kY⟩:=copy8 (h.grow g2) hl c2
 have gHY:=gY _ g2 (by omega)
 have bY:=kY _ _ _ (by omega) b2
 have s78:=sl78 H1.next
 refine zS ?_
 have zf:=And.intro @s78<|@hc
 refine V.lz ?_
 refine zS ?_
 have zf:=And.intro cY.2<|And.intro bY.2<|And.intro @n8_len<|And.intro @n8_take<|And.intro @n8_ok<|@n8_set0
 refine V.lz ?_
 refine zS ?_
 refine V.ret (V.rets rfl (Lv.retG (by simp +contextual (disch:=first|omega|simp only[nx];omega) only[D1,cells_alloc_at,cells_alloc_ne,cells_set_at,cells_set_ne,yres,yres1,yresL,qA,qB,qC,D5,hF,hA,↓reduceIte,qD,qE,n8_len,n8_take];rfl) ?_ ?_))
 ·exact zW
 ·rfl
end Go.Xe.TVX
