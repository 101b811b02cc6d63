/- What the functions of the layer seat come to: SeatGives. Conditions: none. -/
import Derived.Test.YtlfikodljmdekaaTUO
import Derived.Test.YtlfikodljmdekaaZm
import Derived.WideShapes
import Derived.ChangeSame
import Derived.Below
-- MOD TV
-- NOCODE 23
namespace Go.Xe.TVX
open Go Go.Xe Go.Proofs
open Nat renaming reduceLeDiff → qA, reduceSub → qB, reduceAdd → qC, reduceEqDiff → qD, reduceLT → qE
open Int renaming reduceNegSucc → qF, reduceEq → qG
open Go.Xe.V renaming seq → sA, block → sB, scope → sC, skip → sD, close → sE
open Go.Xe renaming pth → P
open Go.Xe.Sea
set_option maxRecDepth 100000
set_option maxHeartbeats 3200000
set_option linter.unusedSimpArgs false
noncomputable def d27 : FCode:=(.seq (.run (.go (.box 23 (tm 0)) (P 2)::
.go (.move (.con (.slice none 0 0))) (P 4)::
.go (.move (.con (.bool false))) (P 5)::
[])) (.seq (.run (.go (.loadN 3 (tm 2)) (P 10)::
.go (.move (tm 1)) (P 11)::
.go (.call (.con (.func (.func 42) ⟨[]⟩ ⟨[]⟩)) [(tm 10),(tm 11)]) (P 12)::
.go (.move (tm 12)) (P 9)::
.go (.extract (tm 9) 0) (P 13)::
.go (.extract (tm 9) 1) (P 14)::
.go (.move (tm 13)) (P 6)::
.go (.move (tm 14)) (P 7)::
[])) (.seq (.seq (.run (.go (.move (.con (.int .i64 (.ofNat 0)))) (P 8)::
[])) (.block 0 (.loop (.seq (.seq (.run (.go (.move (tm 8)) (P 15)::
.go (.move (tm 1)) (P 16)::
.go (.len 0 (tm 16)) (P 17)::
.go (.bin .lss 3 (tm 15) (tm 17)) (P 18)::
[])) (.cond (tm 18) .skip (.exit 0))) (.seq (.block 1 (.seq (.draw 9 (.go (.move (tm 6)) (P 21)::
.go (.move (tm 8)) (P 22)::
.go (.indexAddr none 1 (tm 21) (tm 22)) (P 23)::
.go (.load1 (tm 23)) (P 24)::
.go (.move (tm 7)) (P 25)::
.go (.move (tm 8)) (P 26)::
.go (.indexAddr none 1 (tm 25) (tm 26)) (P 27)::
.go (.load1 (tm 27)) (P 28)::
.go (.bin .neq 3 (tm 24) (tm 28)) (P 29)::
[]) [.ok,.ok,.ok,.ok,.ok,.ok,.ok,.ok,.ok]) (.cond (tm 29) (.seq (.run (.go (.move (.con (.slice none 0 0))) (P 4)::
.go (.move (.con (.bool false))) (P 5)::
[])) .ret) .skip))) (.run (.go (.move (tm 8)) (P 19)::
.go (.bin .add 3 (tm 19) (.con (.int .i64 (.ofNat 1)))) (P 20)::
.go (.move (tm 20)) (P 8)::
[]))))))) (.seq (.run (.go (.move (tm 6)) (P 30)::
.go (.move (tm 30)) (P 4)::
.go (.move (.con (.bool true))) (P 5)::
[])) .ret))))
theorem de27 : @compF Try.prog (Gl.none Try.prog) Try.f27 2=.mk d27 (mkTT 31) [(P 0),(P 1)] [.tmp (P 4),.tmp (P 5)]:=by kernel_rfl
theorem dg27 : Try.prog.funcs[27]?=some Try.f27:=Try.func27
theorem do27 : okF Try.prog Try.f27=true:=by kernel_rfl
noncomputable def d3 : FCode:=(.seq (.run (.go (.box 23 (tm 0)) (P 2)::
.go (.move (.con (.bool false))) (P 4)::
[])) (.seq (.seq (.run (.go (.move (tm 1)) (P 11)::
.go (.len 0 (tm 11)) (P 12)::
.go (.bin .gtr 3 (tm 12) (.con (.int .i64 (.ofNat 11)))) (P 13)::
[])) (.cond (tm 13) (.seq (.run (.go (.call (.con (.func (.func 20) ⟨[]⟩ ⟨[]⟩)) []) (P 14)::
.go (.move (tm 14)) (P 4)::
[])) .ret) .skip)) (.seq (.run (.go (.loadN 3 (tm 2)) (P 15)::
.go (.call (.con (.func (.func 22) ⟨[]⟩ ⟨[]⟩)) [tm 15]) (P 16)::
.go (.call (.con (.func (.func 21) ⟨[]⟩ ⟨[]⟩)) [tm 16]) (P 17)::
.go (.move (tm 17)) (P 5)::
[])) (.seq (.run (.go (.loadN 3 (tm 2)) (P 19)::
.go (.call (.con (.func (.func 22) ⟨[]⟩ ⟨[]⟩)) [tm 19]) (P 20)::
.go (.move (tm 1)) (P 21)::
.go (.call (.con (.func (.func 24) ⟨[]⟩ ⟨[]⟩)) [tm 21]) (P 22)::
.go (.call (.con (.func (.func 23) ⟨[]⟩ ⟨[]⟩)) [(tm 20),(tm 22)]) (P 23)::
.go (.move (tm 23)) (P 18)::
.go (.extract (tm 18) 0) (P 24)::
.go (.extract (tm 18) 1) (P 25)::
.go (.move (tm 24)) (P 6)::
.go (.move (tm 25)) (P 7)::
[])) (.seq (.run (.go (.loadN 3 (tm 2)) (P 26)::
.go (.move (tm 1)) (P 27)::
.go (.call (.con (.func (.func 25) ⟨[]⟩ ⟨[]⟩)) [(tm 26),(tm 27)]) (P 28)::
.go (.move (tm 28)) (P 8)::
[])) (.seq (.seq (.run (.go (.move (tm 5)) (P 29)::
.go (.loadN 3 (tm 2)) (P 30)::
.go (.call (.con (.func (.func 26) ⟨[]⟩ ⟨[]⟩)) [tm 30]) (P 31)::
.go (.bin .neq 26 (tm 29) (tm 31)) (P 32)::
[])) (.cond (tm 32) (.seq (.run (.go (.move (.con (.bool false))) (P 4)::
[])) .ret) .skip)) (.seq (.seq (.run (.go (.move (tm 8)) (P 33)::
.go (.bin .neq 26 (tm 33) (.con (.int .i64 (.ofNat 0)))) (P 34)::
[])) (.cond (tm 34) (.seq (.run (.go (.move (tm 7)) (P 35)::
.go (.move (tm 8)) (P 36)::
.go (.bin .eql 26 (tm 35) (tm 36)) (P 37)::
.go (.move (tm 37)) (P 38)::
.gd (P 38) true (.move (tm 6)) (P 39)::
.gd (P 38) true (.len 0 (tm 39)) (P 40)::
.gd (P 38) true (.bin .eql 3 (tm 40) (.con (.int .i64 (.ofNat 0)))) (P 41)::
.go (.pick (tm 38) (tm 41) (.con (.bool false))) (P 42)::
.go (.move (tm 42)) (P 43)::
.gd (P 43) true (.call (.con (.func (.func 20) ⟨[]⟩ ⟨[]⟩)) []) (P 44)::
.go (.pick (tm 43) (tm 44) (.con (.bool false))) (P 45)::
.go (.move (tm 45)) (P 4)::
[])) .ret) .skip)) (.seq (.run (.go (.loadN 3 (tm 2)) (P 47)::
.go (.move (tm 1)) (P 48)::
.go (.call (.con (.func (.func 27) ⟨[]⟩ ⟨[]⟩)) [(tm 47),(tm 48)]) (P 49)::
.go (.move (tm 49)) (P 46)::
.go (.extract (tm 46) 0) (P 50)::
.go (.extract (tm 46) 1) (P 51)::
.go (.move (tm 50)) (P 9)::
.go (.move (tm 51)) (P 10)::
[])) (.seq (.seq (.run (.go (.move (tm 10)) (P 52)::
.go (.un .not (tm 52)) (P 53)::
[])) (.cond (tm 53) (.seq (.run (.go (.move (tm 7)) (P 54)::
.go (.bin .eql 26 (tm 54) (.con (.int .i64 (.ofNat 10)))) (P 55)::
.go (.move (tm 55)) (P 56)::
.gd (P 56) true (.move (tm 6)) (P 57)::
.gd (P 56) true (.len 0 (tm 57)) (P 58)::
.gd (P 56) true (.bin .eql 3 (tm 58) (.con (.int .i64 (.ofNat 0)))) (P 59)::
.go (.pick (tm 56) (tm 59) (.con (.bool false))) (P 60)::
.go (.move (tm 60)) (P 61)::
.gd (P 61) true (.call (.con (.func (.func 20) ⟨[]⟩ ⟨[]⟩)) []) (P 62)::
.go (.pick (tm 61) (tm 62) (.con (.bool false))) (P 63)::
.go (.move (tm 63)) (P 4)::
[])) .ret) .skip)) (.seq (.run (.go (.move (tm 7)) (P 64)::
.go (.bin .eql 26 (tm 64) (.con (.int .i64 (.ofNat 0)))) (P 65)::
.go (.move (tm 65)) (P 66)::
.gd (P 66) true (.move (tm 6)) (P 67)::
.gd (P 66) true (.move (tm 9)) (P 68)::
.gd (P 66) true (.call (.con (.func (.func 28) ⟨[]⟩ ⟨[]⟩)) [(tm 67),(tm 68)]) (P 69)::
.go (.pick (tm 66) (tm 69) (.con (.bool false))) (P 70)::
.go (.move (tm 70)) (P 71)::
.gd (P 71) true (.call (.con (.func (.func 20) ⟨[]⟩ ⟨[]⟩)) []) (P 72)::
.go (.pick (tm 71) (tm 72) (.con (.bool false))) (P 73)::
.go (.move (tm 73)) (P 4)::
[])) .ret))))))))))
theorem de3 : @compF Try.prog (Gl.none Try.prog) Try.f3 2=.mk d3 (mkTT 74) [(P 0),(P 1)] [.tmp (P 4)]:=by kernel_rfl
theorem dg3 : Try.prog.funcs[3]?=some Try.f3:=Try.func3
theorem do3 : okF Try.prog Try.f3=true:=by kernel_rfl
theorem f42_all {H : Heap} {m S L : Int} {x : Value} {l : List Int} (h : LS H x l) (h0 : flt m S L l=0) : F Try.prog 42 ⟨[.agg ⟨A3 m S L⟩,x]⟩ H (fun w X=>Grow H X∧SPR m S L l X w):=
 f42_ok h h0 (fun h5 hN X g=>by subst h5;exact f69_ok (h.grow g) h0 hN)
theorem f23_any {H : Heap} {m S L : Int} {x : Value} {l : List Int} (h : LS H x l) : F Try.prog 23 ⟨[.agg ⟨A3 m S L⟩,x]⟩ H (fun w X=>Grow H X∧SR m S L l X w):=by
 by_cases he0 : flt m S L l=0
 ·obtain⟨hr,_,_⟩:=flt_0.1 he0
  exact f23_ok h ⟨hr.2.2.1,by have:=hr.2.2.2.1;omega⟩
 have hl:=h.len
 obtain⟨px,nx',cx,rfl⟩:=h.s.isS
 refine F.entryL rfl dg23 do23 de23 rfl (by kernel_rfl) ?_
 simp only[sets]
 refine V.re [(0,.agg ⟨A3 m S L⟩),(1,.slice px nx' cx)] (N:=28) zE zY ?_
 intro t hF hA
 simp only[Kn,and_true] at hA
 refine zS ?_
 refine V.l0 ?_
 refine V.heap (fun X=>Grow H X∧Bx X H.next (A3 m S L) 28) ⟨?_,?_⟩ ?_
 ·exact zW
 ·exact zB
 rintro H1 ⟨g1,b1⟩
 refine zS ?_
 refine V.run ?_
 have zf:=b1.2
 refine VI.sz 2 ?_
 simp only[ds]
 refine VI.callA rfl (f54_ok (m:=m) (S:=S) (L:=L) (h.grow g1)) zA (fun H2 g2=>?_)
 have b2:=b1.grow g2
 have g12:=g1.trans g2
 refine VI.l0 ?_
 refine zS ?_
 refine V.l0 ?_
 refine zS ?_
 refine V.condP zP (fun he=>?_) (fun he=>?_)
 ·refine zS ?_
  refine V.l0 ?_
  refine zS ?_
  refine V.ret (V.rets rfl (Lv.retF (by simp +contextual (disch:=first|omega|simp only[nx];omega) only[D1,cells_alloc_at,cells_alloc_ne,cells_set_at,cells_set_ne,yres,yres1,yresL,qA,qB,qC,D5,hF,hA,↓reduceIte,qD,qE];rfl) ?_))
  exact⟨g12,_,_,rfl,.inl ⟨he,rfl,rfl⟩⟩
 ·exact absurd (Decidable.not_not.1 he) he0
def RSL (m S L : Int) (l : List Int) (X : Heap) (w : Value) : Prop:=(sure m S (vl L l)∧∃ y,w=.tuple ⟨[y,.bool true]⟩∧LS X y (fl l.length (otc m S (vl L l)).1))∨(¬ sure m S (vl L l)∧w=.tuple ⟨[.slice none 0 0,.bool false]⟩)
theorem f27_ok {H : Heap} {m S L : Int} {x : Value} {l : List Int} (h : LS H x l) (h0 : flt m S L l=0) : F Try.prog 27 ⟨[.agg ⟨A3 m S L⟩,x]⟩ H (fun w X=>Grow H X∧RSL m S L l X w):=by
 have hl:=h.len
 obtain⟨px,nx',cx,rfl⟩:=h.s.isS
 obtain⟨hr,hl8,hb⟩:=flt_0.1 h0
 have hvk:=vl_ok (L:=L) hb
 have hv8:=vl_8 (L:=L) hl8
 have hS : 0≤S∧S≤61:=⟨hr.2.2.1,by have:=hr.2.2.2.1;omega⟩
 have F0:=otc_fin (m:=m) hvk hS hv8
 have hbd:=Fin.bd F0 hS.1
 obtain⟨A,hA0⟩ : ∃ A,A=(otc m S (vl L l)).1:=⟨_,rfl⟩
 obtain⟨B,hB0⟩ : ∃ B,B=(otc m S (vl L l)).2:=⟨_,rfl⟩
 have hz : ∀ p,l.length≤p→A p=B p:=fun p hp=>by
  have hn : ¬ 0<vl L l p:=by rw[vl_out hp];omega
  rw[hA0,hB0]
  rcases F0.2 with⟨_,_,e⟩|⟨_,_,e⟩|⟨_,_,_,e⟩
  ·rw[e]
  ·rw[e]
  ·rw[e];unfold Sea.up;rw[if_neg (fun k=>hn (mem_tp.1 k).2.1)]
 have hsu : sure m S (vl L l)↔∀ p,p<l.length→A p=B p:=by
  unfold sure eq8
  rw[← hA0,← hB0]
  refine⟨fun k p hp=>k p (by omega),fun k p hp=>?_⟩
  by_cases hpl : p<l.length
  ·exact k p hpl
  ·exact hz p (by omega)
 refine F.entryL rfl dg27 do27 de27 rfl (by kernel_rfl) ?_
 simp only[sets]
 refine V.re [(0,.agg ⟨A3 m S L⟩),(1,.slice px nx' cx)] (N:=31) zE zY ?_
 intro t hF hA
 simp only[Kn,and_true] at hA
 refine zS ?_
 refine V.l0 ?_
 refine V.heap (fun X=>Grow H X∧Bx X H.next (A3 m S L) 23) ⟨?_,?_⟩ ?_
 ·exact zW
 ·exact zB
 rintro H1 ⟨g1,b1⟩
 refine zS ?_
 refine V.run ?_
 have zf:=b1.2
 refine VI.sz 2 ?_
 simp only[ds]
 refine VI.callR zA (f42_all (m:=m) (S:=S) (L:=L) (h.grow g1) h0) zA (fun w2 H2 ⟨g2,y1,y2,hw2,q1,q2⟩=>?_)
 subst hw2
 rw[← hA0] at q1
 rw[← hB0] at q2
 have g12:=g1.trans g2
 have ql:=q1.len
 refine VI.l0 ?_
 refine zS ?_
 refine V.l0 ?_
 refine zS ?_
 refine V.loop (fun z t mm X=>∃ (p : Nat),p≤l.length∧z=l.length-p∧mm=[]∧X=H2∧(∀ i,i<p→A i=B i)∧Full 31 t∧Kn [(1,.slice px nx' cx),(6,y1),(7,y2),(8,I p)] t) l.length ?_ ?_
 ·exact⟨0,by omega,by omega,rfl,rfl,fun i hi=>by omega,zF,zK⟩
 clear hF hA
 rintro z t mm X ⟨p,hp,rfl,rfl,hX,hi,hF,hA⟩
 obtain rfl : H2=X:=hX.symm
 simp only[Kn,and_true] at hA
 refine zS ?_
 have zf:=@hl
 refine V.lz ?_
 refine zS ?_
 refine V.condP zP (fun hlt=>?_) (fun hlt=>?_)
 ·have hlt' : p<l.length:=by omega
  obtain⟨pa,pa1,pa2⟩:=q1.at (k:=p) (by rw[fl_len];exact hlt')
  obtain⟨pb,pb1,pb2⟩:=q2.at (k:=p) (by rw[fl_len];exact hlt')
  have pa3:=pa2 H2 (.refl _)
  have pb3:=pb2 H2 (.refl _)
  rw[fl_at] at pa3 pb3
  refine zS ?_
  have zf:=And.intro @pa1<|And.intro @pa3<|And.intro @pb1<|@pb3
  refine V.dz ?_ ?_ rfl ?_
  ·exact zM
  ·simp only[dcAll,dcOk,wantD,List.cons_append,List.nil_append,true_and,and_true]
  refine zS ?_
  refine V.condP zP (fun hne=>?_) (fun hne=>?_)
  ·refine zS ?_
   refine V.l0 ?_
   refine zS ?_
   refine V.ret (V.rets rfl (Or.inr ⟨by simp,V.rets rfl (Lv.retF (by simp +contextual (disch:=first|omega|simp only[nx];omega) only[D1,cells_alloc_at,cells_alloc_ne,cells_set_at,cells_set_ne,yres,yres1,yresL,qA,qB,qC,D5,hF,hA,↓reduceIte,qD,qE];rfl) ?_)⟩))
   exact⟨g12,.inr ⟨fun k=>hne ((hsu.1 k) p hlt'),rfl⟩⟩
  ·refine zS ?_
   refine V.l0 ?_
   refine V.nil (Or.inl ⟨rfl,l.length-(p+1),by omega,?_⟩)
   refine⟨p+1,hlt',rfl,rfl,rfl,fun i hi2=>?_,zF,zK⟩
   rcases Nat.lt_succ_iff_lt_or_eq.1 hi2 with h2|rfl
   ·exact hi i h2
   ·exact Decidable.not_not.1 hne
 ·obtain rfl : p=l.length:=by omega
  refine V.exit ?_
  refine zX ?_
  refine V.nil (Or.inr ⟨by simp,?_⟩)
  refine zX ?_
  refine zS ?_
  refine V.l0 ?_
  refine zS ?_
  refine V.ret (V.rets rfl (Lv.retF (by simp +contextual (disch:=first|omega|simp only[nx];omega) only[D1,cells_alloc_at,cells_alloc_ne,cells_set_at,cells_set_ne,yres,yres1,yresL,qA,qB,qC,D5,hF,hA,↓reduceIte,qD,qE];rfl) ?_))
  refine⟨g12,.inl ⟨hsu.2 hi,_,rfl,?_⟩⟩
  rw[← hA0]
  exact q1
theorem f3_all {H : Heap} {m S L : Int} {x : Value} {l : List Int} (hx : Sl H x (l.map I)) : F Try.prog 3 ⟨[.agg ⟨A3 m S L⟩,x]⟩ H (fun w _=>w=.bool true):=by
 have h : LS H x l:=⟨hx⟩
 have hl:=h.len
 have hl0 : ∀ X,ylen 0 X (.slice none 0 0)=some (I 0):=fun _=>rfl
 obtain⟨px,nx',cx,rfl⟩:=h.s.isS
 refine F.entryL rfl dg3 do3 de3 rfl (by kernel_rfl) ?_
 simp only[sets]
 refine V.re [(0,.agg ⟨A3 m S L⟩),(1,.slice px nx' cx)] (N:=74) zE zY ?_
 intro t hF hA
 simp only[Kn,and_true] at hA
 refine zS ?_
 refine V.l0 ?_
 refine V.heap (fun X=>Grow H X∧Bx X H.next (A3 m S L) 23) ⟨?_,?_⟩ ?_
 ·exact zW
 ·exact zB
 rintro H1 ⟨g1,b1⟩
 refine zS ?_
 have zf:=@hl
 refine V.lz ?_
 refine zS ?_
 refine V.condP zP (fun hbig=>?_) (fun hbig=>?_)
 ·refine zS ?_
  refine V.run ?_
  refine VI.callA rfl (f20_ok _) zA (fun H3 g3=>?_)
  refine VI.l0 ?_
  refine zS ?_
  refine V.ret (V.rets rfl (Lv.retF (by simp +contextual (disch:=first|omega|simp only[nx];omega) only[D1,cells_alloc_at,cells_alloc_ne,cells_set_at,cells_set_ne,yres,yres1,yresL,qA,qB,qC,D5,hF,hA,↓reduceIte,qD,qE];rfl) ?_))
  rfl
 refine zS ?_
 refine V.run ?_
 have zf:=b1.2
 refine VI.sz 1 ?_
 simp only[ds]
 refine VI.callA rfl (f22_ok m S L _) zA (fun H2 g2=>?_)
 refine VI.callA rfl (f21_ok (m:=m) (S:=S) (L:=L)) zA (fun H3 g3=>?_)
 refine VI.l0 ?_
 have b3:=(b1.grow g2).grow g3
 have gH3:=(g1.trans g2).trans g3
 refine zS ?_
 refine V.run ?_
 have zf:=b3.2
 refine VI.sz 1 ?_
 simp only[ds]
 refine VI.callA rfl (f22_ok m S L _) zA (fun H4 g4=>?_)
 refine VI.s0 1 ?_
 simp only[ds]
 refine VI.callR zA (f24_ok (h.grow (gH3.trans g4)) (by omega)) zA (fun w5 H5 ⟨g5,o5⟩=>?_)
 refine VI.callR zA (f23_any (m:=m) (S:=S) (L:=L) (ow_ls o5)) zA (fun w6 H6 ⟨g6,y1,e1,hw6,k1⟩=>?_)
 subst hw6
 have g36:=(g4.trans g5).trans g6
 have b6:=b3.grow g36
 have gH6:=gH3.trans g36
 refine VI.l0 ?_
 refine zS ?_
 refine V.run ?_
 have zf:=b6.2
 refine VI.sz 2 ?_
 simp only[ds]
 refine VI.callA rfl (f25_ok (m:=m) (S:=S) (L:=L) (h.grow gH6)) zA (fun H7 g7=>?_)
 have b7:=b6.grow g7
 have gH7:=gH6.trans g7
 refine VI.l0 ?_
 refine zS ?_
 refine V.run ?_
 have zf:=b7.2
 refine VI.sz 2 ?_
 simp only[ds]
 refine VI.callA rfl (f26_ok m S L H7) zA (fun H8 g8=>?_)
 have b8:=b7.grow g8
 have gH8:=gH7.trans g8
 refine VI.l0 ?_
 refine zS ?_
 refine V.condP zP (fun hc=>?_) (fun hc=>?_)
 ·exact absurd trivial hc
 clear hc
 refine zS ?_
 refine V.l0 ?_
 refine zS ?_
 refine V.condP zP (fun h0=>?_) (fun h0=>?_)
 ·rcases k1 with⟨_,rfl,rfl⟩|⟨k,_⟩|⟨k,_⟩
  ·have hee : (flt m S L l=flt m S L l)=True:=eq_self _
   refine zS ?_
   refine V.run ?_
   have zf:=And.intro @hl0<|@hee
   refine VI.sz 9 ?_
   simp only[ds]
   refine VI.callAT zG rfl (f20_ok _) zA (fun Ha ga=>?_)
   refine VI.l0 ?_
   refine zS ?_
   refine V.ret (V.rets rfl (Lv.retF (by simp +contextual (disch:=first|omega|simp only[nx];omega) only[D1,cells_alloc_at,cells_alloc_ne,cells_set_at,cells_set_ne,yres,yres1,yresL,qA,qB,qC,D5,hF,hA,↓reduceIte,qD,qE];rfl) ?_))
   rfl
  ·exact absurd k h0
  ·exact absurd k h0
 have h0 : flt m S L l=0:=Decidable.not_not.1 h0
 refine zS ?_
 refine V.run ?_
 have zf:=b8.2
 refine VI.sz 2 ?_
 simp only[ds]
 refine VI.callR zA (f27_ok (m:=m) (S:=S) (L:=L) (h.grow gH8) h0) zA (fun w9 H9 ⟨g9,k9⟩=>?_)
 have gH9:=gH8.trans g9
 have g69:=(g7.trans g8).trans g9
 rcases k9 with⟨hsu,y2,rfl,q2⟩|⟨hns,rfl⟩
 ·rcases k1 with⟨k,_⟩|⟨_,k,_⟩|⟨_,_,rfl,q1⟩
  ·exact absurd h0 k
  ·exact absurd hsu k
  ·have f28':=f28_ok (q1.grow g69) q2 (by rw[fl_len];have:=(flt_0.1 h0).2.1;omega)
   rw[decide_eq_true rfl] at f28'
   refine VI.l0 ?_
   refine zS ?_
   refine V.l0 ?_
   refine zS ?_
   refine V.condF zA ?_
   refine zS ?_
   refine V.run ?_
   refine VI.s0 5 ?_
   simp only[ds]
   refine VI.callAT zG rfl (f28') zA (fun Ha ga=>?_)
   refine VI.s0 2 ?_
   simp only[ds]
   refine VI.callAT zG rfl (f20_ok _) zA (fun Hb gb=>?_)
   refine VI.l0 ?_
   refine zS ?_
   refine V.ret (V.rets rfl (Lv.retF (by simp +contextual (disch:=first|omega|simp only[nx];omega) only[D1,cells_alloc_at,cells_alloc_ne,cells_set_at,cells_set_ne,yres,yres1,yresL,qA,qB,qC,D5,hF,hA,↓reduceIte,qD,qE];rfl) ?_))
   rfl
 ·rcases k1 with⟨k,_⟩|⟨_,_,rfl,rfl⟩|⟨_,k,_⟩
  ·exact absurd h0 k
  ·refine VI.l0 ?_
   refine zS ?_
   refine V.l0 ?_
   refine zS ?_
   refine V.condT zA ?_
   refine zS ?_
   refine V.run ?_
   have zf:=@hl0
   refine VI.sz 8 ?_
   simp only[ds]
   refine VI.callAT zG rfl (f20_ok _) zA (fun Ha ga=>?_)
   refine VI.l0 ?_
   refine zS ?_
   refine V.ret (V.rets rfl (Lv.retF (by simp +contextual (disch:=first|omega|simp only[nx];omega) only[D1,cells_alloc_at,cells_alloc_ne,cells_set_at,cells_set_ne,yres,yres1,yresL,qA,qB,qC,D5,hF,hA,↓reduceIte,qD,qE];rfl) ?_))
   rfl
  ·exact absurd k hns
end Go.Xe.TVX
/- Rules of reasoning over the executable reading of the model's code (part Z16): arguments, by what their types allow. Conditions: none; for every program. -/
namespace Go.Xe
open Go Go.RowKit Go.ChangeShapes Go.WideShapes
theorem okWide_agg {P : Program} {w : World} {r : Reach} {base : Nat} {t : TypeId} {v : Value} {fs : Array Field} (ht : P.underlying t=some (.struct fs)) (h : Value.okWide P w r base t v) : ∃ cs,v=.agg cs:=by
 unfold Value.okWide at h
 rw[ht] at h
 obtain⟨cs,h,_⟩:=h
 exact⟨cs,h⟩
end Go.Xe
/- The end of a call that has changed nothing of what was there: what a statement asks of the memory behind it. Conditions: as post_of_same's, but that new memory may be frozen. -/
namespace Go.Xe
open Go Go.RowKit Go.ChangeShapes Go.WideShapes
variable {H : Type} {enc : TypeId×Value→H} {P : Program}
theorem post_of_old {f : Func} {s : ChangeSpec} {apart fresh handsOn again : Bool} {W W' : World} {args : Array Value} {v : Value} {ds gs : List (DataW H)} {before pa pv : List MemPlace}
  (hW : DataW.Whole enc P f.params.toList s.vars apart W args.toList ds gs before)
  (hres : ∀ (b : Nat) (sp : Nat→Bool) (hd : Bool),DataW.TrodAll enc P W' b sp hd f.resultTypes.toList (v.resultList f.resultTypes.size) (s.fn H (ds++gs)).results [])
  (hargs : ∀ sp : Nat→Bool,(∀ p∈before,sp p.block=true)→DataW.TrodAll enc P W' 0 sp true f.params.toList args.toList (s.fn H (ds++gs)).args pa)
  (hvars : ∀ sp : Nat→Bool,(∀ p∈before,sp p.block=true)→DataW.TrodVars enc P W' sp s.vars (s.fn H (ds++gs)).vars pv)
  (hps : before=pa++pv) (hk : W.keptBut W' (·∈before)) (hfz : ∀ a : Addr,a.block<W.heap.size→W'.frozen? a=W.frozen? a)
  (hok : ∀ (j : Nat) (t : TypeId) (r : Value),f.resultTypes[j]?=some t→(v.resultList f.resultTypes.size)[j]?=some r→Value.okWide P W' .any 0 t r) :
  s.post enc P f apart fresh handsOn again W args v W':=by
 have old : ∀ p∈before,p.block<W.heap.size:=fun p hp=>hW.lt p hp
 have hold : ∀ p∈before,(fun b=>decide (b<W.heap.size)) p.block=true:=fun p hp=>by simpa using old p hp
 subst hps
 refine⟨ds,gs,_,[],pa,pv,hW,hres _ _ _,hargs _ hold,hvars _ hold,World.keptBut_mono (fun p hp=>⟨hp,.inr (List.mem_append.1 hp)⟩) hk,fun _=>?_⟩
 obtain⟨_,_,_,_,_,hz,hn⟩:=hW
 refine⟨hok,_,_,([]++pa)++pv,⟨[]++pa,pv,trodAll_append (hargs _ (fun _ _=>rfl)) (hres _ _ _),hvars _ (fun _ _=>rfl),rfl,?_,?_⟩,?_⟩
 ·intro b off hp
  have hp' : MemPlace.cell b off∈pa++pv:=by simpa using hp
  rw[hfz _ (old _ hp')]
  exact hz b off hp'
 ·intro ha
  simpa using hn ha
 ·intro p hp _
  simpa using hp
end Go.Xe
