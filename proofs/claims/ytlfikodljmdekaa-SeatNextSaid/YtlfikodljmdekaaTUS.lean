/- What the functions of the layer seat come to: SeatGives. Conditions: none. -/
import Derived.Test.YtlfikodljmdekaaTUO
-- MOD TV
-- NOCODE 23
namespace Go.Xe.TVX
open Go Go.Xe Go.Proofs
open Nat renaming reduceLeDiff → qA, reduceSub → qB, reduceAdd → qC, reduceEqDiff → qD, reduceLT → qE
open Int renaming reduceNegSucc → qF, reduceEq → qG
open Go.Xe.V renaming seq → sA, block → sB, scope → sC, skip → sD, close → sE
open Go.Xe renaming pth → P
open Go.Xe.Sea
set_option maxRecDepth 100000
set_option maxHeartbeats 3200000
set_option linter.unusedSimpArgs false
noncomputable def d27 : FCode:=(.seq (.run (.go (.box 23 (tm 0)) (P 2)::
.go (.move (.con (.slice none 0 0))) (P 4)::
.go (.move (.con (.bool false))) (P 5)::
[])) (.seq (.run (.go (.loadN 3 (tm 2)) (P 10)::
.go (.move (tm 1)) (P 11)::
.go (.call (.con (.func (.func 42) ⟨[]⟩ ⟨[]⟩)) [(tm 10),(tm 11)]) (P 12)::
.go (.move (tm 12)) (P 9)::
.go (.extract (tm 9) 0) (P 13)::
.go (.extract (tm 9) 1) (P 14)::
.go (.move (tm 13)) (P 6)::
.go (.move (tm 14)) (P 7)::
[])) (.seq (.seq (.run (.go (.move (.con (.int .i64 (.ofNat 0)))) (P 8)::
[])) (.block 0 (.loop (.seq (.seq (.run (.go (.move (tm 8)) (P 15)::
.go (.move (tm 1)) (P 16)::
.go (.len 0 (tm 16)) (P 17)::
.go (.bin .lss 3 (tm 15) (tm 17)) (P 18)::
[])) (.cond (tm 18) .skip (.exit 0))) (.seq (.block 1 (.seq (.draw 9 (.go (.move (tm 6)) (P 21)::
.go (.move (tm 8)) (P 22)::
.go (.indexAddr none 1 (tm 21) (tm 22)) (P 23)::
.go (.load1 (tm 23)) (P 24)::
.go (.move (tm 7)) (P 25)::
.go (.move (tm 8)) (P 26)::
.go (.indexAddr none 1 (tm 25) (tm 26)) (P 27)::
.go (.load1 (tm 27)) (P 28)::
.go (.bin .neq 3 (tm 24) (tm 28)) (P 29)::
[]) [.ok,.ok,.ok,.ok,.ok,.ok,.ok,.ok,.ok]) (.cond (tm 29) (.seq (.run (.go (.move (.con (.slice none 0 0))) (P 4)::
.go (.move (.con (.bool false))) (P 5)::
[])) .ret) .skip))) (.run (.go (.move (tm 8)) (P 19)::
.go (.bin .add 3 (tm 19) (.con (.int .i64 (.ofNat 1)))) (P 20)::
.go (.move (tm 20)) (P 8)::
[]))))))) (.seq (.run (.go (.move (tm 6)) (P 30)::
.go (.move (tm 30)) (P 4)::
.go (.move (.con (.bool true))) (P 5)::
[])) .ret))))
theorem de27 : @compF Try.prog (Gl.none Try.prog) Try.f27 2=.mk d27 (mkTT 31) [(P 0),(P 1)] [.tmp (P 4),.tmp (P 5)]:=by kernel_rfl
theorem dg27 : Try.prog.funcs[27]?=some Try.f27:=Try.func27
theorem do27 : okF Try.prog Try.f27=true:=by kernel_rfl
noncomputable def d3 : FCode:=(.seq (.run (.go (.box 23 (tm 0)) (P 2)::
.go (.move (.con (.bool false))) (P 4)::
[])) (.seq (.seq (.run (.go (.move (tm 1)) (P 11)::
.go (.len 0 (tm 11)) (P 12)::
.go (.bin .gtr 3 (tm 12) (.con (.int .i64 (.ofNat 11)))) (P 13)::
[])) (.cond (tm 13) (.seq (.run (.go (.call (.con (.func (.func 20) ⟨[]⟩ ⟨[]⟩)) []) (P 14)::
.go (.move (tm 14)) (P 4)::
[])) .ret) .skip)) (.seq (.run (.go (.loadN 3 (tm 2)) (P 15)::
.go (.call (.con (.func (.func 22) ⟨[]⟩ ⟨[]⟩)) [tm 15]) (P 16)::
.go (.call (.con (.func (.func 21) ⟨[]⟩ ⟨[]⟩)) [tm 16]) (P 17)::
.go (.move (tm 17)) (P 5)::
[])) (.seq (.run (.go (.loadN 3 (tm 2)) (P 19)::
.go (.call (.con (.func (.func 22) ⟨[]⟩ ⟨[]⟩)) [tm 19]) (P 20)::
.go (.move (tm 1)) (P 21)::
.go (.call (.con (.func (.func 24) ⟨[]⟩ ⟨[]⟩)) [tm 21]) (P 22)::
.go (.call (.con (.func (.func 23) ⟨[]⟩ ⟨[]⟩)) [(tm 20),(tm 22)]) (P 23)::
.go (.move (tm 23)) (P 18)::
.go (.extract (tm 18) 0) (P 24)::
.go (.extract (tm 18) 1) (P 25)::
.go (.move (tm 24)) (P 6)::
.go (.move (tm 25)) (P 7)::
[])) (.seq (.run (.go (.loadN 3 (tm 2)) (P 26)::
.go (.move (tm 1)) (P 27)::
.go (.call (.con (.func (.func 25) ⟨[]⟩ ⟨[]⟩)) [(tm 26),(tm 27)]) (P 28)::
.go (.move (tm 28)) (P 8)::
[])) (.seq (.seq (.run (.go (.move (tm 5)) (P 29)::
.go (.loadN 3 (tm 2)) (P 30)::
.go (.call (.con (.func (.func 26) ⟨[]⟩ ⟨[]⟩)) [tm 30]) (P 31)::
.go (.bin .neq 26 (tm 29) (tm 31)) (P 32)::
[])) (.cond (tm 32) (.seq (.run (.go (.move (.con (.bool false))) (P 4)::
[])) .ret) .skip)) (.seq (.seq (.run (.go (.move (tm 8)) (P 33)::
.go (.bin .neq 26 (tm 33) (.con (.int .i64 (.ofNat 0)))) (P 34)::
[])) (.cond (tm 34) (.seq (.run (.go (.move (tm 7)) (P 35)::
.go (.move (tm 8)) (P 36)::
.go (.bin .eql 26 (tm 35) (tm 36)) (P 37)::
.go (.move (tm 37)) (P 38)::
.gd (P 38) true (.move (tm 6)) (P 39)::
.gd (P 38) true (.len 0 (tm 39)) (P 40)::
.gd (P 38) true (.bin .eql 3 (tm 40) (.con (.int .i64 (.ofNat 0)))) (P 41)::
.go (.pick (tm 38) (tm 41) (.con (.bool false))) (P 42)::
.go (.move (tm 42)) (P 43)::
.gd (P 43) true (.call (.con (.func (.func 20) ⟨[]⟩ ⟨[]⟩)) []) (P 44)::
.go (.pick (tm 43) (tm 44) (.con (.bool false))) (P 45)::
.go (.move (tm 45)) (P 4)::
[])) .ret) .skip)) (.seq (.run (.go (.loadN 3 (tm 2)) (P 47)::
.go (.move (tm 1)) (P 48)::
.go (.call (.con (.func (.func 27) ⟨[]⟩ ⟨[]⟩)) [(tm 47),(tm 48)]) (P 49)::
.go (.move (tm 49)) (P 46)::
.go (.extract (tm 46) 0) (P 50)::
.go (.extract (tm 46) 1) (P 51)::
.go (.move (tm 50)) (P 9)::
.go (.move (tm 51)) (P 10)::
[])) (.seq (.seq (.run (.go (.move (tm 10)) (P 52)::
.go (.un .not (tm 52)) (P 53)::
[])) (.cond (tm 53) (.seq (.run (.go (.move (tm 7)) (P 54)::
.go (.bin .eql 26 (tm 54) (.con (.int .i64 (.ofNat 10)))) (P 55)::
.go (.move (tm 55)) (P 56)::
.gd (P 56) true (.move (tm 6)) (P 57)::
.gd (P 56) true (.len 0 (tm 57)) (P 58)::
.gd (P 56) true (.bin .eql 3 (tm 58) (.con (.int .i64 (.ofNat 0)))) (P 59)::
.go (.pick (tm 56) (tm 59) (.con (.bool false))) (P 60)::
.go (.move (tm 60)) (P 61)::
.gd (P 61) true (.call (.con (.func (.func 20) ⟨[]⟩ ⟨[]⟩)) []) (P 62)::
.go (.pick (tm 61) (tm 62) (.con (.bool false))) (P 63)::
.go (.move (tm 63)) (P 4)::
[])) .ret) .skip)) (.seq (.run (.go (.move (tm 7)) (P 64)::
.go (.bin .eql 26 (tm 64) (.con (.int .i64 (.ofNat 0)))) (P 65)::
.go (.move (tm 65)) (P 66)::
.gd (P 66) true (.move (tm 6)) (P 67)::
.gd (P 66) true (.move (tm 9)) (P 68)::
.gd (P 66) true (.call (.con (.func (.func 28) ⟨[]⟩ ⟨[]⟩)) [(tm 67),(tm 68)]) (P 69)::
.go (.pick (tm 66) (tm 69) (.con (.bool false))) (P 70)::
.go (.move (tm 70)) (P 71)::
.gd (P 71) true (.call (.con (.func (.func 20) ⟨[]⟩ ⟨[]⟩)) []) (P 72)::
.go (.pick (tm 71) (tm 72) (.con (.bool false))) (P 73)::
.go (.move (tm 73)) (P 4)::
[])) .ret))))))))))
abbrev okS (m S : Int) (l : List Int) : Prop:=(1≤m∧m≤5)∧(0≤S∧S≤61)∧l.length≤8∧∀ v∈l,0≤v∧v≤10000
theorem okS_of {m S L : Int} {l : List Int} (h0 : flt m S L l=0) : okS m S l∧okS m (S+1) l:=by
 obtain⟨hr,hl8,hb⟩:=flt_0.1 h0
 have h1:=hr.2.2.1
 have h2:=hr.2.2.2.1
 exact⟨⟨⟨hr.1,hr.2.1⟩,⟨by omega,by omega⟩,hl8,hb⟩,⟨hr.1,hr.2.1⟩,⟨by omega,by omega⟩,hl8,hb⟩
theorem f42_any {H : Heap} {m S L : Int} {x : Value} {l : List Int} (h : LS H x l) (hg : okS m S l) : F Try.prog 42 ⟨[.agg ⟨A3 m S L⟩,x]⟩ H (fun w X=>Grow H X∧SPR m S L l X w):=
 f42_ok h hg (fun h5 hN X g=>by subst h5;exact f69_ok (h.grow g) hg.2 hN)
def RSL (m S L : Int) (l : List Int) (X : Heap) (w : Value) : Prop:=(sure m S (vl L l)∧∃ y,w=.tuple ⟨[y,.bool true]⟩∧LS X y (fl l.length (otc m S (vl L l)).1))∨(¬ sure m S (vl L l)∧w=.tuple ⟨[.slice none 0 0,.bool false]⟩)
theorem f27_any {H : Heap} {m S L : Int} {x : Value} {l : List Int} (h : LS H x l) (hg : okS m S l) : F Try.prog 27 ⟨[.agg ⟨A3 m S L⟩,x]⟩ H (fun w X=>Grow H X∧RSL m S L l X w):=by
 have hl:=h.len
 obtain⟨px,nx',cx,rfl⟩:=h.s.isS
 obtain⟨hm5,hS,hl8,hb⟩:=id hg
 have hvk:=vl_ok (L:=L) hb
 have hv8:=vl_8 (L:=L) hl8
 have F0:=otc_fin (m:=m) hvk hS hv8
 have hbd:=Fin.bd F0 hS.1
 obtain⟨A,hA0⟩ : ∃ A,A=(otc m S (vl L l)).1:=⟨_,rfl⟩
 obtain⟨B,hB0⟩ : ∃ B,B=(otc m S (vl L l)).2:=⟨_,rfl⟩
 have hz : ∀ p,l.length≤p→A p=B p:=fun p hp=>by
  have hn : ¬ 0<vl L l p:=by rw[vl_out hp];omega
  rw[hA0,hB0]
  rcases F0.2 with⟨_,_,e⟩|⟨_,_,e⟩|⟨_,_,_,e⟩
  ·rw[e]
  ·rw[e]
  ·rw[e];unfold Sea.up;rw[if_neg (fun k=>hn (mem_tp.1 k).2.1)]
 have hsu : sure m S (vl L l)↔∀ p,p<l.length→A p=B p:=by
  unfold sure eq8
  rw[← hA0,← hB0]
  refine⟨fun k p hp=>k p (by omega),fun k p hp=>?_⟩
  by_cases hpl : p<l.length
  ·exact k p hpl
  ·exact hz p (by omega)
 refine F.entryL rfl dg27 do27 de27 rfl (by kernel_rfl) ?_
 simp only[sets]
 refine V.re [(0,.agg ⟨A3 m S L⟩),(1,.slice px nx' cx)] (N:=31) zE zY ?_
 intro t hF hA
 simp only[Kn,and_true] at hA
 refine zS ?_
 refine V.l0 ?_
 refine V.heap (fun X=>Grow H X∧Bx X H.next (A3 m S L) 23) ⟨?_,?_⟩ ?_
 ·exact zW
 ·exact zB
 rintro H1 ⟨g1,b1⟩
 refine zS ?_
 refine V.run ?_
 have zf:=b1.2
 refine VI.sz 2 ?_
 simp only[ds]
 refine VI.callR zA (f42_any (m:=m) (S:=S) (L:=L) (h.grow g1) hg) zA (fun w2 H2 ⟨g2,y1,y2,hw2,q1,q2⟩=>?_)
 subst hw2
 rw[← hA0] at q1
 rw[← hB0] at q2
 have g12:=g1.trans g2
 have ql:=q1.len
 refine VI.l0 ?_
 refine zS ?_
 refine V.l0 ?_
 refine zS ?_
 refine V.loop (fun z t mm X=>∃ (p : Nat),p≤l.length∧z=l.length-p∧mm=[]∧X=H2∧(∀ i,i<p→A i=B i)∧Full 31 t∧Kn [(1,.slice px nx' cx),(6,y1),(7,y2),(8,I p)] t) l.length ?_ ?_
 ·exact⟨0,by omega,by omega,rfl,rfl,fun i hi=>by omega,zF,zK⟩
 clear hF hA
 rintro z t mm X ⟨p,hp,rfl,rfl,hX,hi,hF,hA⟩
 obtain rfl : H2=X:=hX.symm
 simp only[Kn,and_true] at hA
 refine zS ?_
 have zf:=@hl
 refine V.lz ?_
 refine zS ?_
 refine V.condP zP (fun hlt=>?_) (fun hlt=>?_)
 ·have hlt' : p<l.length:=by omega
  obtain⟨pa,pa1,pa2⟩:=q1.at (k:=p) (by rw[fl_len];exact hlt')
  obtain⟨pb,pb1,pb2⟩:=q2.at (k:=p) (by rw[fl_len];exact hlt')
  have pa3:=pa2 H2 (.refl _)
  have pb3:=pb2 H2 (.refl _)
  rw[fl_at] at pa3 pb3
  refine zS ?_
  have zf:=And.intro @pa1<|And.intro @pa3<|And.intro @pb1<|@pb3
  refine V.dz ?_ ?_ rfl ?_
  ·exact zM
  ·simp only[dcAll,dcOk,wantD,List.cons_append,List.nil_append,true_and,and_true]
  refine zS ?_
  refine V.condP zP (fun hne=>?_) (fun hne=>?_)
  ·refine zS ?_
   refine V.l0 ?_
   refine zS ?_
   refine V.ret (V.rets rfl (Or.inr ⟨by simp,V.rets rfl (Lv.retF (by simp +contextual (disch:=first|omega|simp only[nx];omega) only[D1,cells_alloc_at,cells_alloc_ne,cells_set_at,cells_set_ne,yres,yres1,yresL,qA,qB,qC,D5,hF,hA,↓reduceIte,qD,qE];rfl) ?_)⟩))
   exact⟨g12,.inr ⟨fun k=>hne ((hsu.1 k) p hlt'),rfl⟩⟩
  ·refine zS ?_
   refine V.l0 ?_
   refine V.nil (Or.inl ⟨rfl,l.length-(p+1),by omega,?_⟩)
   refine⟨p+1,hlt',rfl,rfl,rfl,fun i hi2=>?_,zF,zK⟩
   rcases Nat.lt_succ_iff_lt_or_eq.1 hi2 with h2|rfl
   ·exact hi i h2
   ·exact Decidable.not_not.1 hne
 ·obtain rfl : p=l.length:=by omega
  refine V.exit ?_
  refine zX ?_
  refine V.nil (Or.inr ⟨by simp,?_⟩)
  refine zX ?_
  refine zS ?_
  refine V.l0 ?_
  refine zS ?_
  refine V.ret (V.rets rfl (Lv.retF (by simp +contextual (disch:=first|omega|simp only[nx];omega) only[D1,cells_alloc_at,cells_alloc_ne,cells_set_at,cells_set_ne,yres,yres1,yresL,qA,qB,qC,D5,hF,hA,↓reduceIte,qD,qE];rfl) ?_))
  refine⟨g12,.inl ⟨hsu.2 hi,_,rfl,?_⟩⟩
  rw[← hA0]
  exact q1
theorem f27_ok {H : Heap} {m S L : Int} {x : Value} {l : List Int} (h : LS H x l) (h0 : flt m S L l=0) : F Try.prog 27 ⟨[.agg ⟨A3 m S L⟩,x]⟩ H (fun w X=>Grow H X∧RSL m S L l X w):=f27_any h (okS_of h0).1
end Go.Xe.TVX
/- What the functions of the layer seat come to: SeatProves. Conditions: none. -/
-- MOD TV
namespace Go.Xe.TVX
open Go Go.Xe Go.Proofs
open Nat renaming reduceLeDiff → qA, reduceSub → qB, reduceAdd → qC, reduceEqDiff → qD, reduceLT → qE
open Int renaming reduceNegSucc → qF, reduceEq → qG
open Go.Xe.V renaming seq → sA, block → sB, scope → sC, skip → sD, close → sE
open Go.Xe renaming pth → P
open Go.Xe.Sea
set_option maxRecDepth 100000
set_option maxHeartbeats 3200000
set_option linter.unusedSimpArgs false
section
variable {m S : Int} {v : Nat→Int}
end
end Go.Xe.TVX
/- What the functions of the layer seat come to: IsResult, and SeatProves. Conditions: none. -/
-- MOD TV
namespace Go.Xe.TVX
open Go Go.Xe Go.Proofs
open Nat renaming reduceLeDiff → qA, reduceSub → qB, reduceAdd → qC, reduceEqDiff → qD, reduceLT → qE
open Int renaming reduceNegSucc → qF, reduceEq → qG
open Go.Xe.V renaming seq → sA, block → sB, scope → sC, skip → sD, close → sE
open Go.Xe renaming pth → P
open Go.Xe.Sea
set_option maxRecDepth 100000
set_option maxHeartbeats 3200000
set_option linter.unusedSimpArgs false
noncomputable def d4 : FCode:=(.seq (.run (.go (.box 23 (tm 0)) (P 3)::
.go (.move (.con (.bool false))) (P 6)::
[])) (.seq (.seq (.run (.go (.move (tm 1)) (P 8)::
.go (.len 0 (tm 8)) (P 9)::
.go (.bin .gtr 3 (tm 9) (.con (.int .i64 (.ofNat 11)))) (P 10)::
.go (.move (tm 10)) (P 11)::
.gd (P 11) false (.move (tm 2)) (P 12)::
.gd (P 11) false (.len 0 (tm 12)) (P 13)::
.gd (P 11) false (.bin .gtr 3 (tm 13) (.con (.int .i64 (.ofNat 11)))) (P 14)::
.go (.pick (tm 11) (.con (.bool true)) (tm 14)) (P 15)::
[])) (.cond (tm 15) (.seq (.run (.go (.call (.con (.func (.func 20) ⟨[]⟩ ⟨[]⟩)) []) (P 16)::
.go (.move (tm 16)) (P 6)::
[])) .ret) .skip)) (.seq (.run (.go (.loadN 3 (tm 3)) (P 17)::
.go (.call (.con (.func (.func 22) ⟨[]⟩ ⟨[]⟩)) [tm 17]) (P 18)::
.go (.move (tm 1)) (P 19)::
.go (.call (.con (.func (.func 24) ⟨[]⟩ ⟨[]⟩)) [tm 19]) (P 20)::
.go (.move (tm 2)) (P 21)::
.go (.call (.con (.func (.func 24) ⟨[]⟩ ⟨[]⟩)) [tm 21]) (P 22)::
.go (.call (.con (.func (.func 29) ⟨[]⟩ ⟨[]⟩)) [(tm 18),(tm 20),(tm 22)]) (P 23)::
.go (.move (tm 23)) (P 7)::
[])) (.seq (.run (.go (.move (tm 7)) (P 24)::
.go (.loadN 3 (tm 3)) (P 25)::
.go (.move (tm 1)) (P 26)::
.go (.call (.con (.func (.func 25) ⟨[]⟩ ⟨[]⟩)) [(tm 25),(tm 26)]) (P 27)::
.go (.bin .eql 26 (tm 27) (.con (.int .i64 (.ofNat 0)))) (P 28)::
.go (.move (tm 28)) (P 29)::
.gd (P 29) true (.loadN 3 (tm 3)) (P 30)::
.gd (P 29) true (.move (tm 1)) (P 31)::
.gd (P 29) true (.move (tm 2)) (P 32)::
.gd (P 29) true (.call (.con (.func (.func 30) ⟨[]⟩ ⟨[]⟩)) [(tm 30),(tm 31),(tm 32)]) (P 33)::
.go (.pick (tm 29) (tm 33) (.con (.bool false))) (P 34)::
.go (.bin .eql 4 (tm 24) (tm 34)) (P 35)::
.go (.move (tm 35)) (P 36)::
.gd (P 36) true (.call (.con (.func (.func 20) ⟨[]⟩ ⟨[]⟩)) []) (P 37)::
.go (.pick (tm 36) (tm 37) (.con (.bool false))) (P 38)::
.go (.move (tm 38)) (P 6)::
[])) .ret))))
end Go.Xe.TVX
