/- The statement RoundChanges: the function. Conditions: none. -/
import Derived.Test.YtimnlnfpblomnaaTST
import Derived.Test.YtimnlnfpblomnaaZv
noncomputable section
namespace Go.Xe.TRX
open Go Go.Xe Go.Proofs
open Nat renaming reduceLeDiff ->qA, reduceSub ->qB, reduceAdd ->qC, reduceEqDiff ->qD, reduceLT ->qE
open Int renaming reduceNegSucc ->qF, reduceEq ->qG
open Go.Xe.V renaming seq ->sA, block ->sB, scope ->sC, skip ->sD, close ->sE
open Go.Xe renaming pth ->P
open Go.Xe.Rnd
set_option maxRecDepth 100000
set_option maxHeartbeats 3200000
set_option linter.unusedSimpArgs false
def d16 : FCode:=(.seq (.run (.go (.move (.con (.bool false))) (P 2)::
[])) (.seq (.seq (.run (.go (.move (.con (.int .i64 (.ofNat 0)))) (P 3)::
[])) (.block 0 (.loop (.seq (.seq (.run (.go (.move (tm 3)) (P 4)::
.go (.move (tm 0)) (P 5)::
.go (.len 0 (tm 5)) (P 6)::
.go (.bin .lss 3 (tm 4) (tm 6)) (P 7)::
.go (.move (tm 7)) (P 8)::
.gd (P 8) true (.move (tm 3)) (P 9)::
.gd (P 8) true (.bin .lss 3 (tm 9) (.con (.int .i64 (.ofNat 9)))) (P 10)::
.go (.pick (tm 8) (tm 10) (.con (.bool false))) (P 11)::
[])) (.cond (tm 11) .skip (.exit 0))) (.seq (.block 1 (.seq (.run (.go (.move (tm 0)) (P 14)::
.go (.move (tm 3)) (P 15)::
.go (.indexAddr none 1 (tm 14) (tm 15)) (P 16)::
.go (.load1 (tm 16)) (P 17)::
.go (.len 0 (tm 17)) (P 18)::
.go (.bin .gtr 3 (tm 18) (.con (.int .i64 (.ofNat 7)))) (P 19)::
[])) (.cond (tm 19) (.seq (.run (.go (.move (.con (.bool false))) (P 2)::
[])) .ret) .skip))) (.run (.go (.move (tm 3)) (P 12)::
.go (.bin .add 3 (tm 12) (.con (.int .i64 (.ofNat 1)))) (P 13)::
.go (.move (tm 13)) (P 3)::
[]))))))) (.seq (.run (.go (.move (tm 0)) (P 20)::
.go (.len 0 (tm 20)) (P 21)::
.go (.bin .leq 3 (tm 21) (.con (.int .i64 (.ofNat 8)))) (P 22)::
.go (.move (tm 22)) (P 2)::
[])) .ret)))
theorem de16 : @compF Try.prog (Gl.none Try.prog) Try.f16 1=.mk d16 (mkTT 23) [(P 0)] [.tmp (P 2)]:=by kernel_rfl
theorem dg16 : Try.prog.funcs[16]?=some Try.f16:=Try.func16
theorem do16 : okF Try.prog Try.f16=true:=by kernel_rfl
def d15 : FCode:=(.seq (.run (.go (.box 25 (tm 0)) (P 1)::
.go (.move (.con (.bool false))) (P 2)::
[])) (.seq (.run (.go (.fieldAddr 1 (tm 1)) (P 3)::
.go (.load1 (tm 3)) (P 4)::
.go (.call (.con (.func (.func 16) ⟨[]⟩ ⟨[]⟩)) [tm 4]) (P 5)::
.go (.move (tm 5)) (P 6)::
.gd (P 6) true (.fieldAddr 2 (tm 1)) (P 7)::
.gd (P 6) true (.load1 (tm 7)) (P 8)::
.gd (P 6) true (.len 0 (tm 8)) (P 9)::
.gd (P 6) true (.bin .leq 3 (tm 9) (.con (.int .i64 (.ofNat 13)))) (P 10)::
.go (.pick (tm 6) (tm 10) (.con (.bool false))) (P 11)::
.go (.move (tm 11)) (P 2)::
[])) .ret))
theorem de15 : @compF Try.prog (Gl.none Try.prog) Try.f15 1=.mk d15 (mkTT 12) [(P 0)] [.tmp (P 2)]:=by kernel_rfl
theorem dg15 : Try.prog.funcs[15]?=some Try.f15:=Try.func15
theorem do15 : okF Try.prog Try.f15=true:=by kernel_rfl
def d3 : FCode:=(.seq (.run (.go (.box 25 (tm 0)) (P 3)::
.go (.move (.con (.bool false))) (P 6)::
[])) (.seq (.seq (.run (.go (.loadN 3 (tm 3)) (P 15)::
.go (.call (.con (.func (.func 15) ⟨[]⟩ ⟨[]⟩)) [tm 15]) (P 16)::
.go (.un .not (tm 16)) (P 17)::
.go (.move (tm 17)) (P 18)::
.gd (P 18) false (.move (tm 1)) (P 19)::
.gd (P 18) false (.call (.con (.func (.func 16) ⟨[]⟩ ⟨[]⟩)) [tm 19]) (P 20)::
.gd (P 18) false (.un .not (tm 20)) (P 21)::
.go (.pick (tm 18) (.con (.bool true)) (tm 21)) (P 22)::
[])) (.cond (tm 22) (.seq (.run (.go (.call (.con (.func (.func 17) ⟨[]⟩ ⟨[]⟩)) []) (P 23)::
.go (.move (tm 23)) (P 6)::
[])) .ret) .skip)) (.seq (.run (.go (.loadN 3 (tm 3)) (P 24)::
.go (.call (.con (.func (.func 19) ⟨[]⟩ ⟨[]⟩)) [tm 24]) (P 25)::
.go (.call (.con (.func (.func 18) ⟨[]⟩ ⟨[]⟩)) [tm 25]) (P 26)::
.go (.move (tm 26)) (P 7)::
[])) (.seq (.run (.go (.loadN 3 (tm 3)) (P 28)::
.go (.call (.con (.func (.func 19) ⟨[]⟩ ⟨[]⟩)) [tm 28]) (P 29)::
.go (.move (tm 1)) (P 30)::
.go (.call (.con (.func (.func 21) ⟨[]⟩ ⟨[]⟩)) [tm 30]) (P 31)::
.go (.call (.con (.func (.func 20) ⟨[]⟩ ⟨[]⟩)) [(tm 29),(tm 31)]) (P 32)::
.go (.move (tm 32)) (P 27)::
.go (.extract (tm 27) 0) (P 33)::
.go (.extract (tm 27) 1) (P 34)::
.go (.move (tm 33)) (P 8)::
.go (.move (tm 34)) (P 9)::
[])) (.seq (.run (.go (.loadN 3 (tm 3)) (P 35)::
.go (.call (.con (.func (.func 19) ⟨[]⟩ ⟨[]⟩)) [tm 35]) (P 36)::
.go (.move (tm 1)) (P 37)::
.go (.call (.con (.func (.func 21) ⟨[]⟩ ⟨[]⟩)) [tm 37]) (P 38)::
.go (.move (tm 2)) (P 39)::
.go (.call (.con (.func (.func 22) ⟨[]⟩ ⟨[]⟩)) [(tm 36),(tm 38),(tm 39)]) (P 40)::
.go (.move (tm 40)) (P 10)::
[])) (.seq (.run (.go (.loadN 3 (tm 3)) (P 41)::
.go (.call (.con (.func (.func 23) ⟨[]⟩ ⟨[]⟩)) [tm 41]) (P 42)::
.go (.move (tm 42)) (P 11)::
[])) (.seq (.seq (.run (.go (.move (tm 7)) (P 43)::
.go (.move (tm 11)) (P 44)::
.go (.bin .neq 29 (tm 43) (tm 44)) (P 45)::
[])) (.cond (tm 45) (.seq (.run (.go (.move (.con (.bool false))) (P 6)::
[])) .ret) .skip)) (.seq (.seq (.run (.go (.move (tm 11)) (P 46)::
.go (.bin .eql 29 (tm 46) (.con (.int .i64 (.ofNat 0)))) (P 47)::
.go (.move (tm 47)) (P 48)::
.gd (P 48) true (.loadN 3 (tm 3)) (P 49)::
.gd (P 48) true (.move (tm 1)) (P 50)::
.gd (P 48) true (.call (.con (.func (.func 24) ⟨[]⟩ ⟨[]⟩)) [(tm 49),(tm 50)]) (P 51)::
.gd (P 48) true (.un .not (tm 51)) (P 52)::
.go (.pick (tm 48) (tm 52) (.con (.bool false))) (P 53)::
[])) (.cond (tm 53) (.run (.go (.move (.con (.int .i64 (.ofNat 2)))) (P 11)::
[])) .skip)) (.seq (.seq (.run (.go (.move (.con (.int .i64 (.ofNat 0)))) (P 12)::
[])) (.block 0 (.loop (.seq (.seq (.run (.go (.move (tm 12)) (P 54)::
.go (.move (tm 1)) (P 55)::
.go (.len 0 (tm 55)) (P 56)::
.go (.bin .lss 3 (tm 54) (tm 56)) (P 57)::
.go (.move (tm 57)) (P 58)::
.gd (P 58) true (.move (tm 11)) (P 59)::
.gd (P 58) true (.bin .eql 29 (tm 59) (.con (.int .i64 (.ofNat 0)))) (P 60)::
.go (.pick (tm 58) (tm 60) (.con (.bool false))) (P 61)::
[])) (.cond (tm 61) .skip (.exit 0))) (.seq (.block 1 (.seq (.run (.go (.move (.con (.int .i64 (.ofNat 0)))) (P 13)::
[])) (.block 2 (.loop (.seq (.seq (.run (.go (.move (tm 13)) (P 64)::
.go (.move (tm 1)) (P 65)::
.go (.move (tm 12)) (P 66)::
.go (.indexAddr none 1 (tm 65) (tm 66)) (P 67)::
.go (.load1 (tm 67)) (P 68)::
.go (.len 0 (tm 68)) (P 69)::
.go (.bin .lss 3 (tm 64) (tm 69)) (P 70)::
[])) (.cond (tm 70) .skip (.exit 2))) (.seq (.block 3 (.seq (.run (.go (.move (tm 1)) (P 73)::
.go (.move (tm 12)) (P 74)::
.go (.indexAddr none 1 (tm 73) (tm 74)) (P 75)::
.go (.load1 (tm 75)) (P 76)::
.go (.move (tm 13)) (P 77)::
.go (.indexAddr none 1 (tm 76) (tm 77)) (P 78)::
.go (.load1 (tm 78)) (P 79)::
.go (.call (.con (.func (.func 25) ⟨[]⟩ ⟨[]⟩)) [(tm 79),(.con (.int .i64 (.ofNat 0))),(.con (.int .i64 (.ofNat 10100)))]) (P 80)::
.go (.un .not (tm 80)) (P 81)::
[])) (.cond (tm 81) (.run (.go (.move (.con (.int .i64 (.ofNat 2)))) (P 11)::
[])) .skip))) (.run (.go (.move (tm 13)) (P 71)::
.go (.bin .add 3 (tm 71) (.con (.int .i64 (.ofNat 1)))) (P 72)::
.go (.move (tm 72)) (P 13)::
[])))))))) (.run (.go (.move (tm 12)) (P 62)::
.go (.bin .add 3 (tm 62) (.con (.int .i64 (.ofNat 1)))) (P 63)::
.go (.move (tm 63)) (P 12)::
[]))))))) (.seq (.seq (.run (.go (.move (tm 11)) (P 82)::
.go (.bin .neq 29 (tm 82) (.con (.int .i64 (.ofNat 0)))) (P 83)::
[])) (.cond (tm 83) (.seq (.run (.go (.move (tm 9)) (P 84)::
.go (.move (tm 11)) (P 85)::
.go (.bin .eql 29 (tm 84) (tm 85)) (P 86)::
.go (.move (tm 86)) (P 87)::
.gd (P 87) true (.move (tm 8)) (P 88)::
.gd (P 87) true (.bin .eql 3 (tm 88) (.con (.int .i64 (.ofNat 0)))) (P 89)::
.go (.pick (tm 87) (tm 89) (.con (.bool false))) (P 90)::
.go (.move (tm 90)) (P 91)::
.gd (P 91) true (.move (tm 10)) (P 92)::
.gd (P 91) true (.un .not (tm 92)) (P 93)::
.go (.pick (tm 91) (tm 93) (.con (.bool false))) (P 94)::
.go (.move (tm 94)) (P 95)::
.gd (P 95) true (.call (.con (.func (.func 17) ⟨[]⟩ ⟨[]⟩)) []) (P 96)::
.go (.pick (tm 95) (tm 96) (.con (.bool false))) (P 97)::
.go (.move (tm 97)) (P 6)::
[])) .ret) .skip)) (.seq (.run (.go (.loadN 3 (tm 3)) (P 98)::
.go (.move (tm 1)) (P 99)::
.go (.call (.con (.func (.func 26) ⟨[]⟩ ⟨[]⟩)) [(tm 98),(tm 99)]) (P 100)::
.go (.move (tm 100)) (P 14)::
[])) (.seq (.run (.go (.move (tm 9)) (P 101)::
.go (.bin .eql 29 (tm 101) (.con (.int .i64 (.ofNat 0)))) (P 102)::
.go (.move (tm 102)) (P 103)::
.gd (P 103) true (.move (tm 8)) (P 104)::
.gd (P 103) true (.move (tm 14)) (P 105)::
.gd (P 103) true (.bin .eql 3 (tm 104) (tm 105)) (P 106)::
.go (.pick (tm 103) (tm 106) (.con (.bool false))) (P 107)::
.go (.move (tm 107)) (P 108)::
.gd (P 108) true (.move (tm 10)) (P 109)::
.gd (P 108) true (.loadN 3 (tm 3)) (P 110)::
.gd (P 108) true (.move (tm 1)) (P 111)::
.gd (P 108) true (.call (.con (.func (.func 27) ⟨[]⟩ ⟨[]⟩)) [(tm 110),(tm 111)]) (P 112)::
.gd (P 108) true (.move (tm 112)) (P 113)::
.gd (P 113) true (.move (tm 14)) (P 114)::
.gd (P 113) true (.move (tm 2)) (P 115)::
.gd (P 113) true (.bin .leq 3 (tm 114) (tm 115)) (P 116)::
.gd (P 108) true (.pick (tm 113) (tm 116) (.con (.bool false))) (P 117)::
.gd (P 108) true (.bin .eql 4 (tm 109) (tm 117)) (P 118)::
.go (.pick (tm 108) (tm 118) (.con (.bool false))) (P 119)::
.go (.move (tm 119)) (P 120)::
.gd (P 120) true (.call (.con (.func (.func 17) ⟨[]⟩ ⟨[]⟩)) []) (P 121)::
.go (.pick (tm 120) (tm 121) (.con (.bool false))) (P 122)::
.go (.move (tm 122)) (P 6)::
[])) .ret))))))))))))
def few (L : List (List Int)) : Prop:=(∀ row∈L.take 9,row.length<=7)/\L.length<=8
instance (L : List (List Int)) : Decidable (few L):=by unfold few;infer_instance
theorem few_all {L : List (List Int)} (h : few L) : ∀ row∈L,row.length<=7:=by
 obtain⟨h1,h2⟩:=h
 rwa [List.take_of_length_le (by omega)] at h1
theorem f16_ok {H : Heap} {y : Value} {L : List (List Int)} (hy : Nest RI H y L) : Gives Try.prog 16 [y] H (.bool (decide (few L))):=by
 have hln : ∀ X,ylen 0 X y=some (I L.length):=hy.len
 refine F.entryL rfl dg16 do16 de16 rfl (by kernel_rfl) ?_
 simp only[sets]
 refine V.re [(0,y)] (N:=23) zE zY ?_
 intro t hF hA
 simp only[Kn,and_true] at hA
 refine zS ?_
 refine V.l0 ?_
 refine zS ?_
 refine V.l0 ?_
 refine zS ?_
 refine V.loop (λz t m X=>∃ (k : Nat),k<=L.length/\k<=9/\z=9-k/\m=[]/\X=H/\(∀ row∈L.take k,row.length<=7)/\Full 23 t/\Kn [(0,y),(3,I k)] t) 9 ?_ ?_
 ·exact⟨0,by omega,by omega,by omega,rfl,rfl,by simp,zF,zK⟩
 clear hF hA
 rintro z t m X ⟨k,hk,hk9,rfl,rfl,hX,hall,hF,hA⟩
 obtain rfl : H=X:=hX.symm
 simp only[Kn,and_true] at hA
 refine zS ?_
 have zf:=@hln
 refine V.lz ?_
 refine zS ?_
 refine V.condP zP (λhlt=>?_) (λhlt=>?_)
 ·have hlt' : k<L.length/\k<9:=by omega
  obtain⟨p,x,hp,hx⟩:=hy.at ri hlt'.1
  obtain⟨hx1,hx2⟩:=hx H (.refl _)
  have hpk:=hp .i64
  have hxl:=hx2.len
  refine zS ?_
  have zf:=aI @hpk<|aI @hx1<|@hxl
  refine V.lz ?_
  refine zS ?_
  refine V.condP zP (λh7=>?_) (λh7=>?_)
  ·refine zS ?_
   refine V.l0 ?_
   refine zS ?_
   refine V.ret (V.rets rfl (Or.inr ⟨by simp,V.rets rfl (Lv.retG (by simp +contextual (disch:=first|omega|simp only[nx];omega) only[D1,cells_alloc_at,cells_alloc_ne,cells_set_at,cells_set_ne,yres,yres1,yresL,qA,qB,qC,D5,hF,hA,↓reduceIte,qD,qE];rfl) ?_ ?_)⟩))
   ·exact .refl _
   ·refine congrArg _ (decide_eq_false (λhh=>?_)).symm
    have:=hh.1 L[k] (List.mem_take_iff_getElem.2 ⟨k,by omega,rfl⟩)
    omega
  ·refine zS ?_
   refine V.l0 ?_
   refine V.nil (Or.inl ⟨rfl,9-(k+1),by omega,?_⟩)
   refine⟨k+1,by omega,by omega,rfl,rfl,rfl,?_,zF,zK⟩
   intro row hr
   rw[tk1 hlt'.1] at hr
   rcases List.mem_append.1 hr with hr|hr
   ·exact hall row hr
   ·rw[List.mem_singleton.1 hr];omega
 ·refine V.exit ?_
  refine zX ?_
  refine V.nil (Or.inr ⟨by simp,?_⟩)
  refine zX ?_
  have hDe : L.take 9=L.take k:=by
   rcases (show k=9\/k=L.length by omega) with e|e
   ·rw[e]
   ·rw[e,List.take_length,List.take_of_length_le (by omega)]
  rw[<- hDe] at hall
  refine zS ?_
  have zf:=@hln
  refine V.lz ?_
  refine zS ?_
  refine V.ret (V.rets rfl (Lv.retG (by simp +contextual (disch:=first|omega|simp only[nx];omega) only[D1,cells_alloc_at,cells_alloc_ne,cells_set_at,cells_set_ne,yres,yres1,yresL,qA,qB,qC,D5,hF,hA,↓reduceIte,qD,qE];rfl) ?_ ?_))
  ·exact .refl _
  ·congr 1
   rw[decide_eq_decide]
   exact⟨λhh=>⟨hall,by omega⟩,λhh=>by have:=hh.2;omega⟩
def thin (T : Tb) : Prop:=few T.C/\T.F.length<=13
instance (T : Tb) : Decidable (thin T):=by unfold thin;infer_instance
theorem thin_sh {T : Tb} (h : thin T) : sh T:=⟨by have:=h.1.2;omega,λrow hr=>by have:=few_all h.1 row hr;omega,by have:=h.2;omega⟩
theorem f15_ok {H : Heap} {c f : Value} {T : Tb} (h : TV H c f T) : Gives Try.prog 15 [.agg ⟨[I T.b,c,f]⟩] H (.bool (decide (thin T))):=by
 have hlf:=h.fl
 refine F.entryL rfl dg15 do15 de15 rfl (by kernel_rfl) ?_
 simp only[sets]
 refine V.re [(0,.agg ⟨[I T.b,c,f]⟩)] (N:=12) zE zY ?_
 intro t hF hA
 simp only[Kn,and_true] at hA
 refine zS ?_
 refine V.l0 ?_
 refine V.heap (λX=>Grow H X/\Bx X H.next [I T.b,c,f] 25) ⟨?_,?_⟩ ?_
 ·exact zW
 ·exact zB
 rintro H1 ⟨g1,b1⟩
 refine zS ?_
 refine V.run ?_
 have zf:=b1.2
 refine VI.sz 2 ?_
 simp only[ds]
 refine VI.callA rfl (f16_ok (h.c.grow ri g1)) zA (λH2 g2=>?_)
 have b2:=b1.grow g2
 have zf:=aI b2.2<|@hlf
 refine VI.lz ?_
 refine zS ?_
 refine V.ret (V.rets rfl (Lv.retG (by simp +contextual (disch:=first|omega|simp only[nx];omega) only[D1,cells_alloc_at,cells_alloc_ne,cells_set_at,cells_set_ne,yres,yres1,yresL,qA,qB,qC,D5,hF,hA,↓reduceIte,qD,qE];rfl) ?_ ?_))
 ·exact g1.trans g2
 ·congr 1
  rw[decide_eq_decide]
  unfold thin
  constructor
  ·rintro⟨a,b⟩;exact⟨a,by omega⟩
  ·rintro⟨a,b⟩;exact⟨a,by omega⟩
def K (T : Tb) (N : List (List Int)) (r : Nat) (W : Int) : Prop:=(W=0/\flt T=0/\((∀ row∈N,row.length=cols T)/\N.length=T.C.length)/\∀ row∈N.take r,∀ v∈row,0<=v/\v<=10100)\/(W=ce T N/\W≠0)
end Go.Xe.TRX
namespace Go.Xe
open Go Go.RowKit Go.ChangeShapes Go.WideShapes
end Go.Xe
namespace Go.Xe.TRX
open Go Go.Xe Go.Proofs
open Go.Xe.Rnd
abbrev shIs : Sh:=.slice 1 (.int .i64)
abbrev shNs : Sh:=.slice 1 shIs
abbrev shR3 : Sh:=.pair (.int .i64) (.pair (.int .i64) (.pair (.int .i64) .unit))
abbrev shTb : Sh:=.pair (.int .i64) (.pair shNs (.pair (.slice 3 shR3) .unit))
theorem ri_of {A : Heap} {cs : List Value} {y : Ty shIs} (h : Sem A shIs cs y) : ∃ v L,cs=[v]/\RI A v L:=by
 obtain⟨v,rows,rfl,h1,h2,_,h3⟩:=h
 refine⟨v,y,rfl,?_⟩
 have e : rows=((y : List Int).map I).map λx=>[x]:=by
  apply List.ext_getElem
  ·simp[h2]
  ·intro k k1 k2
   have hk : k<(y : List Int).length:=by omega
   obtain⟨e1,_⟩:=h3 k rows[k] ((y : List Int)[k]) (by simp) (by simp[hk])
   rw[e1]
   simp
 rw[e] at h1
 exact h1.one
theorem nest_of {A : Heap} {cs : List Value} {y : Ty shNs} (h : Sem A shNs cs y) : ∃ v L,cs=[v]/\Nest RI A v L:=by
 obtain⟨v,rows,rfl,h1,h2,_,h3⟩:=h
 obtain⟨Z,hz1,hz2⟩:=list_of (α:=Value×List Int) (p:=λi x=>rows[i]?=some [x.1]/\RI A x.1 x.2) rows.length (λi hi=>by
  have hk : i<(y : List (Ty shIs)).length:=by omega
  obtain⟨v,L,e,hr⟩:=ri_of (h3 i rows[i] ((y : List (Ty shIs))[i]) (by simp) (by simp[hk]))
  exact⟨(v,L),by simp[hi,e],hr⟩)
 refine⟨v,Z.map (·.2),rfl,Z.map (·.1),?_,by simp,?_⟩
 ·have e : rows=(Z.map (·.1)).map λx=>[x]:=by
   apply List.ext_getElem
   ·simp[hz1]
   ·intro k k1 k2
    have:=(hz2 k Z[k] (by simp[hz1,k1])).1
    rw[List.getElem?_eq_getElem k1,Option.some.injEq] at this
    rw[this]
    simp
  rw[e] at h1
  exact h1.one
 ·intro k x r hx hr
  rw[List.getElem?_map] at hx hr
  cases hq : Z[k]? with
  | none=>rw[hq] at hx;cases hx
  | some q=>
   rw[hq] at hx hr
   cases hx;cases hr
   exact (hz2 k q hq).2
theorem sw3_of {A : Heap} {cs : List Value} {y : Ty (.slice 3 shR3)} (h : Sem A (.slice 3 shR3) cs y) : ∃ v,∃ L : List R3,cs=[v]/\Sw 3 A v (L.map r3):=by
 obtain⟨v,rows,rfl,h1,h2,_,h3⟩:=h
 refine⟨v,(y : List (Ty shR3)).map λx=>(x.1,x.2.1,x.2.2.1),rfl,?_⟩
 have e : rows=((y : List (Ty shR3)).map λx=>(x.1,x.2.1,x.2.2.1)).map r3:=by
  apply List.ext_getElem
  ·simp[h2]
  ·intro k k1 k2
   have hk : k<(y : List (Ty shR3)).length:=by omega
   obtain⟨c1,c2,e1,⟨rfl,_⟩,d1,d2,e2,⟨rfl,_⟩,f1,f2,e3,⟨rfl,_⟩,e5⟩:=h3 k rows[k] ((y : List (Ty shR3))[k]) (by simp) (by simp[hk])
   rw[e1,e2,e3,e5]
   simp[r3]
 have:=h1.sw
 rw[e] at this
 exact this
theorem tb_of {A : Heap} {l : List Value} {y : Ty shTb} (h : Sem A shTb l y) : ∃ c f,∃ T : Tb,l=[I T.b,c,f]/\TV A c f T:=by
 obtain⟨c1,c2,rfl,⟨rfl,_⟩,d1,d2,rfl,h2,e1,e2,rfl,h3,h4⟩:=h
 obtain⟨c,C,rfl,hc⟩:=nest_of h2
 obtain⟨f,F,rfl,hf⟩:=sw3_of h3
 have h4' : e2=[]:=h4
 subst h4'
 exact⟨c,f,⟨_,C,F⟩,rfl,hc,hf⟩
end Go.Xe.TRX
-- MOD TR
namespace Go.Xe.TRX
open Go Go.Xe Go.Proofs
open Nat renaming reduceLeDiff ->qA, reduceSub ->qB, reduceAdd ->qC, reduceEqDiff ->qD, reduceLT ->qE
open Int renaming reduceNegSucc ->qF, reduceEq ->qG
open Go.Xe.V renaming seq ->sA, block ->sB, scope ->sC, skip ->sD, close ->sE
open Go.Xe renaming pth ->P
open Go.Xe.Rnd
set_option maxRecDepth 100000
set_option maxHeartbeats 3200000
set_option linter.unusedSimpArgs false
def d89 : FCode:=(.seq (.run (.go (.box 89 (tm 0)) (P 2)::
.go (.box 127 (tm 1)) (P 3)::
.go (.alloc 94 [(.int .i64 (.ofNat 0)),(.int .i64 (.ofNat 0)),(.slice none 0 0)]) (P 4)::
[])) (.seq (.seq (.run (.go (.loadN 8 (tm 2)) (P 5)::
.go (.fieldAddr 1 (tm 3)) (P 6)::
.go (.loadN 4 (tm 6)) (P 7)::
.go (.call (.con (.func (.func 77) ⟨[]⟩ ⟨[]⟩)) [(tm 5),(tm 7)]) (P 8)::
.go (.un .not (tm 8)) (P 9)::
[])) (.cond (tm 9) (.seq (.run (.go (.build [(.int .i64 (.ofNat 0)),(.int .i64 (.ofNat 0)),(.slice none 0 0)] []) (P 10)::
.un (.store 3 (tm 4) (tm 10))::
[])) .ret) .skip)) (.seq (.run (.go (.build [(.int .i64 (.ofNat 0)),(.int .i64 (.ofNat 0)),(.slice none 0 0)] [(0,1,(.con (.int .i64 (.ofNat 1))))]) (P 11)::
.un (.store 3 (tm 4) (tm 11))::
[])) .ret)))
theorem de89 : @compF Try.prog (Gl.none Try.prog) Try.f89 2=.mk d89 (mkTT 12) [(P 0),(P 1)] [.many (P 4) 3]:=by kernel_rfl
theorem dg89 : Try.prog.funcs[89]?=some Try.f89:=Try.func89
theorem do89 : okF Try.prog Try.f89=true:=by kernel_rfl
def d96 : FCode:=(.seq (.run (.go (.move (.con (.slice none 0 0))) (P 2)::
[])) (.seq (.seq (.run (.go (.move (tm 0)) (P 3)::
.go (.bin .eql 41 (tm 3) (.con (.slice none 0 0))) (P 4)::
[])) (.cond (tm 4) (.seq (.run (.go (.move (.con (.slice none 0 0))) (P 2)::
[])) .ret) .skip)) (.seq (.run (.go (.buildSlice 3 0 [] []) (P 5)::
.go (.move (tm 0)) (P 6)::
.go (.append 3 1 8 (tm 5) (tm 6)) (P 7)::
.go (.move (tm 7)) (P 2)::
[])) .ret)))
theorem de96 : @compF Try.prog (Gl.none Try.prog) Try.f96 1=.mk d96 (mkTT 8) [(P 0)] [.tmp (P 2)]:=by kernel_rfl
theorem dg96 : Try.prog.funcs[96]?=some Try.f96:=Try.func96
theorem do96 : okF Try.prog Try.f96=true:=by kernel_rfl
def d91 : FCode:=(.seq (.run (.go (.box 94 (tm 0)) (P 4)::
.go (.box 94 (tm 3)) (P 7)::
.go (.alloc 94 [(.int .i64 (.ofNat 0)),(.int .i64 (.ofNat 0)),(.slice none 0 0)]) (P 8)::
[])) (.seq (.seq (.run (.go (.move (tm 2)) (P 10)::
.go (.fieldAddr 1 (tm 7)) (P 11)::
.go (.load1 (tm 11)) (P 12)::
.go (.bin .add 3 (tm 10) (tm 12)) (P 13)::
.go (.move (tm 13)) (P 9)::
[])) (.seq (.run (.go (.fieldAddr 0 (tm 4)) (P 14)::
.go (.load1 (tm 14)) (P 15)::
.go (.bin .eql 3 (tm 15) (.con (.int .i64 (.ofNat 0)))) (P 16)::
.go (.move (tm 16)) (P 17)::
.gd (P 17) false (.move (tm 9)) (P 18)::
.gd (P 17) false (.fieldAddr 1 (tm 4)) (P 19)::
.gd (P 17) false (.load1 (tm 19)) (P 20)::
.gd (P 17) false (.bin .lss 3 (tm 18) (tm 20)) (P 21)::
.go (.pick (tm 17) (.con (.bool true)) (tm 21)) (P 22)::
[])) (.cond (tm 22) (.seq (.run (.go (.move (tm 9)) (P 23)::
.go (.fieldAddr 1 (tm 4)) (P 24)::
.un (.store 1 (tm 24) (tm 23))::
[])) (.run (.go (.move (tm 1)) (P 25)::
.go (.buildSlice 41 1 [(.slice none 0 0)] [(0,1,(tm 25))]) (P 26)::
.go (.fieldAddr 2 (tm 7)) (P 27)::
.go (.load1 (tm 27)) (P 28)::
.go (.append 41 1 24 (tm 26) (tm 28)) (P 29)::
.go (.fieldAddr 2 (tm 4)) (P 30)::
.un (.store 1 (tm 30) (tm 29))::
[]))) .skip))) (.seq (.run (.go (.fieldAddr 0 (tm 4)) (P 31)::
.go (.load1 (tm 31)) (P 32)::
.go (.fieldAddr 0 (tm 7)) (P 33)::
.go (.load1 (tm 33)) (P 34)::
.go (.bin .add 3 (tm 32) (tm 34)) (P 35)::
.go (.fieldAddr 0 (tm 4)) (P 36)::
.un (.store 1 (tm 36) (tm 35))::
[])) (.seq (.run (.go (.loadN 3 (tm 4)) (P 37)::
.un (.store 3 (tm 8) (tm 37))::
[])) .ret))))
theorem de91 : @compF Try.prog (Gl.none Try.prog) Try.f91 4=.mk d91 (mkTT 38) [(P 0),(P 1),(P 2),(P 3)] [.many (P 8) 3]:=by kernel_rfl
theorem dg91 : Try.prog.funcs[91]?=some Try.f91:=Try.func91
theorem do91 : okF Try.prog Try.f91=true:=by kernel_rfl
def snd (T : Tb) : Prop:=thin T/\flt T=0
instance (T : Tb) : Decidable (snd T):=by unfold snd;infer_instance
theorem f89_ok {H : Heap} {c f s : Value} {T : Tb} {d g : Nat->Int} {r : Int} (h : BV H c f s T) (hb : 2<=T.b/\T.b<=100) (hd : ∀ i,0<=d i/\d i<=200000) (hg : ∀ i,0<=g i/\g i<=200000) : Gives Try.prog 89 [.agg ⟨bl T.b c f s d⟩,.agg ⟨I r::Q4 g⟩] H (.agg ⟨[I (if als T.b g d then 1 else 0),I 0,.slice none 0 0]⟩):=by
 obtain⟨pc,nc,cc,ec⟩:=h.t.c.isS
 obtain⟨pf,nf,cf,ef⟩:=h.t.f.isS
 obtain⟨ps,ns,cs,es⟩:=h.s.isS
 have vv : vEq 3 (.agg ⟨bl T.b c f s d⟩) (.agg ⟨bl T.b c f s d⟩)=true:=by rw[ec,ef,es];simp[vEq,vEq0,all2]
 refine F.entryL rfl dg89 do89 de89 rfl (by kernel_rfl) ?_
 simp only[sets]
 refine V.re [(0,.agg ⟨bl T.b c f s d⟩),(1,.agg ⟨I r::Q4 g⟩)] (N:=12) zE zY ?_
 intro t hF hA
 simp only[Kn,and_true] at hA
 refine zS ?_
 refine V.l0 ?_
 refine V.heap (λX=>Grow H X/\Bx X H.next (bl T.b c f s d) 89/\Bx X (H.next+1) (I r::Q4 g) 127/\Bx X (H.next+2) [I 0,I 0,.slice none 0 0] 94) ⟨?_,?_,?_,?_⟩ ?_
 ·exact zW
 ·exact zB
 ·exact zB
 ·exact zB
 rintro H1 ⟨g1,b1,c1,d1⟩
 refine zS ?_
 refine V.run ?_
 have zf:=aI b1.2<|c1.2
 refine VI.sz 3 ?_
 simp only[ds]
 refine VI.callA rfl (f77_ok (h.grow g1) hb hd hg) zA (λH2 g2=>?_)
 have d2:=d1.grow g2
 have g12:=g1.trans g2
 refine VI.l0 ?_
 refine zS ?_
 refine V.condP zP (λc3=>?_) (λc3=>?_)
 ·refine zS ?_
  have zf:=d2.2
  refine V.lz ?_
  refine zS ?_
  refine V.ret (V.rets rfl (Lv.retG (by simp +contextual (disch:=first|omega|simp only[nx];omega) only[D1,cells_alloc_at,cells_alloc_ne,cells_set_at,cells_set_ne,yres,yres1,yresL,qA,qB,qC,D5,hF,hA,↓reduceIte,qD,qE];rfl) ?_ ?_))
  ·exact g12.set (by omega) _
  ·rw[if_neg c3]
 ·refine zS ?_
  have zf:=d2.2
  refine V.lz ?_
  refine zS ?_
  refine V.ret (V.rets rfl (Lv.retG (by simp +contextual (disch:=first|omega|simp only[nx];omega) only[D1,cells_alloc_at,cells_alloc_ne,cells_set_at,cells_set_ne,yres,yres1,yresL,qA,qB,qC,D5,hF,hA,↓reduceIte,qD,qE];rfl) ?_ ?_))
  ·exact g12.set (by omega) _
  ·rw[if_pos (Decidable.not_not.1 c3)]
theorem nil41 (a : Option Addr) (n c : Nat) : xbinOp Try.prog .eql 41 (.slice a n c) (.slice none 0 0)=some (.bool a.isNone):=by
 have h1 : xbin Try.prog .eql 41 (.slice a n c) (.slice none 0 0)=none:=rfl
 have h2 : xbinStr .eql (.slice a n c) (.slice none 0 0)=none:=rfl
 unfold xbinOp
 rw[h1,h2]
 simp only[xeqNil,Try.underlying41]
 simp
theorem f96_ok {H : Heap} {x : Value} {l : List Int} (h : Sl H x (Li l)) (hn : l.length<=1048576) : F Try.prog 96 ⟨[x]⟩ H (λv X=>Grow H X/\Ow H X 3 v (Li l)):=by
 obtain⟨a,n,c,rfl⟩:=h.isS
 have e41:=nil41 a n c
 have h1 : Grow H (H.alloc (.cells ⟨[]⟩ 3 true)):=(Grow.refl H).alloc _
 have o1 : Ow H (H.alloc (.cells ⟨[]⟩ 3 true)) 3 (.slice (some ⟨H.next,0,none⟩) 0 0) []:=.inr ⟨H.next,Nat.le_refl _,Nat.lt_succ_self _,rfl,cells_alloc _ _ _ _⟩
 obtain⟨w,H',k1,k2,k3,k4⟩:=Ow.append (bytes:=8) h1 o1 (h.grow h1) (Li_ok l) (by simp[Li_len];omega) (by simp[Li_len];omega)
 rw[List.nil_append] at k2
 refine F.entryL rfl dg96 do96 de96 rfl (by kernel_rfl) ?_
 simp only[sets]
 refine V.re [(0,.slice a n c)] (N:=8) zE zY ?_
 intro t hF hA
 simp only[Kn,and_true] at hA
 refine zS ?_
 refine V.l0 ?_
 refine zS ?_
 have zf:=@e41
 refine V.lz ?_
 refine zS ?_
 cases a with
 | none=>
  have hl : l=[]:=by
   have hh : ∀ {r v},Sl H v r->v=.slice none n c->r=[]:=by
    intro r v h e
    cases h with
    | nil=>rfl
    | spot=>rfl
    | «at»=>cases e
   have hh:=hh h rfl
   cases l with
   | nil=>rfl
   | cons=>simp[Li] at hh
  subst hl
  refine V.condT zA ?_
  refine zS ?_
  refine V.l0 ?_
  refine zS ?_
  refine V.ret (V.rets rfl (Lv.retF (by simp +contextual (disch:=first|omega|simp only[nx];omega) only[D1,cells_alloc_at,cells_alloc_ne,cells_set_at,cells_set_ne,yres,yres1,yresL,qA,qB,qC,D5,hF,hA,↓reduceIte,qD,qE];rfl) ?_))
  exact⟨.refl _,.inl ⟨rfl,rfl⟩⟩
 | some a=>
  refine V.condF zA ?_
  refine zS ?_
  have zf:=@k1
  refine V.lz ?_
  refine zS ?_
  refine V.ret (V.rets rfl (Lv.retF (by simp +contextual (disch:=first|omega|simp only[nx];omega) only[D1,cells_alloc_at,cells_alloc_ne,cells_set_at,cells_set_ne,yres,yres1,yresL,qA,qB,qC,D5,hF,hA,↓reduceIte,qD,qE];rfl) ?_))
  exact⟨k3,k2⟩
theorem ow_set {G Z : Heap} {e : TypeId} {v : Value} {l : List Value} (h : Ow G Z e v l) {i : Nat} (hi : i<G.next) (o : AO) : Ow G (Z.set i o) e v l:=by
 rcases h with h|⟨j,j1,j2,j3,j4⟩
 ·exact .inl h
 ·exact .inr ⟨j,j1,j2,j3,(cells_set_ne _ _ (by omega)).trans j4⟩
theorem ow_low {G H Z : Heap} {e : TypeId} {v : Value} {l : List Value} (h : Ow G Z e v l) (g : H.next<=G.next) : Ow H Z e v l:=by
 rcases h with h|⟨j,j1,j2,j3,j4⟩
 ·exact .inl h
 ·exact .inr ⟨j,by omega,j2,j3,j4⟩
theorem f91_ok {H : Heap} {x bv bu : Value} {a c1 far w c2 : Int} {vs : List Value} (hb : Sl H bu vs) (hok : vs.all ok1=true) (hx : ∃ p n k,x=.slice p n k) (hv : ∃ p n k,bv=.slice p n k) (hn : vs.length<=1000) (b1 : 0<=a/\a<=1000000000000) (b2 : 0<=w/\w<=1000000000000) (b3 : 0<=far/\far<=1000000000000) (b4 : 0<=c2/\c2<=1000000000000) : F Try.prog 91 ⟨[.agg ⟨[I a,I c1,bv]⟩,x,I far,.agg ⟨[I w,I c2,bu]⟩]⟩ H (λv X=>Grow H X/\∃ u,v=.agg ⟨[I (a+w),I (if a=0\/far+c2<c1 then far+c2 else c1),u]⟩/\((a=0\/far+c2<c1)->Ow H X 41 u (x::vs))/\(¬ (a=0\/far+c2<c1)->u=bv)):=by
 obtain⟨p0,n0,k0,rfl⟩:=hx
 obtain⟨p1,n1,k1,rfl⟩:=hv
 obtain⟨p2,n2,k2,rfl⟩:=hb.isS
 refine F.entryL rfl dg91 do91 de91 rfl (by kernel_rfl) ?_
 simp only[sets]
 refine V.re [(0,.agg ⟨[I a,I c1,.slice p1 n1 k1]⟩),(1,.slice p0 n0 k0),(2,I far),(3,.agg ⟨[I w,I c2,.slice p2 n2 k2]⟩)] (N:=38) zE zY ?_
 intro t hF hA
 simp only[Kn,and_true] at hA
 refine zS ?_
 refine V.l0 ?_
 refine V.heap (λX=>Grow H X/\Bx X H.next [I a,I c1,.slice p1 n1 k1] 94/\Bx X (H.next+1) [I w,I c2,.slice p2 n2 k2] 94/\Bx X (H.next+2) [I 0,I 0,.slice none 0 0] 94) ⟨?_,?_,?_,?_⟩ ?_
 ·exact zW
 ·exact zB
 ·exact zB
 ·exact zB
 rintro H1 ⟨g1,e1,e2,e3⟩
 refine zS ?_
 have zf:=e2.2
 refine V.lz ?_
 refine zS ?_
 have zf:=e1.2
 refine V.lz ?_
 refine zS ?_
 refine V.condP zP (λhc=>?_) (λhc=>?_)
 ·refine zS ?_
  have zf:=e1.2
  refine V.lz ?_
  refine V.heap (λX=>Grow H X/\Bx X H.next [I a,I (far+c2),.slice p1 n1 k1] 94/\Bx X (H.next+1) [I w,I c2,.slice p2 n2 k2] 94/\Bx X (H.next+2) [I 0,I 0,.slice none 0 0] 94) ⟨?_,?_,?_,?_⟩ ?_
  ·exact g1.set (Nat.le_refl _) _
  ·exact⟨e1.1,cells_set _ _ _ _ _⟩
  ·exact⟨e2.1,(cells_set_ne _ _ (by omega)).trans e2.2⟩
  ·exact⟨e3.1,(cells_set_ne _ _ (by omega)).trans e3.2⟩
  rintro X ⟨gX,x1,x2,x3⟩
  have o1 : Ow X (X.alloc (.cells ⟨[.slice p0 n0 k0]⟩ 41 true)) 41 (.slice (some ⟨X.next,0,none⟩) 1 1) [.slice p0 n0 k0]:=.inr ⟨X.next,Nat.le_refl _,Nat.lt_succ_self _,rfl,cells_alloc _ _ _ _⟩
  obtain⟨u,Y,q1,q2,q3,q4⟩:=Ow.append (bytes:=24) ((Grow.refl X).alloc _) o1 (hb.grow (gX.alloc (.cells ⟨[.slice p0 n0 k0]⟩ 41 true))) hok (by simp;omega) (by simp;omega)
  obtain⟨p3,n3,k3,rfl⟩:=q2.sl.isS
  have hk : ∀ j,j<X.next->Y.cellsAt j=X.cellsAt j:=λj hj=>by
   unfold Heap.cellsAt
   rw[q4.2 j (by simp only[Heap.next_alloc];omega) (λo n c e=>by cases e;omega),Heap.get_alloc,if_neg (by omega)]
  have y1:=(hk _ x1.1).trans x1.2
  have y2:=(hk _ x2.1).trans x2.2
  have y3:=(hk _ x3.1).trans x3.2
  refine zS ?_
  have xa:=(x2.grow ((Grow.refl X).alloc (.cells ⟨[.slice p0 n0 k0]⟩ 41 true))).2
  have zf:=aI @xa<|aI @q1<|@y1
  refine V.lz ?_
  refine V.heap (λZ=>Grow H Z/\Bx Z H.next [I a,I (far+c2),.slice p3 n3 k3] 94/\Bx Z (H.next+1) [I w,I c2,.slice p2 n2 k2] 94/\Bx Z (H.next+2) [I 0,I 0,.slice none 0 0] 94/\Ow X Z 41 (.slice p3 n3 k3) (.slice p0 n0 k0::vs)) ⟨?_,?_,?_,?_,?_⟩ ?_
  ·exact (gX.trans q3).set (Nat.le_refl _) _
  ·exact⟨Nat.lt_of_lt_of_le x1.1 q3.1,cells_set _ _ _ _ _⟩
  ·exact⟨Nat.lt_of_lt_of_le x2.1 q3.1,(cells_set_ne _ _ (by omega)).trans y2⟩
  ·exact⟨Nat.lt_of_lt_of_le x3.1 q3.1,(cells_set_ne _ _ (by omega)).trans y3⟩
  ·exact ow_set q2 x1.1 _
  rintro Z ⟨gZ,z1,z2,z3,zo⟩
  refine zS ?_
  have zf:=aI z1.2<|z2.2
  refine V.lz ?_
  refine V.heap (λW=>Grow H W/\Bx W H.next [I (a+w),I (far+c2),.slice p3 n3 k3] 94/\Bx W (H.next+2) [I 0,I 0,.slice none 0 0] 94/\Ow X W 41 (.slice p3 n3 k3) (.slice p0 n0 k0::vs)) ⟨?_,?_,?_,?_⟩ ?_
  ·exact gZ.set (Nat.le_refl _) _
  ·exact⟨z1.1,cells_set _ _ _ _ _⟩
  ·exact⟨z3.1,(cells_set_ne _ _ (by omega)).trans z3.2⟩
  ·exact ow_set zo x1.1 _
  rintro W ⟨gW,w1,w3,wo⟩
  refine zS ?_
  have zf:=aI w1.2<|w3.2
  refine V.lz ?_
  refine zS ?_
  refine V.ret (V.rets rfl (Lv.retF (by simp +contextual (disch:=first|omega|simp only[nx];omega) only[D1,cells_alloc_at,cells_alloc_ne,cells_set_at,cells_set_ne,yres,yres1,yresL,qA,qB,qC,D5,hF,hA,↓reduceIte,qD,qE];rfl) ?_))
  refine⟨gW.set (by omega) _,.slice p3 n3 k3,?_,λ_=>ow_low (ow_set wo x3.1 _) gX.1,λhh=>absurd hc hh⟩
  rw[if_pos hc]
 ·refine zS ?_
  have zf:=aI e1.2<|e2.2
  refine V.lz ?_
  refine V.heap (λW=>Grow H W/\Bx W H.next [I (a+w),I c1,.slice p1 n1 k1] 94/\Bx W (H.next+2) [I 0,I 0,.slice none 0 0] 94) ⟨?_,?_,?_⟩ ?_
  ·exact g1.set (Nat.le_refl _) _
  ·exact⟨e1.1,cells_set _ _ _ _ _⟩
  ·exact⟨e3.1,(cells_set_ne _ _ (by omega)).trans e3.2⟩
  rintro W ⟨gW,w1,w3⟩
  refine zS ?_
  have zf:=aI w1.2<|w3.2
  refine V.lz ?_
  refine zS ?_
  refine V.ret (V.rets rfl (Lv.retF (by simp +contextual (disch:=first|omega|simp only[nx];omega) only[D1,cells_alloc_at,cells_alloc_ne,cells_set_at,cells_set_ne,yres,yres1,yresL,qA,qB,qC,D5,hF,hA,↓reduceIte,qD,qE];rfl) ?_))
  refine⟨gW.set (by omega) _,.slice p1 n1 k1,?_,λhh=>absurd hh hc,λ_=>rfl⟩
  rw[if_neg hc]
end Go.Xe.TRX
end
