/- The statement RoundChanges: the function. Conditions: none. -/
import Derived.Test.YthgjooibimphiaaTST
-- MOD TR
namespace Go.Xe.TRX
open Go Go.Xe Go.Proofs
open Nat renaming reduceLeDiff → qA, reduceSub → qB, reduceAdd → qC, reduceEqDiff → qD, reduceLT → qE
open Int renaming reduceNegSucc → qF, reduceEq → qG
open Go.Xe.V renaming seq → sA, block → sB, scope → sC, skip → sD, close → sE
open Go.Xe renaming pth → P
open Go.Xe.Rnd
set_option maxRecDepth 100000
set_option maxHeartbeats 3200000
set_option linter.unusedSimpArgs false
noncomputable def d16 : FCode:=(.seq (.run (.go (.move (.con (.bool false))) (P 2)::
[])) (.seq (.seq (.run (.go (.move (.con (.int .i64 (.ofNat 0)))) (P 3)::
[])) (.block 0 (.loop (.seq (.seq (.run (.go (.move (tm 3)) (P 4)::
.go (.move (tm 0)) (P 5)::
.go (.len 0 (tm 5)) (P 6)::
.go (.bin .lss 3 (tm 4) (tm 6)) (P 7)::
.go (.move (tm 7)) (P 8)::
.gd (P 8) true (.move (tm 3)) (P 9)::
.gd (P 8) true (.bin .lss 3 (tm 9) (.con (.int .i64 (.ofNat 9)))) (P 10)::
.go (.pick (tm 8) (tm 10) (.con (.bool false))) (P 11)::
[])) (.cond (tm 11) .skip (.exit 0))) (.seq (.block 1 (.seq (.run (.go (.move (tm 0)) (P 14)::
.go (.move (tm 3)) (P 15)::
.go (.indexAddr none 1 (tm 14) (tm 15)) (P 16)::
.go (.load1 (tm 16)) (P 17)::
.go (.len 0 (tm 17)) (P 18)::
.go (.bin .gtr 3 (tm 18) (.con (.int .i64 (.ofNat 7)))) (P 19)::
[])) (.cond (tm 19) (.seq (.run (.go (.move (.con (.bool false))) (P 2)::
[])) .ret) .skip))) (.run (.go (.move (tm 3)) (P 12)::
.go (.bin .add 3 (tm 12) (.con (.int .i64 (.ofNat 1)))) (P 13)::
.go (.move (tm 13)) (P 3)::
[]))))))) (.seq (.run (.go (.move (tm 0)) (P 20)::
.go (.len 0 (tm 20)) (P 21)::
.go (.bin .leq 3 (tm 21) (.con (.int .i64 (.ofNat 8)))) (P 22)::
.go (.move (tm 22)) (P 2)::
[])) .ret)))
theorem de16 : @compF Try.prog (Gl.none Try.prog) Try.f16 1=.mk d16 (mkTT 23) [(P 0)] [.tmp (P 2)]:=by kernel_rfl
theorem dg16 : Try.prog.funcs[16]?=some Try.f16:=Try.func16
theorem do16 : okF Try.prog Try.f16=true:=by kernel_rfl
noncomputable def d15 : FCode:=(.seq (.run (.go (.box 25 (tm 0)) (P 1)::
.go (.move (.con (.bool false))) (P 2)::
[])) (.seq (.run (.go (.fieldAddr 1 (tm 1)) (P 3)::
.go (.load1 (tm 3)) (P 4)::
.go (.call (.con (.func (.func 16) ⟨[]⟩ ⟨[]⟩)) [tm 4]) (P 5)::
.go (.move (tm 5)) (P 6)::
.gd (P 6) true (.fieldAddr 2 (tm 1)) (P 7)::
.gd (P 6) true (.load1 (tm 7)) (P 8)::
.gd (P 6) true (.len 0 (tm 8)) (P 9)::
.gd (P 6) true (.bin .leq 3 (tm 9) (.con (.int .i64 (.ofNat 13)))) (P 10)::
.go (.pick (tm 6) (tm 10) (.con (.bool false))) (P 11)::
.go (.move (tm 11)) (P 2)::
[])) .ret))
theorem de15 : @compF Try.prog (Gl.none Try.prog) Try.f15 1=.mk d15 (mkTT 12) [(P 0)] [.tmp (P 2)]:=by kernel_rfl
theorem dg15 : Try.prog.funcs[15]?=some Try.f15:=Try.func15
theorem do15 : okF Try.prog Try.f15=true:=by kernel_rfl
noncomputable def d3 : FCode:=(.seq (.run (.go (.box 25 (tm 0)) (P 3)::
.go (.move (.con (.bool false))) (P 6)::
[])) (.seq (.seq (.run (.go (.loadN 3 (tm 3)) (P 15)::
.go (.call (.con (.func (.func 15) ⟨[]⟩ ⟨[]⟩)) [tm 15]) (P 16)::
.go (.un .not (tm 16)) (P 17)::
.go (.move (tm 17)) (P 18)::
.gd (P 18) false (.move (tm 1)) (P 19)::
.gd (P 18) false (.call (.con (.func (.func 16) ⟨[]⟩ ⟨[]⟩)) [tm 19]) (P 20)::
.gd (P 18) false (.un .not (tm 20)) (P 21)::
.go (.pick (tm 18) (.con (.bool true)) (tm 21)) (P 22)::
[])) (.cond (tm 22) (.seq (.run (.go (.call (.con (.func (.func 17) ⟨[]⟩ ⟨[]⟩)) []) (P 23)::
.go (.move (tm 23)) (P 6)::
[])) .ret) .skip)) (.seq (.run (.go (.loadN 3 (tm 3)) (P 24)::
.go (.call (.con (.func (.func 19) ⟨[]⟩ ⟨[]⟩)) [tm 24]) (P 25)::
.go (.call (.con (.func (.func 18) ⟨[]⟩ ⟨[]⟩)) [tm 25]) (P 26)::
.go (.move (tm 26)) (P 7)::
[])) (.seq (.run (.go (.loadN 3 (tm 3)) (P 28)::
.go (.call (.con (.func (.func 19) ⟨[]⟩ ⟨[]⟩)) [tm 28]) (P 29)::
.go (.move (tm 1)) (P 30)::
.go (.call (.con (.func (.func 21) ⟨[]⟩ ⟨[]⟩)) [tm 30]) (P 31)::
.go (.call (.con (.func (.func 20) ⟨[]⟩ ⟨[]⟩)) [(tm 29),(tm 31)]) (P 32)::
.go (.move (tm 32)) (P 27)::
.go (.extract (tm 27) 0) (P 33)::
.go (.extract (tm 27) 1) (P 34)::
.go (.move (tm 33)) (P 8)::
.go (.move (tm 34)) (P 9)::
[])) (.seq (.run (.go (.loadN 3 (tm 3)) (P 35)::
.go (.call (.con (.func (.func 19) ⟨[]⟩ ⟨[]⟩)) [tm 35]) (P 36)::
.go (.move (tm 1)) (P 37)::
.go (.call (.con (.func (.func 21) ⟨[]⟩ ⟨[]⟩)) [tm 37]) (P 38)::
.go (.move (tm 2)) (P 39)::
.go (.call (.con (.func (.func 22) ⟨[]⟩ ⟨[]⟩)) [(tm 36),(tm 38),(tm 39)]) (P 40)::
.go (.move (tm 40)) (P 10)::
[])) (.seq (.run (.go (.loadN 3 (tm 3)) (P 41)::
.go (.call (.con (.func (.func 23) ⟨[]⟩ ⟨[]⟩)) [tm 41]) (P 42)::
.go (.move (tm 42)) (P 11)::
[])) (.seq (.seq (.run (.go (.move (tm 7)) (P 43)::
.go (.move (tm 11)) (P 44)::
.go (.bin .neq 29 (tm 43) (tm 44)) (P 45)::
[])) (.cond (tm 45) (.seq (.run (.go (.move (.con (.bool false))) (P 6)::
[])) .ret) .skip)) (.seq (.seq (.run (.go (.move (tm 11)) (P 46)::
.go (.bin .eql 29 (tm 46) (.con (.int .i64 (.ofNat 0)))) (P 47)::
.go (.move (tm 47)) (P 48)::
.gd (P 48) true (.loadN 3 (tm 3)) (P 49)::
.gd (P 48) true (.move (tm 1)) (P 50)::
.gd (P 48) true (.call (.con (.func (.func 24) ⟨[]⟩ ⟨[]⟩)) [(tm 49),(tm 50)]) (P 51)::
.gd (P 48) true (.un .not (tm 51)) (P 52)::
.go (.pick (tm 48) (tm 52) (.con (.bool false))) (P 53)::
[])) (.cond (tm 53) (.run (.go (.move (.con (.int .i64 (.ofNat 2)))) (P 11)::
[])) .skip)) (.seq (.seq (.run (.go (.move (.con (.int .i64 (.ofNat 0)))) (P 12)::
[])) (.block 0 (.loop (.seq (.seq (.run (.go (.move (tm 12)) (P 54)::
.go (.move (tm 1)) (P 55)::
.go (.len 0 (tm 55)) (P 56)::
.go (.bin .lss 3 (tm 54) (tm 56)) (P 57)::
.go (.move (tm 57)) (P 58)::
.gd (P 58) true (.move (tm 11)) (P 59)::
.gd (P 58) true (.bin .eql 29 (tm 59) (.con (.int .i64 (.ofNat 0)))) (P 60)::
.go (.pick (tm 58) (tm 60) (.con (.bool false))) (P 61)::
[])) (.cond (tm 61) .skip (.exit 0))) (.seq (.block 1 (.seq (.run (.go (.move (.con (.int .i64 (.ofNat 0)))) (P 13)::
[])) (.block 2 (.loop (.seq (.seq (.run (.go (.move (tm 13)) (P 64)::
.go (.move (tm 1)) (P 65)::
.go (.move (tm 12)) (P 66)::
.go (.indexAddr none 1 (tm 65) (tm 66)) (P 67)::
.go (.load1 (tm 67)) (P 68)::
.go (.len 0 (tm 68)) (P 69)::
.go (.bin .lss 3 (tm 64) (tm 69)) (P 70)::
[])) (.cond (tm 70) .skip (.exit 2))) (.seq (.block 3 (.seq (.run (.go (.move (tm 1)) (P 73)::
.go (.move (tm 12)) (P 74)::
.go (.indexAddr none 1 (tm 73) (tm 74)) (P 75)::
.go (.load1 (tm 75)) (P 76)::
.go (.move (tm 13)) (P 77)::
.go (.indexAddr none 1 (tm 76) (tm 77)) (P 78)::
.go (.load1 (tm 78)) (P 79)::
.go (.call (.con (.func (.func 25) ⟨[]⟩ ⟨[]⟩)) [(tm 79),(.con (.int .i64 (.ofNat 0))),(.con (.int .i64 (.ofNat 10100)))]) (P 80)::
.go (.un .not (tm 80)) (P 81)::
[])) (.cond (tm 81) (.run (.go (.move (.con (.int .i64 (.ofNat 2)))) (P 11)::
[])) .skip))) (.run (.go (.move (tm 13)) (P 71)::
.go (.bin .add 3 (tm 71) (.con (.int .i64 (.ofNat 1)))) (P 72)::
.go (.move (tm 72)) (P 13)::
[])))))))) (.run (.go (.move (tm 12)) (P 62)::
.go (.bin .add 3 (tm 62) (.con (.int .i64 (.ofNat 1)))) (P 63)::
.go (.move (tm 63)) (P 12)::
[]))))))) (.seq (.seq (.run (.go (.move (tm 11)) (P 82)::
.go (.bin .neq 29 (tm 82) (.con (.int .i64 (.ofNat 0)))) (P 83)::
[])) (.cond (tm 83) (.seq (.run (.go (.move (tm 9)) (P 84)::
.go (.move (tm 11)) (P 85)::
.go (.bin .eql 29 (tm 84) (tm 85)) (P 86)::
.go (.move (tm 86)) (P 87)::
.gd (P 87) true (.move (tm 8)) (P 88)::
.gd (P 87) true (.bin .eql 3 (tm 88) (.con (.int .i64 (.ofNat 0)))) (P 89)::
.go (.pick (tm 87) (tm 89) (.con (.bool false))) (P 90)::
.go (.move (tm 90)) (P 91)::
.gd (P 91) true (.move (tm 10)) (P 92)::
.gd (P 91) true (.un .not (tm 92)) (P 93)::
.go (.pick (tm 91) (tm 93) (.con (.bool false))) (P 94)::
.go (.move (tm 94)) (P 95)::
.gd (P 95) true (.call (.con (.func (.func 17) ⟨[]⟩ ⟨[]⟩)) []) (P 96)::
.go (.pick (tm 95) (tm 96) (.con (.bool false))) (P 97)::
.go (.move (tm 97)) (P 6)::
[])) .ret) .skip)) (.seq (.run (.go (.loadN 3 (tm 3)) (P 98)::
.go (.move (tm 1)) (P 99)::
.go (.call (.con (.func (.func 26) ⟨[]⟩ ⟨[]⟩)) [(tm 98),(tm 99)]) (P 100)::
.go (.move (tm 100)) (P 14)::
[])) (.seq (.run (.go (.move (tm 9)) (P 101)::
.go (.bin .eql 29 (tm 101) (.con (.int .i64 (.ofNat 0)))) (P 102)::
.go (.move (tm 102)) (P 103)::
.gd (P 103) true (.move (tm 8)) (P 104)::
.gd (P 103) true (.move (tm 14)) (P 105)::
.gd (P 103) true (.bin .eql 3 (tm 104) (tm 105)) (P 106)::
.go (.pick (tm 103) (tm 106) (.con (.bool false))) (P 107)::
.go (.move (tm 107)) (P 108)::
.gd (P 108) true (.move (tm 10)) (P 109)::
.gd (P 108) true (.loadN 3 (tm 3)) (P 110)::
.gd (P 108) true (.move (tm 1)) (P 111)::
.gd (P 108) true (.call (.con (.func (.func 27) ⟨[]⟩ ⟨[]⟩)) [(tm 110),(tm 111)]) (P 112)::
.gd (P 108) true (.move (tm 112)) (P 113)::
.gd (P 113) true (.move (tm 14)) (P 114)::
.gd (P 113) true (.move (tm 2)) (P 115)::
.gd (P 113) true (.bin .leq 3 (tm 114) (tm 115)) (P 116)::
.gd (P 108) true (.pick (tm 113) (tm 116) (.con (.bool false))) (P 117)::
.gd (P 108) true (.bin .eql 4 (tm 109) (tm 117)) (P 118)::
.go (.pick (tm 108) (tm 118) (.con (.bool false))) (P 119)::
.go (.move (tm 119)) (P 120)::
.gd (P 120) true (.call (.con (.func (.func 17) ⟨[]⟩ ⟨[]⟩)) []) (P 121)::
.go (.pick (tm 120) (tm 121) (.con (.bool false))) (P 122)::
.go (.move (tm 122)) (P 6)::
[])) .ret))))))))))))
theorem de3 : @compF Try.prog (Gl.none Try.prog) Try.f3 3=.mk d3 (mkTT 123) [(P 0),(P 1),(P 2)] [.tmp (P 6)]:=by kernel_rfl
theorem dg3 : Try.prog.funcs[3]?=some Try.f3:=Try.func3
theorem do3 : okF Try.prog Try.f3=true:=by kernel_rfl
def few (L : List (List Int)) : Prop:=(∀ row∈L.take 9,row.length≤7)∧L.length≤8
instance (L : List (List Int)) : Decidable (few L):=by unfold few;infer_instance
theorem few_all {L : List (List Int)} (h : few L) : ∀ row∈L,row.length≤7:=by
 obtain⟨h1,h2⟩:=h
 rwa [List.take_of_length_le (by omega)] at h1
theorem f16_ok {H : Heap} {y : Value} {L : List (List Int)} (hy : Nest RI H y L) : Gives Try.prog 16 [y] H (.bool (decide (few L))):=by
 have hln : ∀ X,ylen 0 X y=some (I L.length):=hy.len
 refine F.entryL rfl dg16 do16 de16 rfl (by kernel_rfl) ?_
 simp only[sets]
 refine V.re [(0,y)] (N:=23) zE zY ?_
 intro t hF hA
 simp only[Kn,and_true] at hA
 refine zS ?_
 refine V.l0 ?_
 refine zS ?_
 refine V.l0 ?_
 refine zS ?_
 refine V.loop (fun z t m X=>∃ (k : Nat),k≤L.length∧k≤9∧z=9-k∧m=[]∧X=H∧(∀ row∈L.take k,row.length≤7)∧Full 23 t∧Kn [(0,y),(3,I k)] t) 9 ?_ ?_
 ·exact⟨0,by omega,by omega,by omega,rfl,rfl,by simp,zF,zK⟩
 clear hF hA
 rintro z t m X ⟨k,hk,hk9,rfl,rfl,hX,hall,hF,hA⟩
 obtain rfl : H=X:=hX.symm
 simp only[Kn,and_true] at hA
 refine zS ?_
 have zf:=@hln
 refine V.lz ?_
 refine zS ?_
 refine V.condP zP (fun hlt=>?_) (fun hlt=>?_)
 ·have hlt' : k<L.length∧k<9:=by omega
  obtain⟨p,x,hp,hx⟩:=hy.at ri hlt'.1
  obtain⟨hx1,hx2⟩:=hx H (.refl _)
  have hpk:=hp .i64
  have hxl:=hx2.len
  refine zS ?_
  have zf:=And.intro @hpk<|And.intro @hx1<|@hxl
  refine V.lz ?_
  refine zS ?_
  refine V.condP zP (fun h7=>?_) (fun h7=>?_)
  ·refine zS ?_
   refine V.l0 ?_
   refine zS ?_
   refine V.ret (V.rets rfl (Or.inr ⟨by simp,V.rets rfl (Lv.retG (by simp +contextual (disch:=first|omega|simp only[nx];omega) only[D1,cells_alloc_at,cells_alloc_ne,cells_set_at,cells_set_ne,yres,yres1,yresL,qA,qB,qC,D5,hF,hA,↓reduceIte,qD,qE];rfl) ?_ ?_)⟩))
   ·exact .refl _
   ·refine congrArg _ (decide_eq_false (fun hh=>?_)).symm
    have:=hh.1 L[k] (List.mem_take_iff_getElem.2 ⟨k,by omega,rfl⟩)
    omega
  ·refine zS ?_
   refine V.l0 ?_
   refine V.nil (Or.inl ⟨rfl,9-(k+1),by omega,?_⟩)
   refine⟨k+1,by omega,by omega,rfl,rfl,rfl,?_,zF,zK⟩
   intro row hr
   rw[tk1 hlt'.1] at hr
   rcases List.mem_append.1 hr with hr|hr
   ·exact hall row hr
   ·rw[List.mem_singleton.1 hr];omega
 ·refine V.exit ?_
  refine zX ?_
  refine V.nil (Or.inr ⟨by simp,?_⟩)
  refine zX ?_
  have hDe : L.take 9=L.take k:=by
   rcases (show k=9∨k=L.length by omega) with e|e
   ·rw[e]
   ·rw[e,List.take_length,List.take_of_length_le (by omega)]
  rw[← hDe] at hall
  refine zS ?_
  have zf:=@hln
  refine V.lz ?_
  refine zS ?_
  refine V.ret (V.rets rfl (Lv.retG (by simp +contextual (disch:=first|omega|simp only[nx];omega) only[D1,cells_alloc_at,cells_alloc_ne,cells_set_at,cells_set_ne,yres,yres1,yresL,qA,qB,qC,D5,hF,hA,↓reduceIte,qD,qE];rfl) ?_ ?_))
  ·exact .refl _
  ·congr 1
   rw[decide_eq_decide]
   exact⟨fun hh=>⟨hall,by omega⟩,fun hh=>by have:=hh.2;omega⟩
def thin (T : Tb) : Prop:=few T.C∧T.F.length≤13
instance (T : Tb) : Decidable (thin T):=by unfold thin;infer_instance
theorem thin_sh {T : Tb} (h : thin T) : sh T:=⟨by have:=h.1.2;omega,fun row hr=>by have:=few_all h.1 row hr;omega,by have:=h.2;omega⟩
theorem f15_ok {H : Heap} {c f : Value} {T : Tb} (h : TV H c f T) : Gives Try.prog 15 [.agg ⟨[I T.b,c,f]⟩] H (.bool (decide (thin T))):=by
 have hlf:=h.fl
 refine F.entryL rfl dg15 do15 de15 rfl (by kernel_rfl) ?_
 simp only[sets]
 refine V.re [(0,.agg ⟨[I T.b,c,f]⟩)] (N:=12) zE zY ?_
 intro t hF hA
 simp only[Kn,and_true] at hA
 refine zS ?_
 refine V.l0 ?_
 refine V.heap (fun X=>Grow H X∧Bx X H.next [I T.b,c,f] 25) ⟨?_,?_⟩ ?_
 ·exact zW
 ·exact zB
 rintro H1 ⟨g1,b1⟩
 refine zS ?_
 refine V.run ?_
 have zf:=b1.2
 refine VI.sz 2 ?_
 simp only[ds]
 refine VI.callA rfl (f16_ok (h.c.grow ri g1)) zA (fun H2 g2=>?_)
 have b2:=b1.grow g2
 have zf:=And.intro b2.2<|@hlf
 refine VI.lz ?_
 refine zS ?_
 refine V.ret (V.rets rfl (Lv.retG (by simp +contextual (disch:=first|omega|simp only[nx];omega) only[D1,cells_alloc_at,cells_alloc_ne,cells_set_at,cells_set_ne,yres,yres1,yresL,qA,qB,qC,D5,hF,hA,↓reduceIte,qD,qE];rfl) ?_ ?_))
 ·exact g1.trans g2
 ·congr 1
  rw[decide_eq_decide]
  unfold thin
  constructor
  ·rintro⟨a,b⟩;exact⟨a,by omega⟩
  ·rintro⟨a,b⟩;exact⟨a,by omega⟩
theorem can_iff {T : Tb} {N : List (List Int)} : can T N↔((∀ row∈N,row.length=cols T)∧N.length=T.C.length)∧∀ row∈N,∀ v∈row,0≤v∧v≤10100:=by
 unfold can rowOk
 exact⟨fun ⟨a,b⟩=>⟨⟨fun r hr=>(b r hr).1,a⟩,fun r hr=>(b r hr).2⟩,fun ⟨⟨a,b⟩,c⟩=>⟨b,fun r hr=>⟨a r hr,c r hr⟩⟩⟩
theorem ce_2 {T : Tb} {N : List (List Int)} (h : flt T=0) (h2 : ¬ can T N) : ce T N=2:=by unfold ce;rw[if_neg (fun hh=>hh h),if_pos h2]
theorem ce_f {T : Tb} {N : List (List Int)} (h : flt T≠0) : ce T N=flt T:=by unfold ce;rw[if_pos h]
def K (T : Tb) (N : List (List Int)) (r : Nat) (W : Int) : Prop:=(W=0∧flt T=0∧((∀ row∈N,row.length=cols T)∧N.length=T.C.length)∧∀ row∈N.take r,∀ v∈row,0≤v∧v≤10100)∨(W=ce T N∧W≠0)
theorem eql4 (a : Bool) : xbinOp Try.prog .eql 4 (.bool a) (.bool a)=some (.bool true):=by
 have h1 : xbin Try.prog .eql 4 (.bool a) (.bool a)=some (.bool (a == a)):=by
  unfold xbin
  simp only[Try.underlying4]
 unfold xbinOp
 rw[h1]
 simp
theorem f3_ok {H : Heap} {c f y : Value} {T : Tb} {N : List (List Int)} {q : Int} (h : TV H c f T) (hy : Nest RI H y N) : F Try.prog 3 ⟨[.agg ⟨[I T.b,c,f]⟩,y,I q]⟩ H (fun w _=>w=.bool true):=by
 have hln : ∀ X,ylen 0 X y=some (I N.length):=hy.len
 refine F.entryL rfl dg3 do3 de3 rfl (by kernel_rfl) ?_
 simp only[sets]
 refine V.re [(0,.agg ⟨[I T.b,c,f]⟩),(1,y),(2,I q)] (N:=123) zE zY ?_
 intro t hF hA
 simp only[Kn,and_true] at hA
 refine zS ?_
 refine V.l0 ?_
 refine V.heap (fun X=>Grow H X∧Bx X H.next [I T.b,c,f] 25) ⟨?_,?_⟩ ?_
 ·exact zW
 ·exact zB
 rintro H1 ⟨g1,b1⟩
 refine zS ?_
 refine V.run ?_
 have zf:=b1.2
 refine VI.sz 1 ?_
 simp only[ds]
 refine VI.callA rfl (f15_ok (h.grow g1)) zA (fun H2 g2=>?_)
 have b2:=b1.grow g2
 have g12:=g1.trans g2
 refine VI.s0 3 ?_
 simp only[ds]
 first|refine VI.callGt zG (fun hc=>zI) (fun hc=>f16_ok (hy.grow ri g12)) (fun hc=>zI) (fun H3 g3=>?_)|refine VI.callGf zG (fun hc=>zI) (fun hc=>f16_ok (hy.grow ri g12)) (fun hc=>zI) (fun H3 g3=>?_)
 have b3:=b2.grow g3
 have g13:=g12.trans g3
 refine VI.l0 ?_
 refine zS ?_
 refine V.condP zP (fun c1=>?_) (fun c1=>?_)
 ·refine zS ?_
  refine V.run ?_
  refine VI.callA rfl (f17_ok _) zA (fun Hf gf=>?_)
  refine VI.l0 ?_
  refine zS ?_
  refine V.ret (V.rets rfl (Lv.retF (by simp +contextual (disch:=first|omega|simp only[nx];omega) only[D1,cells_alloc_at,cells_alloc_ne,cells_set_at,cells_set_ne,yres,yres1,yresL,qA,qB,qC,D5,hF,hA,↓reduceIte,qD,qE];rfl) ?_))
  rfl
 have hth : thin T:=Decidable.not_not.1 (fun hh=>c1 (.inl hh))
 have hfw : few N:=Decidable.not_not.1 (fun hh=>c1 (.inr hh))
 have hsT:=thin_sh hth
 have hNl:=hfw.2
 have hNr:=few_all hfw
 clear c1
 refine zS ?_
 refine V.run ?_
 have zf:=b3.2
 refine VI.sz 1 ?_
 simp only[ds]
 refine VI.callR zA (f19_ok (h.grow g13) hsT) zA (fun w4 H4 ⟨g4,ca,fa,hw4,ha4⟩=>?_)
 subst hw4
 have b4:=b3.grow g4
 have g14:=g13.trans g4
 refine VI.callA rfl (f18_ok ha4 hsT) zA (fun H5 g5=>?_)
 have b5:=b4.grow g5
 have g15:=g14.trans g5
 refine VI.l0 ?_
 refine zS ?_
 refine V.run ?_
 have zf:=b5.2
 refine VI.sz 1 ?_
 simp only[ds]
 refine VI.callR zA (f19_ok (h.grow g15) hsT) zA (fun w6 H6 ⟨g6,cb,fb,hw6,hb6⟩=>?_)
 subst hw6
 have g16:=g15.trans g6
 have b6:=b5.grow g6
 refine VI.s0 1 ?_
 simp only[ds]
 refine VI.callR zA (f21_ok (hy.grow ri g16) (by omega) (fun r hr=>by have:=hNr r hr;omega)) zA (fun yb H7 ⟨g7,on7⟩=>?_)
 have hb7:=hb6.grow g7
 have b7:=b6.grow g7
 have g17:=g16.trans g7
 have hyb:=on7.nest.weak (fun x r hh=>hh.1)
 refine VI.callA rfl (f20_ok hb7 hsT hyb (by omega) (fun r hr=>by have:=hNr r hr;omega)) zA (fun H8 g8=>?_)
 have b8:=b7.grow g8
 have g18:=g17.trans g8
 refine VI.l0 ?_
 refine zS ?_
 refine V.run ?_
 have zf:=b8.2
 refine VI.sz 1 ?_
 simp only[ds]
 refine VI.callR zA (f19_ok (h.grow g18) hsT) zA (fun w9 H9 ⟨g9,cc,fc,hw9,hc9⟩=>?_)
 subst hw9
 have g19:=g18.trans g9
 have b9:=b8.grow g9
 refine VI.s0 1 ?_
 simp only[ds]
 refine VI.callR zA (f21_ok (hy.grow ri g19) (by omega) (fun r hr=>by have:=hNr r hr;omega)) zA (fun yc H10 ⟨g10,on10⟩=>?_)
 have hc10:=hc9.grow g10
 have b10:=b9.grow g10
 have g1a:=g19.trans g10
 have hyc:=on10.nest.weak (fun x r hh=>hh.1)
 refine VI.s0 1 ?_
 simp only[ds]
 refine VI.callA rfl (f22_ok q hc10 hsT hyc (by omega) (fun r hr=>by have:=hNr r hr;omega)) zA (fun H11 g11=>?_)
 have b11:=b10.grow g11
 have g1b:=g1a.trans g11
 refine VI.l0 ?_
 refine zS ?_
 refine V.run ?_
 have zf:=b11.2
 refine VI.sz 1 ?_
 simp only[ds]
 refine VI.callA rfl (f23_ok (h.grow g1b) hsT) zA (fun H12 g12'=>?_)
 have b12:=b11.grow g12'
 have g1c:=g1b.trans g12'
 refine VI.l0 ?_
 refine zS ?_
 refine V.line' (by simp +contextual (disch:=first|omega|simp only[nx];omega) only[D4,qF,qG,qA,qB,qC,D5,hF,hA,↓reduceIte,qD,qE,eq_self,ne_eq,not_true_eq_false];with_reducible rfl) ?_
 refine zS ?_
 refine V.condF zA ?_
 refine zS ?_
 have hy12:=hy.grow ri g1c
 refine V.run ?_
 have zf:=b12.2
 refine VI.sz 5 ?_
 simp only[ds]
 first|refine VI.callGt zG (fun hc=>zI) (fun hc=>f24_ok (h.grow g1c) hy12 (by omega)) (fun hc=>zI) (fun H13 g13'=>?_)|refine VI.callGf zG (fun hc=>zI) (fun hc=>f24_ok (h.grow g1c) hy12 (by omega)) (fun hc=>zI) (fun H13 g13'=>?_)
 have b13:=b12.grow g13'
 have g1d:=g1c.trans g13'
 refine VI.l0 ?_
 refine zS ?_
 refine V.join (fun t m Y=>∃ W : Int,K T N 0 W∧m=[]∧Y=H13∧Full 123 t∧Kn [(1,y),(2,I q),(3,PT H.next),(8,I (if ce T N=0 then chg T.C N else 0)),(9,I (ce T N)),(10,.bool (decide (prv T N q))),(11,I W)] t) ?_ ?_
 ·refine V.condP zP (fun c1=>?_) (fun c1=>?_)
  ·refine zS ?_
   refine V.l0 ?_
   refine V.nil (Or.inl ⟨rfl,2,.inr ⟨?_,by omega⟩,rfl,rfl,zF,zK⟩)
   rw[ce_2 c1.1 (fun hh=>c1.2 (can_iff.1 hh).1)]
  ·refine zS ?_
   refine V.nil (Or.inl ⟨rfl,flt T,?_,rfl,rfl,zF,zK⟩)
   by_cases h0 : flt T=0
   ·exact .inl ⟨h0,h0,Decidable.not_not.1 (fun hh=>c1 ⟨h0,hh⟩),by simp⟩
   ·exact .inr ⟨(ce_f h0).symm,h0⟩
 clear hF hA
 rintro t _ Y ⟨W,hK,rfl,hX,hF,hA⟩
 obtain rfl : H13=Y:=hX.symm
 simp only[Kn,and_true] at hA
 refine zS ?_
 refine V.l0 ?_
 refine zS ?_
 refine V.loop (fun z t m X=>∃ (k : Nat) (W : Int),k≤N.length∧z=N.length-k∧m=[]∧Grow H13 X∧K T N k W∧Full 123 t∧Kn [(1,y),(2,I q),(3,PT H.next),(8,I (if ce T N=0 then chg T.C N else 0)),(9,I (ce T N)),(10,.bool (decide (prv T N q))),(11,I W),(12,I k)] t) N.length ?_ ?_
 ·exact⟨0,W,by omega,by omega,rfl,.refl _,hK,zF,zK⟩
 clear hF hA hK
 rintro z t m X ⟨k,W,hk,rfl,rfl,hg,hK,hF,hA⟩
 simp only[Kn,and_true] at hA
 have bX:=b13.grow hg
 have gX:=g1d.trans hg
 refine zS ?_
 have zf:=@hln
 refine V.lz ?_
 refine zS ?_
 refine V.condP zP (fun hlt=>?_) (fun hlt=>?_)
 ·have hlt' : k<N.length:=by omega
  obtain⟨h0,hal,hall⟩ : flt T=0∧((∀ row∈N,row.length=cols T)∧N.length=T.C.length)∧∀ row∈N.take k,∀ v∈row,0≤v∧v≤10100:=by
   rcases hK with⟨_,a,b,c⟩|⟨a,b⟩
   ·exact⟨a,b,c⟩
   ·exact absurd hlt.2 b
  obtain⟨p,u,hp,hu⟩:=hy.at ri hlt'
  have hpk:=hp .i64
  have hN7:=hNr _ (List.getElem_mem hlt')
  refine zS ?_
  refine V.l0 ?_
  refine zS ?_
  refine V.loop (fun z t m Y=>∃ (j : Nat) (W : Int),j≤(N[k]).length∧z=(N[k]).length-j∧m=[]∧Grow H13 Y∧((W=0∧∀ v∈(N[k]).take j,0≤v∧v≤10100)∨(W=2∧ce T N=2))∧Full 123 t∧Kn [(1,y),(2,I q),(3,PT H.next),(8,I (if ce T N=0 then chg T.C N else 0)),(9,I (ce T N)),(10,.bool (decide (prv T N q))),(11,I W),(12,I k),(13,I j)] t) (N[k]).length ?_ ?_
  ·exact⟨0,W,by omega,by omega,rfl,hg,.inl ⟨hlt.2,by simp⟩,zF,zK⟩
  clear hF hA
  rintro z t m Y ⟨j,W,hj,rfl,rfl,hgY,hJ,hF,hA⟩
  simp only[Kn,and_true] at hA
  have gY:=g1d.trans hgY
  obtain⟨hu1,hu2⟩:=hu Y gY
  have hul:=hu2.len
  refine zS ?_
  have zf:=And.intro @hpk<|And.intro @hu1<|@hul
  refine V.lz ?_
  refine zS ?_
  refine V.condP zP (fun hltj=>?_) (fun hltj=>?_)
  ·have hj1 : j<(N[k]).length:=by omega
   obtain⟨w,hw,hww⟩:=hu2.at hj1
   have hw1:=hww Y (.refl _)
   refine zS ?_
   refine V.run ?_
   have zf:=And.intro @hpk<|And.intro @hu1<|And.intro @hw<|@hw1
   refine VI.sz 7 ?_
   simp only[ds]
   refine VI.callA rfl (f25_ok (N[k])[j] 0 10100 _) zA (fun Z gz=>?_)
   refine VI.l0 ?_
   refine zS ?_
   refine V.condP zP (fun c2=>?_) (fun c2=>?_)
   ·refine zS ?_
    refine V.l0 ?_
    refine zS ?_
    refine V.l0 ?_
    refine V.nil (Or.inl ⟨rfl,(N[k]).length-(j+1),by omega,?_⟩)
    refine⟨j+1,2,hj1,rfl,rfl,hgY.trans gz,.inr ⟨rfl,ce_2 h0 (fun hh=>c2 ?_)⟩,zF,zK⟩
    exact (can_iff.1 hh).2 _ (List.getElem_mem hlt') _ (List.getElem_mem hj1)
   ·refine zS ?_
    refine V.l0 ?_
    refine V.nil (Or.inl ⟨rfl,(N[k]).length-(j+1),by omega,?_⟩)
    refine⟨j+1,W,hj1,rfl,rfl,hgY.trans gz,?_,zF,zK⟩
    rcases hJ with⟨a,b⟩|hJ
    ·refine .inl ⟨a,fun v hv=>?_⟩
     rw[tk1 hj1] at hv
     rcases List.mem_append.1 hv with hv|hv
     ·exact b v hv
     ·rw[List.mem_singleton.1 hv];exact Decidable.not_not.1 c2
    ·exact .inr hJ
  ·obtain rfl : j=(N[k]).length:=by omega
   refine V.exit ?_
   refine zX ?_
   refine V.nil (Or.inr ⟨by simp,?_⟩)
   refine zX ?_
   refine zS ?_
   refine V.l0 ?_
   refine V.nil (Or.inl ⟨rfl,N.length-(k+1),by omega,?_⟩)
   refine⟨k+1,W,hlt',rfl,rfl,hgY,?_,zF,zK⟩
   rcases hJ with⟨a,b⟩|⟨a,b⟩
   ·refine .inl ⟨a,h0,hal,fun row hr=>?_⟩
    rw[List.take_length] at b
    rw[tk1 hlt'] at hr
    rcases List.mem_append.1 hr with hr|hr
    ·exact hall row hr
    ·rw[List.mem_singleton.1 hr];exact b
   ·exact .inr ⟨by omega,by omega⟩
 have hW : W=ce T N:=by
  rcases hK with⟨a,b,cc',d⟩|⟨a,b⟩
  ·have : k=N.length:=by omega
   subst this
   rw[List.take_length] at d
   obtain⟨x1,x2⟩:=flt_0.1 b
   rw[a,ce_0.2 ⟨x1,x2,can_iff.2 ⟨cc',d⟩⟩]
  ·exact a
 subst hW
 refine V.exit ?_
 refine zX ?_
 refine V.nil (Or.inr ⟨by simp,?_⟩)
 refine zX ?_
 refine zS ?_
 refine V.l0 ?_
 refine zS ?_
 refine V.condP zP (fun c5=>?_) (fun c5=>?_)
 ·have h0 : ce T N≠0:=c5
  have hp0 : decide (prv T N q)=false:=decide_eq_false (fun hh=>h0 hh.1)
  rw[hp0,if_neg h0] at hA
  refine zS ?_
  refine V.run ?_
  refine VI.steps' 9 (by simp +contextual (disch:=first|omega|simp only[nx];omega) only[D4,qF,qG,qA,qB,qC,D5,hF,hA,↓reduceIte,qD,qE,eq_self,Bool.not_false];with_reducible rfl) ?_
  simp only[ds]
  refine VI.steps' 3 (by simp +contextual (disch:=first|omega|simp only[nx];omega) only[D4,qF,qG,qA,qB,qC,D5,hF,hA,↓reduceIte,qD,qE,eq_self,Bool.not_false];with_reducible rfl) ?_
  simp only[ds]
  refine VI.callAT zG rfl (f17_ok _) zA (fun Hf gf=>?_)
  refine VI.l0 ?_
  refine zS ?_
  refine V.ret (V.rets rfl (Lv.retF (by simp +contextual (disch:=first|omega|simp only[nx];omega) only[D1,cells_alloc_at,cells_alloc_ne,cells_set_at,cells_set_ne,yres,yres1,yresL,qA,qB,qC,D5,hF,hA,↓reduceIte,qD,qE];rfl) ?_))
  rfl
 ·have h0 : ce T N=0:=Decidable.not_not.1 c5
  obtain⟨x1,x2,x3⟩:=ce_0.1 h0
  have hri:=rir_isr x1 x2 x3
  rw[h0,if_pos rfl] at hA
  refine zS ?_
  refine V.run ?_
  have zf:=bX.2
  refine VI.sz 2 ?_
  simp only[ds]
  refine VI.callA rfl (f26_ok (h.grow gX) (hy.grow ri gX) x1 x2 x3) zA (fun H14 g14=>?_)
  have bY:=bX.grow g14
  have gY:=gX.trans g14
  refine VI.l0 ?_
  refine zS ?_
  have f27':=f27_ok (h.grow gY) (hy.grow ri gY) x1 x2 x3
  by_cases hi : isr T N
  ·have hp : decide (prv T N q)=decide (chg T.C N≤q):=by
    rw[decide_eq_decide]
    exact⟨fun hh=>hh.2.1,fun hh=>⟨h0,hh,hi⟩⟩
   rw[hp] at hA
   rw[decide_eq_true (hri.2 hi)] at f27'
   refine V.run ?_
   refine VI.steps' 9 (by simp +contextual (disch:=first|omega|simp only[nx];omega) only[D4,qF,qG,qA,qB,qC,D5,hF,hA,↓reduceIte,qD,qE,bY.2,eq_self];with_reducible rfl) ?_
   simp only[ds]
   refine VI.steps' 2 (by simp +contextual (disch:=first|omega|simp only[nx];omega) only[D4,qF,qG,qA,qB,qC,D5,hF,hA,↓reduceIte,qD,qE,bY.2,eq_self];with_reducible rfl) ?_
   simp only[ds]
   refine VI.callAT zG rfl (f27') zA (fun H15 g15=>?_)
   have zf:=@eql4
   refine VI.sz 8 ?_
   simp only[ds]
   refine VI.callAT zG rfl (f17_ok _) zA (fun Hf gf=>?_)
   refine VI.l0 ?_
   refine zS ?_
   refine V.ret (V.rets rfl (Lv.retF (by simp +contextual (disch:=first|omega|simp only[nx];omega) only[D1,cells_alloc_at,cells_alloc_ne,cells_set_at,cells_set_ne,yres,yres1,yresL,qA,qB,qC,D5,hF,hA,↓reduceIte,qD,qE];rfl) ?_))
   rfl
  ·have hp : decide (prv T N q)=false:=decide_eq_false (fun hh=>hi hh.2.2)
   rw[hp] at hA
   rw[decide_eq_false (fun hh=>hi (hri.1 hh))] at f27'
   refine V.run ?_
   refine VI.steps' 9 (by simp +contextual (disch:=first|omega|simp only[nx];omega) only[D4,qF,qG,qA,qB,qC,D5,hF,hA,↓reduceIte,qD,qE,bY.2,eq_self];with_reducible rfl) ?_
   simp only[ds]
   refine VI.steps' 2 (by simp +contextual (disch:=first|omega|simp only[nx];omega) only[D4,qF,qG,qA,qB,qC,D5,hF,hA,↓reduceIte,qD,qE,bY.2,eq_self];with_reducible rfl) ?_
   simp only[ds]
   refine VI.callAT zG rfl (f27') zA (fun H15 g15=>?_)
   have zf:=@eql4
   refine VI.sz 8 ?_
   simp only[ds]
   refine VI.callAT zG rfl (f17_ok _) zA (fun Hf gf=>?_)
   refine VI.l0 ?_
   refine zS ?_
   refine V.ret (V.rets rfl (Lv.retF (by simp +contextual (disch:=first|omega|simp only[nx];omega) only[D1,cells_alloc_at,cells_alloc_ne,cells_set_at,cells_set_ne,yres,yres1,yresL,qA,qB,qC,D5,hF,hA,↓reduceIte,qD,qE];rfl) ?_))
   rfl
end Go.Xe.TRX
