/- What the functions of the layer round come to: the reference's error of a table. Conditions: none. -/
import Derived.Test.YtimnlnfpblomnaaTSP
noncomputable section
namespace Go.Xe.TRX
open Go Go.Xe Go.Proofs
open Nat renaming reduceLeDiff ->qA, reduceSub ->qB, reduceAdd ->qC, reduceEqDiff ->qD, reduceLT ->qE
open Int renaming reduceNegSucc ->qF, reduceEq ->qG
open Go.Xe.V renaming seq ->sA, block ->sB, scope ->sC, skip ->sD, close ->sE
open Go.Xe renaming pth ->P
open Go.Xe.Rnd
set_option maxRecDepth 100000
set_option maxHeartbeats 3200000
set_option linter.unusedSimpArgs false
def d52 : FCode:=(.seq (.run (.go (.box 25 (tm 0)) (P 1)::
.go (.move (.con (.int .i64 (.ofNat 0)))) (P 2)::
[])) (.seq (.seq (.run (.go (.fieldAddr 1 (tm 1)) (P 8)::
.go (.load1 (tm 8)) (P 9)::
.go (.len 0 (tm 9)) (P 10)::
.go (.bin .gtr 3 (tm 10) (.con (.int .i64 (.ofNat 5)))) (P 11)::
.go (.move (tm 11)) (P 12)::
.gd (P 12) false (.fieldAddr 2 (tm 1)) (P 13)::
.gd (P 12) false (.load1 (tm 13)) (P 14)::
.gd (P 12) false (.len 0 (tm 14)) (P 15)::
.gd (P 12) false (.bin .gtr 3 (tm 15) (.con (.int .i64 (.ofNat 10)))) (P 16)::
.go (.pick (tm 12) (.con (.bool true)) (tm 16)) (P 17)::
[])) (.cond (tm 17) (.seq (.run (.go (.move (.con (.int .i64 (.ofNat 3)))) (P 2)::
[])) .ret) .skip)) (.seq (.seq (.run (.go (.move (.con (.int .i64 (.ofNat 0)))) (P 3)::
[])) (.block 0 (.loop (.seq (.seq (.run (.go (.move (tm 3)) (P 18)::
.go (.fieldAddr 1 (tm 1)) (P 19)::
.go (.load1 (tm 19)) (P 20)::
.go (.len 0 (tm 20)) (P 21)::
.go (.bin .lss 3 (tm 18) (tm 21)) (P 22)::
[])) (.cond (tm 22) .skip (.exit 0))) (.seq (.block 1 (.seq (.run (.go (.fieldAddr 1 (tm 1)) (P 25)::
.go (.load1 (tm 25)) (P 26)::
.go (.move (tm 3)) (P 27)::
.go (.indexAddr none 1 (tm 26) (tm 27)) (P 28)::
.go (.load1 (tm 28)) (P 29)::
.go (.len 0 (tm 29)) (P 30)::
.go (.bin .gtr 3 (tm 30) (.con (.int .i64 (.ofNat 4)))) (P 31)::
[])) (.cond (tm 31) (.seq (.run (.go (.move (.con (.int .i64 (.ofNat 3)))) (P 2)::
[])) .ret) .skip))) (.run (.go (.move (tm 3)) (P 23)::
.go (.bin .add 3 (tm 23) (.con (.int .i64 (.ofNat 1)))) (P 24)::
.go (.move (tm 24)) (P 3)::
[]))))))) (.seq (.seq (.run (.go (.fieldAddr 0 (tm 1)) (P 32)::
.go (.load1 (tm 32)) (P 33)::
.go (.call (.con (.func (.func 25) ⟨[]⟩ ⟨[]⟩)) [(tm 33),(.con (.int .i64 (.ofNat 2))),(.con (.int .i64 (.ofNat 100)))]) (P 34)::
.go (.un .not (tm 34)) (P 35)::
.go (.move (tm 35)) (P 36)::
.gd (P 36) false (.loadN 3 (tm 1)) (P 37)::
.gd (P 36) false (.call (.con (.func (.func 44) ⟨[]⟩ ⟨[]⟩)) [tm 37]) (P 38)::
.gd (P 36) false (.bin .eql 3 (tm 38) (.con (.int .i64 (.ofNat 0)))) (P 39)::
.go (.pick (tm 36) (.con (.bool true)) (tm 39)) (P 40)::
[])) (.cond (tm 40) (.seq (.run (.go (.move (.con (.int .i64 (.ofNat 1)))) (P 2)::
[])) .ret) .skip)) (.seq (.seq (.run (.go (.move (.con (.int .i64 (.ofNat 0)))) (P 4)::
[])) (.block 2 (.loop (.seq (.seq (.run (.go (.move (tm 4)) (P 41)::
.go (.fieldAddr 1 (tm 1)) (P 42)::
.go (.load1 (tm 42)) (P 43)::
.go (.len 0 (tm 43)) (P 44)::
.go (.bin .lss 3 (tm 41) (tm 44)) (P 45)::
[])) (.cond (tm 45) .skip (.exit 2))) (.seq (.block 3 (.seq (.seq (.draw 9 (.go (.fieldAddr 1 (tm 1)) (P 48)::
.go (.load1 (tm 48)) (P 49)::
.go (.move (tm 4)) (P 50)::
.go (.indexAddr none 1 (tm 49) (tm 50)) (P 51)::
.go (.load1 (tm 51)) (P 52)::
.go (.len 0 (tm 52)) (P 53)::
.go (.loadN 3 (tm 1)) (P 54)::
.go (.call (.con (.func (.func 44) ⟨[]⟩ ⟨[]⟩)) [tm 54]) (P 55)::
.go (.bin .neq 3 (tm 53) (tm 55)) (P 56)::
[]) [.ok,.rd none (.load1 (tm 48)) (some (P 49)) [8],.ok,.ok,.rd none (.load1 (tm 51)) (some (P 52)) [8],.rd none (.len 0 (tm 52)) (some (P 53)) [8],.ok,.ok,.ok]) (.cond (tm 56) (.seq (.run (.go (.move (.con (.int .i64 (.ofNat 1)))) (P 2)::
[])) .ret) .skip)) (.seq (.run (.go (.move (.con (.int .i64 (.ofNat 0)))) (P 5)::
[])) (.block 4 (.loop (.seq (.seq (.run (.go (.move (tm 5)) (P 57)::
.go (.loadN 3 (tm 1)) (P 58)::
.go (.call (.con (.func (.func 44) ⟨[]⟩ ⟨[]⟩)) [tm 58]) (P 59)::
.go (.bin .lss 3 (tm 57) (tm 59)) (P 60)::
[])) (.cond (tm 60) .skip (.exit 4))) (.seq (.block 5 (.seq (.run (.go (.fieldAddr 1 (tm 1)) (P 63)::
.go (.load1 (tm 63)) (P 64)::
.go (.move (tm 4)) (P 65)::
.go (.indexAddr none 1 (tm 64) (tm 65)) (P 66)::
.go (.load1 (tm 66)) (P 67)::
.go (.move (tm 5)) (P 68)::
.go (.indexAddr none 1 (tm 67) (tm 68)) (P 69)::
.go (.load1 (tm 69)) (P 70)::
.go (.call (.con (.func (.func 25) ⟨[]⟩ ⟨[]⟩)) [(tm 70),(.con (.int .i64 (.ofNat 0))),(.con (.int .i64 (.ofNat 10000)))]) (P 71)::
.go (.un .not (tm 71)) (P 72)::
[])) (.cond (tm 72) (.seq (.run (.go (.move (.con (.int .i64 (.ofNat 1)))) (P 2)::
[])) .ret) .skip))) (.run (.go (.move (tm 5)) (P 61)::
.go (.bin .add 3 (tm 61) (.con (.int .i64 (.ofNat 1)))) (P 62)::
.go (.move (tm 62)) (P 5)::
[]))))))))) (.run (.go (.move (tm 4)) (P 46)::
.go (.bin .add 3 (tm 46) (.con (.int .i64 (.ofNat 1)))) (P 47)::
.go (.move (tm 47)) (P 4)::
[]))))))) (.seq (.seq (.run (.go (.move (.con (.int .i64 (.ofNat 0)))) (P 6)::
[])) (.block 6 (.loop (.seq (.seq (.run (.go (.move (tm 6)) (P 73)::
.go (.fieldAddr 2 (tm 1)) (P 74)::
.go (.load1 (tm 74)) (P 75)::
.go (.len 0 (tm 75)) (P 76)::
.go (.bin .lss 3 (tm 73) (tm 76)) (P 77)::
[])) (.cond (tm 77) .skip (.exit 6))) (.seq (.block 7 (.seq (.run (.go (.fieldAddr 2 (tm 1)) (P 80)::
.go (.load1 (tm 80)) (P 81)::
.go (.move (tm 6)) (P 82)::
.go (.indexAddr none 3 (tm 81) (tm 82)) (P 83)::
.go (.loadN 3 (tm 83)) (P 84)::
.go (.alloc 76 [(.int .i64 (.ofNat 0)),(.int .i64 (.ofNat 0)),(.int .i64 (.ofNat 0))]) (P 7)::
.un (.store 3 (tm 7) (tm 84))::
[])) (.seq (.draw 23 (.go (.fieldAddr 0 (tm 7)) (P 85)::
.go (.load1 (tm 85)) (P 86)::
.go (.fieldAddr 1 (tm 1)) (P 87)::
.go (.load1 (tm 87)) (P 88)::
.go (.len 0 (tm 88)) (P 89)::
.go (.bin .sub 3 (tm 89) (.con (.int .i64 (.ofNat 1)))) (P 90)::
.go (.call (.con (.func (.func 25) ⟨[]⟩ ⟨[]⟩)) [(tm 86),(.con (.int .i64 (.ofNat 0))),(tm 90)]) (P 91)::
.go (.un .not (tm 91)) (P 92)::
.go (.move (tm 92)) (P 93)::
.gd (P 93) false (.fieldAddr 1 (tm 7)) (P 94)::
.gd (P 93) false (.load1 (tm 94)) (P 95)::
.gd (P 93) false (.loadN 3 (tm 1)) (P 96)::
.gd (P 93) false (.call (.con (.func (.func 44) ⟨[]⟩ ⟨[]⟩)) [tm 96]) (P 97)::
.gd (P 93) false (.bin .sub 3 (tm 97) (.con (.int .i64 (.ofNat 1)))) (P 98)::
.gd (P 93) false (.call (.con (.func (.func 25) ⟨[]⟩ ⟨[]⟩)) [(tm 95),(.con (.int .i64 (.ofNat 0))),(tm 98)]) (P 99)::
.gd (P 93) false (.un .not (tm 99)) (P 100)::
.go (.pick (tm 93) (.con (.bool true)) (tm 100)) (P 101)::
.go (.move (tm 101)) (P 102)::
.gd (P 102) false (.fieldAddr 2 (tm 7)) (P 103)::
.gd (P 102) false (.load1 (tm 103)) (P 104)::
.gd (P 102) false (.call (.con (.func (.func 25) ⟨[]⟩ ⟨[]⟩)) [(tm 104),(.con (.int .i64 (.ofNat 0))),(.con (.int .i64 (.ofNat 10100)))]) (P 105)::
.gd (P 102) false (.un .not (tm 105)) (P 106)::
.go (.pick (tm 102) (.con (.bool true)) (tm 106)) (P 107)::
[]) [.ok,.ok,.ok,.ok,.ok,.ok,.ok,.ok,.ok,.ok,.rd (some ((P 93),false)) (.load1 (tm 94)) (some (P 95)) [13],.ok,.ok,.ok,.ok,.ok,.ok,.ok,.ok,.ok,.ok,.ok,.ok]) (.cond (tm 107) (.seq (.run (.go (.move (.con (.int .i64 (.ofNat 1)))) (P 2)::
[])) .ret) .skip)))) (.run (.go (.move (tm 6)) (P 78)::
.go (.bin .add 3 (tm 78) (.con (.int .i64 (.ofNat 1)))) (P 79)::
.go (.move (tm 79)) (P 6)::
[]))))))) (.seq (.run (.go (.move (.con (.int .i64 (.ofNat 0)))) (P 2)::
[])) .ret)))))))
theorem de52 : @compF Try.prog (Gl.none Try.prog) Try.f52 1=.mk d52 (mkTT 108) [(P 0)] [.tmp (P 2)]:=by kernel_rfl
theorem dg52 : Try.prog.funcs[52]?=some Try.f52:=Try.func52
theorem do52 : okF Try.prog Try.f52=true:=by kernel_rfl
def d23 : FCode:=(.seq (.run (.go (.box 25 (tm 0)) (P 1)::
.go (.move (.con (.int .i64 (.ofNat 0)))) (P 2)::
[])) (.seq (.run (.go (.loadN 3 (tm 1)) (P 3)::
.go (.call (.con (.func (.func 52) ⟨[]⟩ ⟨[]⟩)) [tm 3]) (P 4)::
.go (.move (tm 4)) (P 2)::
[])) .ret))
theorem de23 : @compF Try.prog (Gl.none Try.prog) Try.f23 1=.mk d23 (mkTT 5) [(P 0)] [.tmp (P 2)]:=by kernel_rfl
theorem dg23 : Try.prog.funcs[23]?=some Try.f23:=Try.func23
theorem do23 : okF Try.prog Try.f23=true:=by kernel_rfl
theorem flt_3 {T : Tb} (h : ¬ fits T) : flt T=3:=by unfold flt;rw[if_pos h]
theorem flt_1 {T : Tb} (h : fits T) (h2 : ¬ valid T) : flt T=1:=by unfold flt;rw[if_neg (λhh=>hh h),if_pos h2]
theorem f52_ok {H : Heap} {c f : Value} {T : Tb} (h : TV H c f T) (hs : sh T) : Gives Try.prog 52 [.agg ⟨[I T.b,c,f]⟩] H (I (flt T)):=by
 obtain⟨s1,s2,s3⟩:=hs
 have hl : ∀ X,ylen 0 X c=some (I T.C.length):=h.c.len
 have hlf:=h.fl
 obtain⟨pc,nc,cc,ec⟩:=h.c.isS
 obtain⟨pf,nf,cf,ef⟩:=h.f.isS
 have vv : vEq 3 (.agg ⟨[I T.b,c,f]⟩) (.agg ⟨[I T.b,c,f]⟩)=true:=by rw[ec,ef];simp[vEq,vEq0,all2]
 have vc : vEq 3 c c=true:=(sl1 h.c.isS).2.2.1
 refine F.entryL rfl dg52 do52 de52 rfl (by kernel_rfl) ?_
 simp only[sets]
 refine V.re [(0,.agg ⟨[I T.b,c,f]⟩)] (N:=108) zE zY ?_
 intro t hF hA
 simp only[Kn,and_true] at hA
 refine zS ?_
 refine V.l0 ?_
 refine V.heap (λX=>Grow H X/\Bx X H.next [I T.b,c,f] 25) ⟨?_,?_⟩ ?_
 ·exact zW
 ·exact zB
 rintro H1 ⟨g1,b1⟩
 refine zS ?_
 have zf:=aI b1.2<|aI @hl<|@hlf
 refine V.lz ?_
 refine zS ?_
 refine V.condP zP (λc1=>?_) (λc1=>?_)
 ·refine zS ?_
  refine V.l0 ?_
  refine zS ?_
  refine V.ret (V.rets rfl (Lv.retG (by simp +contextual (disch:=first|omega|simp only[nx];omega) only[D1,cells_alloc_at,cells_alloc_ne,cells_set_at,cells_set_ne,yres,yres1,yresL,qA,qB,qC,D5,hF,hA,↓reduceIte,qD,qE];rfl) ?_ ?_))
  ·exact g1
  ·rw[flt_3 (λhh=>by have:=hh.1;have:=hh.2.1;omega)]
 refine zS ?_
 refine V.l0 ?_
 refine zS ?_
 refine V.loop (λz t m X=>∃ (k : Nat),k<=T.C.length/\z=T.C.length-k/\m=[]/\X=H1/\(∀ row∈T.C.take k,row.length<=4)/\Full 108 t/\Kn [(1,PT H.next),(3,I k)] t) T.C.length ?_ ?_
 ·exact⟨0,by omega,by omega,rfl,rfl,by simp,zF,zK⟩
 clear hF hA
 rintro z t m X ⟨k,hk,rfl,rfl,hX,hall,hF,hA⟩
 obtain rfl : H1=X:=hX.symm
 simp only[Kn,and_true] at hA
 refine zS ?_
 have zf:=aI b1.2<|@hl
 refine V.lz ?_
 refine zS ?_
 refine V.condP zP (λhlt=>?_) (λhlt=>?_)
 ·have hlt' : k<T.C.length:=by omega
  obtain⟨p,u,hp,hu⟩:=h.c.at ri hlt'
  obtain⟨hu1,hu2⟩:=hu H1 g1
  have hpk:=hp .i64
  have hul:=hu2.len
  refine zS ?_
  have zf:=aI b1.2<|aI @hpk<|aI @hu1<|@hul
  refine V.lz ?_
  refine zS ?_
  refine V.condP zP (λc2=>?_) (λc2=>?_)
  ·refine zS ?_
   refine V.l0 ?_
   refine zS ?_
   refine V.ret (V.rets rfl (Or.inr ⟨by simp,V.rets rfl (Lv.retG (by simp +contextual (disch:=first|omega|simp only[nx];omega) only[D1,cells_alloc_at,cells_alloc_ne,cells_set_at,cells_set_ne,yres,yres1,yresL,qA,qB,qC,D5,hF,hA,↓reduceIte,qD,qE];rfl) ?_ ?_)⟩))
   ·exact g1
   ·rw[flt_3 (λhh=>by have:=hh.2.2 _ (List.getElem_mem hlt');omega)]
  ·refine zS ?_
   refine V.l0 ?_
   refine V.nil (Or.inl ⟨rfl,T.C.length-(k+1),by omega,?_⟩)
   refine⟨k+1,hlt',rfl,rfl,rfl,λrow hr=>?_,zF,zK⟩
   rw[tk1 hlt'] at hr
   rcases List.mem_append.1 hr with hr|hr
   ·exact hall row hr
   ·rw[List.mem_singleton.1 hr];omega
 obtain rfl : k=T.C.length:=by omega
 rw[List.take_length] at hall
 have hf : fits T:=⟨by omega,by omega,hall⟩
 clear hall
 refine V.exit ?_
 refine zX ?_
 refine V.nil (Or.inr ⟨by simp,?_⟩)
 refine zX ?_
 refine zS ?_
 refine V.run ?_
 have zf:=b1.2
 refine VI.sz 2 ?_
 simp only[ds]
 refine VI.callA rfl (f25_ok T.b 2 100 _) zA (λH2 g2=>?_)
 have b2:=b1.grow g2
 have zf:=b2.2
 refine VI.sz 3 ?_
 simp only[ds]
 first|refine VI.callGt zG (λhc=>zI) (λhc=>f44_ok (h.grow (g1.trans g2))) (λhc=>zI) (λH3 g3=>?_)|refine VI.callGf zG (λhc=>zI) (λhc=>f44_ok (h.grow (g1.trans g2))) (λhc=>zI) (λH3 g3=>?_)
 have b3:=b2.grow g3
 have g13:=(g1.trans g2).trans g3
 refine VI.l0 ?_
 refine zS ?_
 refine V.condP zP (λc2=>?_) (λc2=>?_)
 ·refine zS ?_
  refine V.l0 ?_
  refine zS ?_
  refine V.ret (V.rets rfl (Lv.retG (by simp +contextual (disch:=first|omega|simp only[nx];omega) only[D1,cells_alloc_at,cells_alloc_ne,cells_set_at,cells_set_ne,yres,yres1,yresL,qA,qB,qC,D5,hF,hA,↓reduceIte,qD,qE];rfl) ?_ ?_))
  ·exact g13
  ·rw[flt_1 hf (λhh=>by have:=hh.1;have:=hh.2.1;omega)]
 have hb : 2<=T.b/\T.b<=100:=by omega
 have hcl : 0<cols T:=by omega
 have hclb : cols T<=4:=by
  by_cases h0 : 0<T.C.length
  ·rw[<- cols_0 h0];exact hf.2.2 _ (List.getElem_mem h0)
  ·have : T.C=[]:=List.length_eq_zero_iff.1 (by omega)
   simp[cols,this]
 refine zS ?_
 refine V.l0 ?_
 refine zS ?_
 refine V.loop (λz t m X=>∃ (k : Nat),k<=T.C.length/\z=T.C.length-k/\m=[]/\Grow H3 X/\(∀ row∈T.C.take k,rowOk (cols T) 0 10000 row)/\Full 108 t/\Kn [(1,PT H.next),(4,I k)] t) T.C.length ?_ ?_
 ·exact⟨0,by omega,by omega,rfl,.refl _,by simp,zF,zK⟩
 clear hF hA
 rintro z t m X ⟨k,hk,rfl,rfl,hg,hall,hF,hA⟩
 simp only[Kn,and_true] at hA
 have bX:=b3.grow hg
 have gX:=g13.trans hg
 refine zS ?_
 have zf:=aI bX.2<|@hl
 refine V.lz ?_
 refine zS ?_
 refine V.condP zP (λhlt=>?_) (λhlt=>?_)
 ·have hlt' : k<T.C.length:=by omega
  obtain⟨p,u,hp,hu⟩:=h.c.at ri hlt'
  obtain⟨hu1,hu2⟩:=hu X gX
  have hpk:=hp .i64
  have hul:=hu2.len
  have vu : vEq 3 u u=true:=(sl1 (ri.sl hu2)).2.2.1
  refine zS ?_
  refine V.draw ?_
  have zf:=aI bX.2<|aI @hpk<|aI @hu1<|@hul
  refine VD.nz 7 ?_
  simp only[ds]
  refine VD.callA zA (f44_ok (h.grow gX)) zA (λY gy=>?_)
  have bY:=bX.grow gy
  have gY:=gX.trans gy
  have hu1Y:=(hu Y gY).1
  have m2:=gy.1
  refine VD.d0 ?_ ?_ rfl ?_
  ·exact zM
  ·simp only[dcAll,dcOk,wantD,List.cons_append,List.nil_append,true_and,and_true]
   have zf:=aI bX.2<|aI bY.2<|aI @hu1<|aI @hu1Y<|@hul
   exact⟨zR,zR,zR⟩
  refine zS ?_
  refine V.condP zP (λc3=>?_) (λc3=>?_)
  ·refine zS ?_
   refine V.l0 ?_
   refine zS ?_
   refine V.ret (V.rets rfl (Or.inr ⟨by simp,V.rets rfl (Lv.retG (by simp +contextual (disch:=first|omega|simp only[nx];omega) only[D1,cells_alloc_at,cells_alloc_ne,cells_set_at,cells_set_ne,yres,yres1,yresL,qA,qB,qC,D5,hF,hA,↓reduceIte,qD,qE];rfl) ?_ ?_)⟩))
   ·exact gY
   ·rw[flt_1 hf (λhh=>c3 (by have:=(hh.2.2.1 _ (List.getElem_mem hlt')).1;omega))]
  have hlen : (T.C[k]).length=cols T:=by omega
  refine zS ?_
  refine V.l0 ?_
  refine zS ?_
  refine V.loop (λz t m Z=>∃ (j : Nat),j<=cols T/\z=cols T-j/\m=[]/\Grow Y Z/\(∀ v∈(T.C[k]).take j,0<=v/\v<=10000)/\Full 108 t/\Kn [(1,PT H.next),(4,I k),(5,I j)] t) (cols T) ?_ ?_
  ·exact⟨0,by omega,by omega,rfl,.refl _,by simp,zF,zK⟩
  clear hF hA
  rintro z t m Z ⟨j,hj,rfl,rfl,hgz,hallJ,hF,hA⟩
  simp only[Kn,and_true] at hA
  have bZ:=bY.grow hgz
  have gZ:=gY.trans hgz
  refine zS ?_
  refine V.run ?_
  have zf:=bZ.2
  refine VI.sz 2 ?_
  simp only[ds]
  refine VI.callA rfl (f44_ok (h.grow gZ)) zA (λW gw=>?_)
  have bW:=bZ.grow gw
  have gW:=gZ.trans gw
  refine VI.l0 ?_
  refine zS ?_
  refine V.condP zP (λhltj=>?_) (λhltj=>?_)
  ·have hj1 : j<(T.C[k]).length:=by omega
   have huW:=(hu W gW)
   obtain⟨w,hw,hww⟩:=huW.2.at hj1
   have hw1:=hww W (.refl _)
   have huW1:=huW.1
   refine zS ?_
   refine V.run ?_
   have zf:=aI bW.2<|aI @hpk<|aI @huW1<|aI @hw<|@hw1
   refine VI.sz 8 ?_
   simp only[ds]
   refine VI.callA rfl (f25_ok (T.C[k])[j] 0 10000 _) zA (λV1 gv=>?_)
   refine VI.l0 ?_
   refine zS ?_
   refine V.condP zP (λc4=>?_) (λc4=>?_)
   ·refine zS ?_
    refine V.l0 ?_
    refine zS ?_
    refine V.ret (V.rets rfl (Or.inr ⟨by simp,V.rets rfl (Or.inr ⟨by simp,V.rets rfl (Lv.retG (by simp +contextual (disch:=first|omega|simp only[nx];omega) only[D1,cells_alloc_at,cells_alloc_ne,cells_set_at,cells_set_ne,yres,yres1,yresL,qA,qB,qC,D5,hF,hA,↓reduceIte,qD,qE];rfl) ?_ ?_)⟩)⟩))
    ·exact gW.trans gv
    ·rw[flt_1 hf (λhh=>by have:=(hh.2.2.1 _ (List.getElem_mem hlt')).2 _ (List.getElem_mem hj1);omega)]
   ·refine zS ?_
    refine V.l0 ?_
    refine V.nil (Or.inl ⟨rfl,cols T-(j+1),by omega,?_⟩)
    refine⟨j+1,by omega,rfl,rfl,(hgz.trans gw).trans gv,λv hv=>?_,zF,zK⟩
    rw[tk1 hj1] at hv
    rcases List.mem_append.1 hv with hv|hv
    ·exact hallJ v hv
    ·rw[List.mem_singleton.1 hv];omega
  ·obtain rfl : j=cols T:=by omega
   rw[List.take_of_length_le (by omega)] at hallJ
   refine V.exit ?_
   refine zX ?_
   refine V.nil (Or.inr ⟨by simp,?_⟩)
   refine zX ?_
   refine zS ?_
   refine V.l0 ?_
   refine V.nil (Or.inl ⟨rfl,T.C.length-(k+1),by omega,?_⟩)
   refine⟨k+1,hlt',rfl,rfl,((hg.trans gy).trans hgz).trans gw,λrow hr=>?_,zF,zK⟩
   rw[tk1 hlt'] at hr
   rcases List.mem_append.1 hr with hr|hr
   ·exact hall row hr
   ·rw[List.mem_singleton.1 hr];exact⟨hlen,hallJ⟩
 obtain rfl : k=T.C.length:=by omega
 rw[List.take_length] at hall
 refine V.exit ?_
 refine zX ?_
 refine V.nil (Or.inr ⟨by simp,?_⟩)
 refine zX ?_
 refine zS ?_
 refine V.l0 ?_
 refine zS ?_
 refine V.loop (λz t m Y=>∃ (k : Nat),k<=T.F.length/\z=T.F.length-k/\m=[]/\Grow X Y/\(∀ x∈T.F.take k,fixOk T x)/\Full 108 t/\Kn [(1,PT H.next),(6,I k)] t) T.F.length ?_ ?_
 ·exact⟨0,by omega,by omega,rfl,.refl _,by simp,zF,zK⟩
 clear hF hA
 rintro z t m Y ⟨k,hk,rfl,rfl,hgY,hallF,hF,hA⟩
 simp only[Kn,and_true] at hA
 have bY:=bX.grow hgY
 have gY:=gX.trans hgY
 refine zS ?_
 have zf:=aI bY.2<|@hlf
 refine V.lz ?_
 refine zS ?_
 refine V.condP zP (λhlt3=>?_) (λhlt3=>?_)
 ·have hlt' : k<T.F.length:=by omega
  obtain⟨p,hp,hx⟩:=h.fat hlt'
  have hx1:=hx Y gY
  refine zS ?_
  have zf:=aI bY.2<|aI @hp<|@hx1
  refine V.lz ?_
  refine V.heap (λZ=>Grow Y Z/\Bx Z Y.next (r3 T.F[k]) 76) ⟨?_,?_⟩ ?_
  ·exact zW
  ·exact zB
  rintro Z ⟨gz,bz⟩
  have bZ:=bY.grow gz
  have gZ:=gY.trans gz
  refine zS ?_
  refine V.draw ?_
  have zf:=aI bz.2<|aI bZ.2<|@hl
  refine VD.nz 6 ?_
  simp only[ds]
  refine VD.callA zA (f25_ok (T.F[k]).1 0 ((T.C.length : Int)-1) _) zA (λW gw=>?_)
  have bw:=bz.grow gw
  have bW:=bZ.grow gw
  have gW:=gZ.trans gw
  have zf:=aI bw.2<|bW.2
  refine VD.nz 5 ?_
  simp only[ds]
  first|refine VD.callGt zG (λhc=>zI) (λhc=>f44_ok (h.grow gW)) (λhc=>zI) (λV1 gv=>?_)|refine VD.callGf zG (λhc=>zI) (λhc=>f44_ok (h.grow gW)) (λhc=>zI) (λV1 gv=>?_)
  have bv:=bw.grow gv
  have gV:=gW.trans gv
  refine VD.n0 1 ?_
  simp only[ds]
  first|refine VD.callGt zG (λhc=>zI) (λhc=>f25_ok (T.F[k]).2.1 0 ((cols T : Int)-1) _) (λhc=>zI) (λV2 gv2=>?_)|refine VD.callGf zG (λhc=>zI) (λhc=>f25_ok (T.F[k]).2.1 0 ((cols T : Int)-1) _) (λhc=>zI) (λV2 gv2=>?_)
  have bv2:=bv.grow gv2
  have zf:=bv2.2
  refine VD.nz 5 ?_
  simp only[ds]
  first|refine VD.callGt zG (λhc=>zI) (λhc=>f25_ok (T.F[k]).2.2 0 10100 _) (λhc=>zI) (λV3 gv3=>?_)|refine VD.callGf zG (λhc=>zI) (λhc=>f25_ok (T.F[k]).2.2 0 10100 _) (λhc=>zI) (λV3 gv3=>?_)
  have m1:=gw.1
  have m2:=gv.1
  have m3:=gv2.1
  have m4:=gv3.1
  refine VD.d0 ?_ ?_ rfl ?_
  ·exact zM
  ·simp only[dcAll,dcOk,wantD,List.cons_append,List.nil_append,true_and,and_true]
   exact λhw q hq=>by simp only[wantD,D5,hF,hA,↓reduceIte,qD,qE,beq_iff_eq,decide_eq_false_iff_not,decide_eq_true_eq] at hw;simp only[List.mem_cons,List.not_mem_nil,or_false] at hq;(repeat (rcases hq with rfl|hq;exact⟨_,_,_,rfl,(by simp +contextual (disch:=first|omega|simp only[nx];omega) only[D4,qF,qG,qA,qB,qC,D5,hF,hA,↓reduceIte,qD,qE,if_true,not_false_eq_true,not_true_eq_false,hw,bz.2,bw.2,bv.2,bv2.2];with_reducible rfl),λp hp=>by cases hp;simp only[D5,hF,hA,↓reduceIte,qD,qE,hw,if_true,not_false_eq_true];first|exact vEq_An|(simp[vEq,vEq0,all2];done)|assumption⟩));(try (subst hq;exact⟨_,_,_,rfl,(by simp +contextual (disch:=first|omega|simp only[nx];omega) only[D4,qF,qG,qA,qB,qC,D5,hF,hA,↓reduceIte,qD,qE,if_true,not_false_eq_true,not_true_eq_false,hw,bz.2,bw.2,bv.2,bv2.2];with_reducible rfl),λp hp=>by cases hp;simp only[D5,hF,hA,↓reduceIte,qD,qE,hw,if_true,not_false_eq_true];first|exact vEq_An|(simp[vEq,vEq0,all2];done)|assumption⟩))
  refine zS ?_
  refine V.condP zP (λc5=>?_) (λc5=>?_)
  ·refine zS ?_
   refine V.l0 ?_
   refine zS ?_
   refine V.ret (V.rets rfl (Or.inr ⟨by simp,V.rets rfl (Lv.retG (by simp +contextual (disch:=first|omega|simp only[nx];omega) only[D1,cells_alloc_at,cells_alloc_ne,cells_set_at,cells_set_ne,yres,yres1,yresL,qA,qB,qC,D5,hF,hA,↓reduceIte,qD,qE];rfl) ?_ ?_)⟩))
   ·exact ((gV.trans gv2).trans gv3)
   ·rw[flt_1 hf (λhh=>by have:=hh.2.2.2 _ (List.getElem_mem hlt');unfold fixOk at this;omega)]
  ·refine zS ?_
   refine V.l0 ?_
   refine V.nil (Or.inl ⟨rfl,T.F.length-(k+1),by omega,?_⟩)
   refine⟨k+1,hlt',rfl,rfl,((((hgY.trans gz).trans gw).trans gv).trans gv2).trans gv3,λx hx=>?_,zF,zK⟩
   rw[tk1 hlt'] at hx
   rcases List.mem_append.1 hx with hx|hx
   ·exact hallF x hx
   ·rw[List.mem_singleton.1 hx];unfold fixOk;omega
 ·obtain rfl : k=T.F.length:=by omega
  rw[List.take_length] at hallF
  refine V.exit ?_
  refine zX ?_
  refine V.nil (Or.inr ⟨by simp,?_⟩)
  refine zX ?_
  refine zS ?_
  refine V.l0 ?_
  refine zS ?_
  refine V.ret (V.rets rfl (Lv.retG (by simp +contextual (disch:=first|omega|simp only[nx];omega) only[D1,cells_alloc_at,cells_alloc_ne,cells_set_at,cells_set_ne,yres,yres1,yresL,qA,qB,qC,D5,hF,hA,↓reduceIte,qD,qE];rfl) ?_ ?_))
  ·exact gY
  ·rw[flt_0.2 ⟨hf,hb,hcl,hall,hallF⟩]
theorem f23_ok {H : Heap} {c f : Value} {T : Tb} (h : TV H c f T) (hs : sh T) : Gives Try.prog 23 [.agg ⟨[I T.b,c,f]⟩] H (I (flt T)):=by
 refine F.entryL rfl dg23 do23 de23 rfl (by kernel_rfl) ?_
 simp only[sets]
 refine V.re [(0,.agg ⟨[I T.b,c,f]⟩)] (N:=5) zE zY ?_
 intro t hF hA
 simp only[Kn,and_true] at hA
 refine zS ?_
 refine V.l0 ?_
 refine V.heap (λX=>Grow H X/\Bx X H.next [I T.b,c,f] 25) ⟨?_,?_⟩ ?_
 ·exact zW
 ·exact zB
 rintro H1 ⟨g1,b1⟩
 refine zS ?_
 refine V.run ?_
 have zf:=b1.2
 refine VI.sz 1 ?_
 simp only[ds]
 refine VI.callA rfl (f52_ok (h.grow g1) hs) zA (λH2 g2=>?_)
 refine VI.l0 ?_
 refine zS ?_
 refine V.ret (V.rets rfl (Lv.retG (by simp +contextual (disch:=first|omega|simp only[nx];omega) only[D1,cells_alloc_at,cells_alloc_ne,cells_set_at,cells_set_ne,yres,yres1,yresL,qA,qB,qC,D5,hF,hA,↓reduceIte,qD,qE];rfl) ?_ ?_))
 ·exact g1.trans g2
 ·rfl
end Go.Xe.TRX
end
