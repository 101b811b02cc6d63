/- What the functions of the layer round come to: no rounding is better than the best one (RoundLeast). Conditions: none. -/
import Derived.Test.YtimnlnfpblomnaaTTK
import Derived.Test.YtimnlnfpblomnaaZl
import Derived.WideShapes
import Derived.ChangeSame
import Derived.Below
-- MOD TR
namespace Go.Xe.TRX
open Go Go.Xe Go.Proofs
open Nat renaming reduceLeDiff → qA, reduceSub → qB, reduceAdd → qC, reduceEqDiff → qD, reduceLT → qE
open Int renaming reduceNegSucc → qF, reduceEq → qG
open Go.Xe.V renaming seq → sA, block → sB, scope → sC, skip → sD, close → sE
open Go.Xe renaming pth → P
open Go.Xe.Rnd
set_option maxRecDepth 100000
set_option maxHeartbeats 1600000
set_option linter.unusedSimpArgs false
noncomputable def d42 : FCode:=(.seq (.run (.go (.box 25 (tm 0)) (P 2)::
.go (.move (.con (.slice none 0 0))) (P 4)::
[])) (.seq (.run (.go (.loadN 3 (tm 2)) (P 5)::
.go (.move (tm 1)) (P 6)::
.go (.conv .i64 (tm 6)) (P 7)::
.go (.call (.con (.func (.func 57) ⟨[]⟩ ⟨[]⟩)) [(tm 5),(tm 7)]) (P 8)::
.go (.move (tm 8)) (P 4)::
[])) .ret))
theorem de42 : @compF Try.prog (Gl.none Try.prog) Try.f42 2=.mk d42 (mkTT 9) [(P 0),(P 1)] [.tmp (P 4)]:=by kernel_rfl
theorem dg42 : Try.prog.funcs[42]?=some Try.f42:=Try.func42
theorem do42 : okF Try.prog Try.f42=true:=by kernel_rfl
noncomputable def d43 : FCode:=(.seq (.run (.go (.move (.con (.bool false))) (P 4)::
[])) (.seq (.seq (.run (.go (.move (.con (.int .i64 (.ofNat 0)))) (P 5)::
[])) (.block 0 (.loop (.seq (.seq (.run (.go (.move (tm 5)) (P 7)::
.go (.move (tm 0)) (P 8)::
.go (.len 0 (tm 8)) (P 9)::
.go (.bin .lss 3 (tm 7) (tm 9)) (P 10)::
[])) (.cond (tm 10) .skip (.exit 0))) (.seq (.block 1 (.seq (.run (.go (.move (.con (.int .i64 (.ofNat 0)))) (P 6)::
[])) (.block 2 (.loop (.seq (.seq (.run (.go (.move (tm 6)) (P 13)::
.go (.move (tm 0)) (P 14)::
.go (.move (tm 5)) (P 15)::
.go (.indexAddr none 1 (tm 14) (tm 15)) (P 16)::
.go (.load1 (tm 16)) (P 17)::
.go (.len 0 (tm 17)) (P 18)::
.go (.bin .lss 3 (tm 13) (tm 18)) (P 19)::
[])) (.cond (tm 19) .skip (.exit 2))) (.seq (.block 3 (.seq (.draw 15 (.go (.move (tm 0)) (P 22)::
.go (.move (tm 5)) (P 23)::
.go (.indexAddr none 1 (tm 22) (tm 23)) (P 24)::
.go (.load1 (tm 24)) (P 25)::
.go (.move (tm 6)) (P 26)::
.go (.indexAddr none 1 (tm 25) (tm 26)) (P 27)::
.go (.load1 (tm 27)) (P 28)::
.go (.move (tm 1)) (P 29)::
.go (.move (tm 5)) (P 30)::
.go (.indexAddr none 1 (tm 29) (tm 30)) (P 31)::
.go (.load1 (tm 31)) (P 32)::
.go (.move (tm 6)) (P 33)::
.go (.indexAddr none 1 (tm 32) (tm 33)) (P 34)::
.go (.load1 (tm 34)) (P 35)::
.go (.bin .neq 3 (tm 28) (tm 35)) (P 36)::
[]) [.ok,.ok,.ok,.ok,.ok,.ok,.ok,.ok,.ok,.ok,.ok,.ok,.ok,.ok,.ok]) (.cond (tm 36) (.seq (.draw 16 (.go (.move (tm 0)) (P 37)::
.go (.move (tm 5)) (P 38)::
.go (.indexAddr none 1 (tm 37) (tm 38)) (P 39)::
.go (.load1 (tm 39)) (P 40)::
.go (.move (tm 6)) (P 41)::
.go (.indexAddr none 1 (tm 40) (tm 41)) (P 42)::
.go (.load1 (tm 42)) (P 43)::
.go (.move (tm 1)) (P 44)::
.go (.move (tm 5)) (P 45)::
.go (.indexAddr none 1 (tm 44) (tm 45)) (P 46)::
.go (.load1 (tm 46)) (P 47)::
.go (.move (tm 6)) (P 48)::
.go (.indexAddr none 1 (tm 47) (tm 48)) (P 49)::
.go (.load1 (tm 49)) (P 50)::
.go (.bin .lss 3 (tm 43) (tm 50)) (P 51)::
.go (.move (tm 51)) (P 4)::
[]) [.ok,.ok,.ok,.ok,.ok,.ok,.ok,.ok,.ok,.ok,.ok,.ok,.ok,.ok,.ok,.ok]) .ret) .skip))) (.run (.go (.move (tm 6)) (P 20)::
.go (.bin .add 3 (tm 20) (.con (.int .i64 (.ofNat 1)))) (P 21)::
.go (.move (tm 21)) (P 6)::
[])))))))) (.run (.go (.move (tm 5)) (P 11)::
.go (.bin .add 3 (tm 11) (.con (.int .i64 (.ofNat 1)))) (P 12)::
.go (.move (tm 12)) (P 5)::
[]))))))) (.seq (.run (.go (.move (.con (.bool false))) (P 4)::
[])) .ret)))
theorem de43 : @compF Try.prog (Gl.none Try.prog) Try.f43 2=.mk d43 (mkTT 52) [(P 0),(P 1)] [.tmp (P 4)]:=by kernel_rfl
theorem dg43 : Try.prog.funcs[43]?=some Try.f43:=Try.func43
theorem do43 : okF Try.prog Try.f43=true:=by kernel_rfl
noncomputable def d8 : FCode:=(.seq (.run (.go (.box 25 (tm 0)) (P 2)::
.go (.move (.con (.bool false))) (P 4)::
[])) (.seq (.seq (.run (.go (.loadN 3 (tm 2)) (P 12)::
.go (.call (.con (.func (.func 41) ⟨[]⟩ ⟨[]⟩)) [tm 12]) (P 13)::
.go (.un .not (tm 13)) (P 14)::
[])) (.cond (tm 14) (.seq (.run (.go (.call (.con (.func (.func 17) ⟨[]⟩ ⟨[]⟩)) []) (P 15)::
.go (.move (tm 15)) (P 4)::
[])) .ret) .skip)) (.seq (.run (.go (.loadN 3 (tm 2)) (P 17)::
.go (.call (.con (.func (.func 19) ⟨[]⟩ ⟨[]⟩)) [tm 17]) (P 18)::
.go (.call (.con (.func (.func 29) ⟨[]⟩ ⟨[]⟩)) [tm 18]) (P 19)::
.go (.move (tm 19)) (P 16)::
.go (.extract (tm 16) 0) (P 20)::
.go (.extract (tm 16) 1) (P 21)::
.go (.extract (tm 16) 2) (P 22)::
.go (.move (tm 20)) (P 5)::
.go (.move (tm 21)) (P 6)::
.go (.move (tm 22)) (P 7)::
[])) (.seq (.run (.go (.loadN 3 (tm 2)) (P 23)::
.go (.move (tm 1)) (P 24)::
.go (.call (.con (.func (.func 42) ⟨[]⟩ ⟨[]⟩)) [(tm 23),(tm 24)]) (P 25)::
.go (.move (tm 25)) (P 8)::
[])) (.seq (.run (.go (.loadN 3 (tm 2)) (P 26)::
.go (.call (.con (.func (.func 19) ⟨[]⟩ ⟨[]⟩)) [tm 26]) (P 27)::
.go (.move (tm 8)) (P 28)::
.go (.call (.con (.func (.func 21) ⟨[]⟩ ⟨[]⟩)) [tm 28]) (P 29)::
.go (.call (.con (.func (.func 22) ⟨[]⟩ ⟨[]⟩)) [(tm 27),(tm 29),(.con (.int .i64 (.ofNat 1000000)))]) (P 30)::
.go (.move (tm 30)) (P 9)::
[])) (.seq (.seq (.run (.go (.move (tm 7)) (P 31)::
.go (.bin .neq 29 (tm 31) (.con (.int .i64 (.ofNat 0)))) (P 32)::
[])) (.cond (tm 32) (.seq (.run (.go (.move (tm 7)) (P 33)::
.go (.bin .eql 29 (tm 33) (.con (.int .i64 (.ofNat 9)))) (P 34)::
.go (.move (tm 34)) (P 35)::
.gd (P 35) true (.move (tm 9)) (P 36)::
.gd (P 35) true (.un .not (tm 36)) (P 37)::
.go (.pick (tm 35) (tm 37) (.con (.bool false))) (P 38)::
.go (.move (tm 38)) (P 39)::
.gd (P 39) true (.call (.con (.func (.func 17) ⟨[]⟩ ⟨[]⟩)) []) (P 40)::
.go (.pick (tm 39) (tm 40) (.con (.bool false))) (P 41)::
.go (.move (tm 41)) (P 4)::
[])) .ret) .skip)) (.seq (.seq (.run (.go (.move (tm 9)) (P 42)::
.go (.un .not (tm 42)) (P 43)::
[])) (.cond (tm 43) (.seq (.run (.go (.call (.con (.func (.func 17) ⟨[]⟩ ⟨[]⟩)) []) (P 44)::
.go (.move (tm 44)) (P 4)::
[])) .ret) .skip)) (.seq (.run (.go (.loadN 3 (tm 2)) (P 46)::
.go (.call (.con (.func (.func 19) ⟨[]⟩ ⟨[]⟩)) [tm 46]) (P 47)::
.go (.move (tm 8)) (P 48)::
.go (.call (.con (.func (.func 21) ⟨[]⟩ ⟨[]⟩)) [tm 48]) (P 49)::
.go (.call (.con (.func (.func 20) ⟨[]⟩ ⟨[]⟩)) [(tm 47),(tm 49)]) (P 50)::
.go (.move (tm 50)) (P 45)::
.go (.extract (tm 45) 0) (P 51)::
.go (.extract (tm 45) 1) (P 52)::
.go (.move (tm 51)) (P 10)::
.go (.move (tm 52)) (P 11)::
[])) (.seq (.run (.go (.move (tm 11)) (P 53)::
.go (.bin .eql 29 (tm 53) (.con (.int .i64 (.ofNat 0)))) (P 54)::
.go (.move (tm 54)) (P 55)::
.gd (P 55) true (.loadN 3 (tm 2)) (P 56)::
.gd (P 55) true (.move (tm 5)) (P 57)::
.gd (P 55) true (.call (.con (.func (.func 24) ⟨[]⟩ ⟨[]⟩)) [(tm 56),(tm 57)]) (P 58)::
.go (.pick (tm 55) (tm 58) (.con (.bool false))) (P 59)::
.go (.move (tm 59)) (P 60)::
.gd (P 60) true (.move (tm 10)) (P 61)::
.gd (P 60) true (.move (tm 6)) (P 62)::
.gd (P 60) true (.bin .gtr 3 (tm 61) (tm 62)) (P 63)::
.gd (P 60) true (.move (tm 63)) (P 64)::
.gd (P 64) false (.move (tm 10)) (P 65)::
.gd (P 64) false (.move (tm 6)) (P 66)::
.gd (P 64) false (.bin .eql 3 (tm 65) (tm 66)) (P 67)::
.gd (P 64) false (.move (tm 67)) (P 68)::
.gd (P 68) true (.move (tm 8)) (P 69)::
.gd (P 68) true (.move (tm 5)) (P 70)::
.gd (P 68) true (.call (.con (.func (.func 43) ⟨[]⟩ ⟨[]⟩)) [(tm 69),(tm 70)]) (P 71)::
.gd (P 68) true (.un .not (tm 71)) (P 72)::
.gd (P 64) false (.pick (tm 68) (tm 72) (.con (.bool false))) (P 73)::
.gd (P 60) true (.pick (tm 64) (.con (.bool true)) (tm 73)) (P 74)::
.go (.pick (tm 60) (tm 74) (.con (.bool false))) (P 75)::
.go (.move (tm 75)) (P 76)::
.gd (P 76) true (.call (.con (.func (.func 17) ⟨[]⟩ ⟨[]⟩)) []) (P 77)::
.go (.pick (tm 76) (tm 77) (.con (.bool false))) (P 78)::
.go (.move (tm 78)) (P 4)::
[])) .ret)))))))))
theorem de8 : @compF Try.prog (Gl.none Try.prog) Try.f8 2=.mk d8 (mkTT 79) [(P 0),(P 1)] [.tmp (P 4)]:=by kernel_rfl
theorem dg8 : Try.prog.funcs[8]?=some Try.f8:=Try.func8
theorem do8 : okF Try.prog Try.f8=true:=by kernel_rfl
theorem f42_ok {H : Heap} {c f : Value} {T : Tb} {q : Int} (h : TV H c f T) (hf : fits T) (hv : valid T) (hq : 0≤q∧q≤4294967295) : F Try.prog 42 ⟨[.agg ⟨[I T.b,c,f]⟩,.int .u32 q]⟩ H (fun w X=>Grow H X∧Nest RI X w (tabN T.b T.C q).1):=by
 obtain⟨pc,nc,cc,rfl⟩:=h.c.isS
 obtain⟨pf,nf,cf,rfl⟩:=h.f.isS
 refine F.entryL rfl dg42 do42 de42 rfl (by kernel_rfl) ?_
 simp only[sets]
 refine V.re [(0,.agg ⟨[I T.b,.slice pc nc cc,.slice pf nf cf]⟩),(1,.int .u32 q)] (N:=9) zE zY ?_
 intro t hF hA
 simp only[Kn,and_true] at hA
 refine zS ?_
 refine V.l0 ?_
 refine V.heap (fun X=>Grow H X∧Bx X H.next [I T.b,.slice pc nc cc,.slice pf nf cf] 25) ⟨?_,?_⟩ ?_
 ·exact zW
 ·exact zB
 rintro H1 ⟨g1,b1⟩
 refine zS ?_
 refine V.run ?_
 have zf:=b1.2
 refine VI.sz 3 ?_
 simp only[ds]
 refine VI.callR zA (f57_ok (q0:=q) (h.grow g1) hf hv (by omega)) zA (fun w H2 ⟨g2,hw⟩=>?_)
 refine VI.l0 ?_
 refine zS ?_
 refine V.ret (V.rets rfl (Lv.retF (by simp +contextual (disch:=first|omega|simp only[nx];omega) only[D1,cells_alloc_at,cells_alloc_ne,cells_set_at,cells_set_ne,yres,yres1,yresL,qA,qB,qC,D5,hF,hA,↓reduceIte,qD,qE];rfl) ?_))
 exact⟨g1.trans g2,hw⟩
theorem lx_at : ∀ {i : Nat} {a b : List Int} (h1 : i<a.length) (h2 : i<b.length),a.take i=b.take i→a[i]≠b[i]→(lx a b↔a[i]<b[i])
 | _,[],_,h1,_,_,_=>absurd h1 (Nat.not_lt_zero _)
 | _,_::_,[],_,h2,_,_=>absurd h2 (Nat.not_lt_zero _)
 | 0,x::a,y::b,_,_,_,hne=>by
  show x<y∨(x=y∧lx a b)↔x<y
  have hne' : x≠y:=hne
  constructor
  ·rintro (h|⟨h,_⟩)
   ·exact h
   ·exact absurd h hne'
  ·exact .inl
 | i+1,x::a,y::b,h1,h2,ht,hne=>by
  rw[List.take_succ_cons,List.take_succ_cons,List.cons.injEq] at ht
  obtain⟨rfl,ht⟩:=ht
  have k1 : i<a.length:=by simpa using h1
  have k2 : i<b.length:=by simpa using h2
  have:=lx_at (i:=i) (a:=a) (b:=b) k1 k2 ht hne
  show x<x∨(x=x∧lx a b)↔a[i]<b[i]
  rw[← this]
  constructor
  ·rintro (h|h)
   ·omega
   ·exact h.2
  ·exact fun h=>.inr ⟨rfl,h⟩
theorem Bf_at : ∀ {i : Nat} {a b : List (List Int)} (h1 : i<a.length) (h2 : i<b.length),a.take i=b.take i→a[i]≠b[i]→(Bf a b↔lx a[i] b[i])
 | _,[],_,h1,_,_,_=>absurd h1 (Nat.not_lt_zero _)
 | _,_::_,[],_,h2,_,_=>absurd h2 (Nat.not_lt_zero _)
 | 0,x::a,y::b,_,_,_,hne=>by
  show lx x y∨(x=y∧Bf a b)↔lx x y
  have hne' : x≠y:=hne
  constructor
  ·rintro (h|⟨h,_⟩)
   ·exact h
   ·exact absurd h hne'
  ·exact .inl
 | i+1,x::a,y::b,h1,h2,ht,hne=>by
  rw[List.take_succ_cons,List.take_succ_cons,List.cons.injEq] at ht
  obtain⟨rfl,ht⟩:=ht
  have k1 : i<a.length:=by simpa using h1
  have k2 : i<b.length:=by simpa using h2
  have:=Bf_at (i:=i) (a:=a) (b:=b) k1 k2 ht hne
  show lx x x∨(x=x∧Bf a b)↔lx a[i] b[i]
  rw[← this]
  constructor
  ·rintro (h|h)
   ·exact absurd h (lx_irr _)
   ·exact h.2
  ·exact fun h=>.inr ⟨rfl,h⟩
theorem Bf_irr (a : List (List Int)) : ¬ Bf a a:=fun h=>Bf_ne h h
open Classical in
theorem f43_ok {H : Heap} {x y : Value} {A B : List (List Int)} (hx : Nest RI H x A) (hy : Nest RI H y B) (hl : A.length=B.length) (hr : ∀ k (h1 : k<A.length) (h2 : k<B.length),(A[k]).length=(B[k]).length) (n1 : A.length≤1048576) (n2 : ∀ r∈A,r.length≤1048576) : Gives Try.prog 43 [x,y] H (.bool (decide (Bf A B))):=by
 have hln : ∀ X,ylen 0 X x=some (I A.length):=hx.len
 refine F.entryL rfl dg43 do43 de43 rfl (by kernel_rfl) ?_
 simp only[sets]
 refine V.re [(0,x),(1,y)] (N:=52) zE zY ?_
 intro t hF hA
 simp only[Kn,and_true] at hA
 refine zS ?_
 refine V.l0 ?_
 refine zS ?_
 refine V.l0 ?_
 refine zS ?_
 refine V.loop (fun z t m X=>∃ (k : Nat),k≤A.length∧z=A.length-k∧m=[]∧X=H∧A.take k=B.take k∧Full 52 t∧Kn [(0,x),(1,y),(5,I k)] t) A.length ?_ ?_
 ·exact⟨0,by omega,by omega,rfl,rfl,rfl,zF,zK⟩
 clear hF hA
 rintro z t m X ⟨k,hk,rfl,rfl,hX,ht,hF,hA⟩
 obtain rfl : H=X:=hX.symm
 simp only[Kn,and_true] at hA
 refine zS ?_
 have zf:=@hln
 refine V.lz ?_
 refine zS ?_
 refine V.condP zP (fun hlt=>?_) (fun hlt=>?_)
 ·have hlt' : k<A.length:=by omega
  have hltb : k<B.length:=by omega
  obtain⟨p,u,hp,hu⟩:=hx.at ri hlt'
  obtain⟨hu1,hu2⟩:=hu H (.refl _)
  have hpk:=hp .i64
  have hul:=hu2.len
  obtain⟨p',u',hp',hu'⟩:=hy.at ri hltb
  obtain⟨hu1',hu2'⟩:=hu' H (.refl _)
  have hpk':=hp' .i64
  have hll:=hr k hlt' hltb
  have hn2:=n2 _ (List.getElem_mem hlt')
  refine zS ?_
  refine V.l0 ?_
  refine zS ?_
  refine V.loop (fun z t m X=>∃ (j : Nat),j≤(A[k]).length∧z=(A[k]).length-j∧m=[]∧X=H∧(A[k]).take j=(B[k]).take j∧Full 52 t∧Kn [(0,x),(1,y),(5,I k),(6,I j)] t) (A[k]).length ?_ ?_
  ·exact⟨0,by omega,by omega,rfl,rfl,rfl,zF,zK⟩
  clear hF hA
  rintro z t m X ⟨j,hj,rfl,rfl,hX,htj,hF,hA⟩
  obtain rfl : H=X:=hX.symm
  simp only[Kn,and_true] at hA
  refine zS ?_
  have zf:=And.intro @hpk<|And.intro @hu1<|@hul
  refine V.lz ?_
  refine zS ?_
  refine V.condP zP (fun hltj=>?_) (fun hltj=>?_)
  ·have hj1 : j<(A[k]).length:=by omega
   have hj2 : j<(B[k]).length:=by omega
   obtain⟨w,hw,hww⟩:=hu2.at hj1
   have hw1:=hww H (.refl _)
   obtain⟨w',hw',hww'⟩:=hu2'.at hj2
   have hw1':=hww' H (.refl _)
   refine zS ?_
   have zf:=And.intro @hpk<|And.intro @hu1<|And.intro @hw<|And.intro @hw1<|And.intro @hpk'<|And.intro @hu1'<|And.intro @hw'<|@hw1'
   refine V.dz ?_ ?_ rfl ?_
   ·exact zM
   ·simp only[dcAll,dcOk,wantD,List.cons_append,List.nil_append,true_and,and_true]
   refine zS ?_
   refine V.condP zP (fun hne=>?_) (fun hne=>?_)
   ·refine zS ?_
    have zf:=And.intro @hpk<|And.intro @hu1<|And.intro @hw<|And.intro @hw1<|And.intro @hpk'<|And.intro @hu1'<|And.intro @hw'<|@hw1'
    refine V.dz ?_ ?_ rfl ?_
    ·exact zM
    ·simp only[dcAll,dcOk,wantD,List.cons_append,List.nil_append,true_and,and_true]
    refine zS ?_
    refine V.ret (V.rets rfl (Or.inr ⟨by simp,V.rets rfl (Or.inr ⟨by simp,V.rets rfl (Lv.retG (by simp +contextual (disch:=first|omega|simp only[nx];omega) only[D1,cells_alloc_at,cells_alloc_ne,cells_set_at,cells_set_ne,yres,yres1,yresL,qA,qB,qC,D5,hF,hA,↓reduceIte,qD,qE];rfl) ?_ ?_)⟩)⟩))
    ·exact .refl _
    ·have e1:=lx_at hj1 hj2 htj hne
     have e2:=Bf_at hlt' hltb ht (fun e=>hne (by simp only[e]))
     exact congrArg _ (decide_eq_decide.2 (e1.symm.trans e2.symm))
   ·refine zS ?_
    refine V.l0 ?_
    refine V.nil (Or.inl ⟨rfl,(A[k]).length-(j+1),by omega,?_⟩)
    refine⟨j+1,hj1,rfl,rfl,rfl,?_,zF,zK⟩
    rw[tk1 hj1,tk1 hj2,htj,Decidable.not_not.1 hne]
  ·obtain rfl : j=(A[k]).length:=by omega
   refine V.exit ?_
   refine zX ?_
   refine V.nil (Or.inr ⟨by simp,?_⟩)
   refine zX ?_
   refine zS ?_
   refine V.l0 ?_
   refine V.nil (Or.inl ⟨rfl,A.length-(k+1),by omega,?_⟩)
   refine⟨k+1,hlt',rfl,rfl,rfl,?_,zF,zK⟩
   rw[tk1n hlt',tk1n hltb,ht]
   congr 2
   rw[List.take_length,hll,List.take_length] at htj
   exact htj
 ·obtain rfl : k=A.length:=by omega
  refine V.exit ?_
  refine zX ?_
  refine V.nil (Or.inr ⟨by simp,?_⟩)
  refine zX ?_
  refine zS ?_
  refine V.l0 ?_
  refine zS ?_
  refine V.ret (V.rets rfl (Lv.retG (by simp +contextual (disch:=first|omega|simp only[nx];omega) only[D1,cells_alloc_at,cells_alloc_ne,cells_set_at,cells_set_ne,yres,yres1,yresL,qA,qB,qC,D5,hF,hA,↓reduceIte,qD,qE];rfl) ?_ ?_))
  ·exact .refl _
  ·rw[hl,List.take_length,← hl,List.take_length] at ht
   subst ht
   exact congrArg _ (decide_eq_false (Bf_irr _)).symm
theorem best_least {T : Tb} (hv : valid T) {N : List (List Int)} (h : N∈rnds T) : (best T).c≤chg T.C N∧((best T).c=chg T.C N→¬ Bf N (best T).b):=by
 have h0 : rnds T≠[]:=by rintro e;rw[e] at h;simp at h
 obtain⟨A,B,h1,h2,h3,h4⟩:=rsf_spec (chg T.C) (rnds T) h0
 refine⟨rsf_le h,fun he hb=>?_⟩
 have hs : (rnds T).Pairwise Bf:=fol_sort hv
 have h':=h
 rw[h1] at h hs
 rcases List.mem_append.1 h with h|h
 ·have:=h3 N h
  unfold best at he
  omega
 ·rcases List.mem_cons.1 h with e|h
  ·rw[e] at hb
   exact Bf_irr _ hb
  ·exact Bf_ne hb ((List.pairwise_cons.1 (List.pairwise_append.1 hs).2.1).1 N h)
theorem prv_iff {T : Tb} (hf : fits T) (hv : valid T) {N : List (List Int)} {q : Int} (hq : 400000≤q) : prv T N q↔N∈rnds T:=by
 have hfl:=flt_0.2 ⟨hf,hv⟩
 constructor
 ·rintro⟨h1,_,h3⟩
  have hc:=(ce_0.1 h1).2.2
  exact rnds_mem.2 ⟨⟨hc.1,fun row hr=>(hc.2 row hr).1⟩,h3⟩
 ·intro h
  obtain⟨h1,h2⟩:=rnds_can hv h
  have h3:=fco_bd hf hv (k:=T.C.length) (Nat.le_refl _) h
  have e : fco T T.C.length N=chg T.C N:=by unfold fco;rw[Nat.sub_self,List.drop_zero]
  rw[e] at h3
  exact⟨ce_0.2 ⟨hf,hv,h1⟩,by omega,h2⟩
theorem tabN_row (b : Int) : ∀ (C : List (List Int)) (q : Int) (k : Nat) (h1 : k<(tabN b C q).1.length) (h2 : k<C.length),((tabN b C q).1[k]).length=(C[k]).length
 | [],_,k,_,h2=>absurd h2 (Nat.not_lt_zero _)
 | row::C,q,0,_,_=>rowN_len b row _
 | row::C,q,k+1,h1,h2=>by
  have k2 : k<C.length:=by simpa using h2
  have k1 : k<(tabN b C q).1.length:=by rw[tabN_len];exact k2
  exact tabN_row b C q k k1 k2
open Classical in
theorem f8_ok {H : Heap} {c f : Value} {T : Tb} {q : Int} (h : TV H c f T) (hq : 0≤q∧q≤4294967295) : F Try.prog 8 ⟨[.agg ⟨[I T.b,c,f]⟩,.int .u32 q]⟩ H (fun w _=>w=.bool true):=by
 refine F.entryL rfl dg8 do8 de8 rfl (by kernel_rfl) ?_
 simp only[sets]
 refine V.re [(0,.agg ⟨[I T.b,c,f]⟩),(1,.int .u32 q)] (N:=79) zE zY ?_
 intro t hF hA
 simp only[Kn,and_true] at hA
 refine zS ?_
 refine V.l0 ?_
 refine V.heap (fun X=>Grow H X∧Bx X H.next [I T.b,c,f] 25) ⟨?_,?_⟩ ?_
 ·exact zW
 ·exact zB
 rintro H1 ⟨g1,b1⟩
 refine zS ?_
 refine V.run ?_
 have zf:=b1.2
 refine VI.sz 1 ?_
 simp only[ds]
 refine VI.callA rfl (f41_ok (h.grow g1)) zA (fun H2 g2=>?_)
 have b2:=b1.grow g2
 have g12:=g1.trans g2
 refine VI.l0 ?_
 refine zS ?_
 refine V.condP zP (fun hs=>?_) (fun hs=>?_)
 ·refine zS ?_
  refine V.run ?_
  refine VI.callA rfl (f17_ok _) zA (fun H3 g3=>?_)
  refine VI.l0 ?_
  refine zS ?_
  refine V.ret (V.rets rfl (Lv.retF (by simp +contextual (disch:=first|omega|simp only[nx];omega) only[D1,cells_alloc_at,cells_alloc_ne,cells_set_at,cells_set_ne,yres,yres1,yresL,qA,qB,qC,D5,hF,hA,↓reduceIte,qD,qE];rfl) ?_))
  rfl
 have hs' : snd T:=Decidable.not_not.1 (by simpa using hs)
 obtain⟨hth,hfl⟩:=hs'
 obtain⟨hf,hv⟩:=flt_0.1 hfl
 have hsh:=thin_sh hth
 refine zS ?_
 refine V.run ?_
 have zf:=b2.2
 refine VI.sz 1 ?_
 simp only[ds]
 refine VI.callR zA (f19_ok (h.grow g12) hsh) zA (fun w3 H3 ⟨g3,c',f',hw3,tv3⟩=>?_)
 subst hw3
 refine VI.callR zA (f29_ok tv3 hsh) zA (fun w4 H4 ⟨g4,u,n,e,hw4,hb4⟩=>?_)
 subst hw4
 have g24:=g3.trans g4
 have g14:=g12.trans g24
 have b4:=b2.grow g24
 obtain⟨pu,nu,cu,rfl⟩ : ∃ a b c,u=.slice a b c:=by
  rcases hb4 with⟨_,rfl,_⟩|⟨_,_,rfl,_⟩|⟨_,_,_,_,hu⟩
  ·exact⟨_,_,_,rfl⟩
  ·exact⟨_,_,_,rfl⟩
  ·exact hu.isS
 refine VI.l0 ?_
 refine zS ?_
 refine V.run ?_
 have zf:=b4.2
 refine VI.sz 2 ?_
 simp only[ds]
 refine VI.callR zA (f42_ok (h.grow g14) hf hv hq) zA (fun w5 H5 ⟨g5,nx5⟩=>?_)
 obtain⟨N,hN⟩ : ∃ N,N=(tabN T.b T.C q).1:=⟨_,rfl⟩
 rw[← hN] at nx5
 have hNl : N.length=T.C.length:=by rw[hN];exact tabN_len _ _ _
 have hNr : ∀ row∈N,row.length≤4:=by
  intro row hr
  obtain⟨k,hk,rfl⟩:=List.mem_iff_getElem.1 hr
  have hk2 : k<T.C.length:=by omega
  have:=tabN_row T.b T.C q k (by rw[← hN];exact hk) hk2
  have h4:=hf.2.2 _ (List.getElem_mem hk2)
  subst hN
  omega
 have h5:=hf.1
 have b5:=b4.grow g5
 have g15:=g14.trans g5
 obtain⟨px,nx',cx,rfl⟩:=nx5.isS
 refine VI.l0 ?_
 refine zS ?_
 refine V.run ?_
 have zf:=b5.2
 refine VI.sz 1 ?_
 simp only[ds]
 refine VI.callR zA (f19_ok (h.grow g15) hsh) zA (fun w6 H6 ⟨g6,c6,f6,hw6,tv6⟩=>?_)
 subst hw6
 refine VI.s0 1 ?_
 simp only[ds]
 refine VI.callR zA (f21_ok (nx5.grow ri g6) (by omega) (fun r hr=>by have:=hNr r hr;omega)) zA (fun w7 H7 ⟨g7,on7⟩=>?_)
 have ny7 : Nest RI H7 w7 N:=on7.nest.weak (fun _ _ hh=>hh.1)
 refine VI.callA rfl (f22_ok 1000000 (tv6.grow g7) hsh ny7 (by omega) (fun r hr=>by have:=hNr r hr;omega)) zA (fun H8 g8=>?_)
 have ep : decide (prv T N 1000000)=decide (N∈rnds T):=decide_eq_decide.2 (prv_iff hf hv (by decide))
 rw[ep]
 have g58:=(g6.trans g7).trans g8
 have b8:=b5.grow g58
 have g18:=g15.trans g58
 have nx8:=nx5.grow ri g58
 refine VI.l0 ?_
 refine zS ?_
 rcases hb4 with⟨h0,_⟩|⟨_,hr0,_,rfl,rfl⟩|⟨_,hr0,rfl,rfl,hu⟩
 ·exact absurd hfl h0
 ·have hno : ¬ N∈rnds T:=by rw[hr0];simp
  rw[decide_eq_false hno]
  refine V.l0 ?_
  refine zS ?_
  refine V.condT zA ?_
  refine zS ?_
  refine V.run ?_
  refine VI.s0 7 ?_
  simp only[ds]
  refine VI.callAT zG rfl (f17_ok _) zA (fun H9 g9=>?_)
  refine VI.l0 ?_
  refine zS ?_
  refine V.ret (V.rets rfl (Lv.retF (by simp +contextual (disch:=first|omega|simp only[nx];omega) only[D1,cells_alloc_at,cells_alloc_ne,cells_set_at,cells_set_ne,yres,yres1,yresL,qA,qB,qC,D5,hF,hA,↓reduceIte,qD,qE];rfl) ?_))
  rfl
 ·have hu8:=hu.growS ((g5.trans g58).s (U:=fun _=>False)) (fun _ hh=>hh.elim) (fun _=>id)
  have hm:=best_mem hr0
  have hcb:=(rnds_can hv hm).1
  have nb8:=hu8.nest
  refine V.l0 ?_
  refine zS ?_
  refine V.condF zA ?_
  refine zS ?_
  by_cases hin : N∈rnds T
  ·rw[decide_eq_true hin]
   have hcan:=(rnds_can hv hin).1
   obtain⟨l1,l2⟩:=best_least hv hin
   have bdb:=best_bd hfl
   have hce : ce T N=0:=ce_0.2 ⟨hf,hv,hcan⟩
   have hfco:=fco_bd hf hv (k:=T.C.length) (Nat.le_refl _) hin
   have efc : fco T T.C.length N=chg T.C N:=by unfold fco;rw[Nat.sub_self,List.drop_zero]
   rw[efc] at hfco
   refine V.l0 ?_
   refine zS ?_
   refine V.condF zA ?_
   refine zS ?_
   refine V.run ?_
   have zf:=b8.2
   refine VI.sz 1 ?_
   simp only[ds]
   refine VI.callR zA (f19_ok (h.grow g18) hsh) zA (fun w9 H9 ⟨g9,c9,f9,hw9,tv9⟩=>?_)
   subst hw9
   refine VI.s0 1 ?_
   simp only[ds]
   refine VI.callR zA (f21_ok (nx8.grow ri g9) (by omega) (fun r hr=>by have:=hNr r hr;omega)) zA (fun w10 H10 ⟨g10,on10⟩=>?_)
   have ny10 : Nest RI H10 w10 N:=on10.nest.weak (fun _ _ hh=>hh.1)
   refine VI.callA rfl (f20_ok (tv9.grow g10) hsh ny10 (by omega) (fun r hr=>by have:=hNr r hr;omega)) zA (fun H11 g11=>?_)
   rw[if_pos hce,hce]
   have g8b:=(g9.trans g10).trans g11
   have b11:=b8.grow g8b
   have nx11:=nx8.grow ri g8b
   have nb11:=nb8.grow ri g8b
   have g1b:=g18.trans g8b
   refine VI.l0 ?_
   refine zS ?_
   refine V.run ?_
   have hal : decide ((∀ row∈(best T).b,row.length=cols T)∧(best T).b.length=T.C.length)=true:=decide_eq_true ⟨fun row hr=>(hcb.2 row hr).1,hcb.1⟩
   have hf24:=f24_ok (h.grow g1b) nb11 (by have:=hcb.1;omega)
   rw[hal] at hf24
   have zf:=b11.2
   refine VI.sz 5 ?_
   simp only[ds]
   refine VI.callAT zG rfl (hf24) zA (fun H12 g12'=>?_)
   have nx12:=nx11.grow ri g12'
   have nb12:=nb11.grow ri g12'
   by_cases hlt : (best T).c<chg T.C N
   ·have zf:=@hlt
    refine VI.sz 9 ?_
    simp only[ds]
    refine VI.s0 3 ?_
    simp only[ds]
    refine VI.gdN zG ?_
    refine VI.s0 5 ?_
    simp only[ds]
    refine VI.callAT zG rfl (f17_ok _) zA (fun H13 g13=>?_)
    refine VI.l0 ?_
    refine zS ?_
    refine V.ret (V.rets rfl (Lv.retF (by simp +contextual (disch:=first|omega|simp only[nx];omega) only[D1,cells_alloc_at,cells_alloc_ne,cells_set_at,cells_set_ne,yres,yres1,yresL,qA,qB,qC,D5,hF,hA,↓reduceIte,qD,qE];rfl) ?_))
    rfl
   ·have heq : chg T.C N=(best T).c:=by omega
    have hnb:=l2 heq.symm
    have hf43:=f43_ok nx12 nb12 (by rw[hNl,hcb.1]) (fun k k1 k2=>by
     have a1:=(hcb.2 _ (List.getElem_mem k2)).1
     have k3 : k<T.C.length:=by omega
     have a2:=tabN_row T.b T.C q k (by rw[← hN];exact k1) k3
     have a3:=(hv.2.2.1 _ (List.getElem_mem k3)).1
     subst hN
     omega) (by omega) (fun r hr=>by have:=hNr r hr;omega)
    rw[decide_eq_false hnb] at hf43
    have hll : ((best T).c<(best T).c)=False:=by simp
    have zf:=And.intro @heq<|@hll
    refine VI.sz 9 ?_
    simp only[ds]
    refine VI.s0 3 ?_
    simp only[ds]
    refine VI.callAT zG rfl (hf43) zA (fun H13 g13=>?_)
    refine VI.s0 5 ?_
    simp only[ds]
    refine VI.callAT zG rfl (f17_ok _) zA (fun H14 g14=>?_)
    refine VI.l0 ?_
    refine zS ?_
    refine V.ret (V.rets rfl (Lv.retF (by simp +contextual (disch:=first|omega|simp only[nx];omega) only[D1,cells_alloc_at,cells_alloc_ne,cells_set_at,cells_set_ne,yres,yres1,yresL,qA,qB,qC,D5,hF,hA,↓reduceIte,qD,qE];rfl) ?_))
    rfl
  ·rw[decide_eq_false hin]
   refine V.l0 ?_
   refine zS ?_
   refine V.condT zA ?_
   refine zS ?_
   refine V.run ?_
   refine VI.callA rfl (f17_ok _) zA (fun H9 g9=>?_)
   refine VI.l0 ?_
   refine zS ?_
   refine V.ret (V.rets rfl (Lv.retF (by simp +contextual (disch:=first|omega|simp only[nx];omega) only[D1,cells_alloc_at,cells_alloc_ne,cells_set_at,cells_set_ne,yres,yres1,yresL,qA,qB,qC,D5,hF,hA,↓reduceIte,qD,qE];rfl) ?_))
   rfl
end Go.Xe.TRX
/- Rules of reasoning over the executable reading of the model's code (part Z16): arguments, by what their types allow. Conditions: none; for every program. -/
namespace Go.Xe
open Go Go.RowKit Go.ChangeShapes Go.WideShapes
theorem okWide_agg {P : Program} {w : World} {r : Reach} {base : Nat} {t : TypeId} {v : Value} {fs : Array Field} (ht : P.underlying t=some (.struct fs)) (h : Value.okWide P w r base t v) : ∃ cs,v=.agg cs:=by
 unfold Value.okWide at h
 rw[ht] at h
 obtain⟨cs,h,_⟩:=h
 exact⟨cs,h⟩
end Go.Xe
/- The end of a call that has changed nothing of what was there: what a statement asks of the memory behind it. Conditions: as post_of_same's, but that new memory may be frozen. -/
namespace Go.Xe
open Go Go.RowKit Go.ChangeShapes Go.WideShapes
variable {H : Type} {enc : TypeId×Value→H} {P : Program}
theorem post_of_old {f : Func} {s : ChangeSpec} {apart fresh handsOn again : Bool} {W W' : World} {args : Array Value} {v : Value} {ds gs : List (DataW H)} {before pa pv : List MemPlace}
  (hW : DataW.Whole enc P f.params.toList s.vars apart W args.toList ds gs before)
  (hres : ∀ (b : Nat) (sp : Nat→Bool) (hd : Bool),DataW.TrodAll enc P W' b sp hd f.resultTypes.toList (v.resultList f.resultTypes.size) (s.fn H (ds++gs)).results [])
  (hargs : ∀ sp : Nat→Bool,(∀ p∈before,sp p.block=true)→DataW.TrodAll enc P W' 0 sp true f.params.toList args.toList (s.fn H (ds++gs)).args pa)
  (hvars : ∀ sp : Nat→Bool,(∀ p∈before,sp p.block=true)→DataW.TrodVars enc P W' sp s.vars (s.fn H (ds++gs)).vars pv)
  (hps : before=pa++pv) (hk : W.keptBut W' (·∈before)) (hfz : ∀ a : Addr,a.block<W.heap.size→W'.frozen? a=W.frozen? a)
  (hok : ∀ (j : Nat) (t : TypeId) (r : Value),f.resultTypes[j]?=some t→(v.resultList f.resultTypes.size)[j]?=some r→Value.okWide P W' .any 0 t r) :
  s.post enc P f apart fresh handsOn again W args v W':=by
 have old : ∀ p∈before,p.block<W.heap.size:=fun p hp=>hW.lt p hp
 have hold : ∀ p∈before,(fun b=>decide (b<W.heap.size)) p.block=true:=fun p hp=>by simpa using old p hp
 subst hps
 refine⟨ds,gs,_,[],pa,pv,hW,hres _ _ _,hargs _ hold,hvars _ hold,World.keptBut_mono (fun p hp=>⟨hp,.inr (List.mem_append.1 hp)⟩) hk,fun _=>?_⟩
 obtain⟨_,_,_,_,_,hz,hn⟩:=hW
 refine⟨hok,_,_,([]++pa)++pv,⟨[]++pa,pv,trodAll_append (hargs _ (fun _ _=>rfl)) (hres _ _ _),hvars _ (fun _ _=>rfl),rfl,?_,?_⟩,?_⟩
 ·intro b off hp
  have hp' : MemPlace.cell b off∈pa++pv:=by simpa using hp
  rw[hfz _ (old _ hp')]
  exact hz b off hp'
 ·intro ha
  simpa using hn ha
 ·intro p hp _
  simpa using hp
end Go.Xe
