/- What the functions of the layer round come to: the best rounding adds up (RoundAdds). Conditions: none. -/
import Derived.Test.YtimnlnfpblomnaaTTN
import Derived.Test.YtimnlnfpblomnaaZl
import Derived.WideShapes
import Derived.ChangeSame
import Derived.Below
-- MOD TR
namespace Go.Xe.TRX
open Go Go.Xe Go.Proofs
open Nat renaming reduceLeDiff → qA, reduceSub → qB, reduceAdd → qC, reduceEqDiff → qD, reduceLT → qE
open Int renaming reduceNegSucc → qF, reduceEq → qG
open Go.Xe.V renaming seq → sA, block → sB, scope → sC, skip → sD, close → sE
open Go.Xe renaming pth → P
open Go.Xe.Rnd
set_option maxRecDepth 100000
set_option maxHeartbeats 1600000
set_option linter.unusedSimpArgs false
noncomputable def d7 : FCode:=(.seq (.run (.go (.box 25 (tm 0)) (P 1)::
.go (.move (.con (.bool false))) (P 2)::
[])) (.seq (.seq (.run (.go (.loadN 3 (tm 1)) (P 8)::
.go (.call (.con (.func (.func 41) ⟨[]⟩ ⟨[]⟩)) [tm 8]) (P 9)::
.go (.un .not (tm 9)) (P 10)::
[])) (.cond (tm 10) (.seq (.run (.go (.call (.con (.func (.func 17) ⟨[]⟩ ⟨[]⟩)) []) (P 11)::
.go (.move (tm 11)) (P 2)::
[])) .ret) .skip)) (.seq (.run (.go (.loadN 3 (tm 1)) (P 13)::
.go (.call (.con (.func (.func 19) ⟨[]⟩ ⟨[]⟩)) [tm 13]) (P 14)::
.go (.call (.con (.func (.func 29) ⟨[]⟩ ⟨[]⟩)) [tm 14]) (P 15)::
.go (.move (tm 15)) (P 12)::
.go (.extract (tm 12) 0) (P 16)::
.go (.extract (tm 12) 1) (P 17)::
.go (.extract (tm 12) 2) (P 18)::
.go (.move (tm 16)) (P 3)::
.go (.move (tm 17)) (P 4)::
.go (.move (tm 18)) (P 5)::
[])) (.seq (.seq (.run (.go (.move (tm 5)) (P 19)::
.go (.bin .neq 29 (tm 19) (.con (.int .i64 (.ofNat 0)))) (P 20)::
[])) (.cond (tm 20) (.seq (.run (.go (.move (tm 5)) (P 21)::
.go (.bin .eql 29 (tm 21) (.con (.int .i64 (.ofNat 9)))) (P 22)::
.go (.move (tm 22)) (P 23)::
.gd (P 23) true (.fieldAddr 2 (tm 1)) (P 24)::
.gd (P 23) true (.load1 (tm 24)) (P 25)::
.gd (P 23) true (.len 0 (tm 25)) (P 26)::
.gd (P 23) true (.bin .gtr 3 (tm 26) (.con (.int .i64 (.ofNat 0)))) (P 27)::
.go (.pick (tm 23) (tm 27) (.con (.bool false))) (P 28)::
.go (.move (tm 28)) (P 29)::
.gd (P 29) true (.call (.con (.func (.func 17) ⟨[]⟩ ⟨[]⟩)) []) (P 30)::
.go (.pick (tm 29) (tm 30) (.con (.bool false))) (P 31)::
.go (.move (tm 31)) (P 2)::
[])) .ret) .skip)) (.seq (.seq (.run (.go (.loadN 3 (tm 1)) (P 32)::
.go (.move (tm 3)) (P 33)::
.go (.call (.con (.func (.func 24) ⟨[]⟩ ⟨[]⟩)) [(tm 32),(tm 33)]) (P 34)::
.go (.un .not (tm 34)) (P 35)::
[])) (.cond (tm 35) (.seq (.run (.go (.move (.con (.bool false))) (P 2)::
[])) .ret) .skip)) (.seq (.seq (.run (.go (.move (.con (.int .i64 (.ofNat 0)))) (P 6)::
[])) (.block 0 (.loop (.seq (.seq (.run (.go (.move (tm 6)) (P 36)::
.go (.move (tm 3)) (P 37)::
.go (.len 0 (tm 37)) (P 38)::
.go (.bin .lss 3 (tm 36) (tm 38)) (P 39)::
[])) (.cond (tm 39) .skip (.exit 0))) (.seq (.block 1 (.seq (.run (.go (.move (.con (.int .i64 (.ofNat 0)))) (P 7)::
[])) (.block 2 (.loop (.seq (.seq (.run (.go (.move (tm 7)) (P 42)::
.go (.move (tm 3)) (P 43)::
.go (.move (tm 6)) (P 44)::
.go (.indexAddr none 1 (tm 43) (tm 44)) (P 45)::
.go (.load1 (tm 45)) (P 46)::
.go (.len 0 (tm 46)) (P 47)::
.go (.bin .lss 3 (tm 42) (tm 47)) (P 48)::
[])) (.cond (tm 48) .skip (.exit 2))) (.seq (.block 3 (.seq (.draw 24 (.go (.move (tm 3)) (P 51)::
.go (.move (tm 6)) (P 52)::
.go (.indexAddr none 1 (tm 51) (tm 52)) (P 53)::
.go (.load1 (tm 53)) (P 54)::
.go (.move (tm 7)) (P 55)::
.go (.indexAddr none 1 (tm 54) (tm 55)) (P 56)::
.go (.load1 (tm 56)) (P 57)::
.go (.fieldAddr 1 (tm 1)) (P 58)::
.go (.load1 (tm 58)) (P 59)::
.go (.move (tm 6)) (P 60)::
.go (.indexAddr none 1 (tm 59) (tm 60)) (P 61)::
.go (.load1 (tm 61)) (P 62)::
.go (.move (tm 7)) (P 63)::
.go (.indexAddr none 1 (tm 62) (tm 63)) (P 64)::
.go (.load1 (tm 64)) (P 65)::
.go (.bin .sub 3 (tm 57) (tm 65)) (P 66)::
.go (.fieldAddr 0 (tm 1)) (P 67)::
.go (.load1 (tm 67)) (P 68)::
.go (.bin .sub 3 (.con (.int .i64 (.ofNat 1))) (tm 68)) (P 69)::
.go (.fieldAddr 0 (tm 1)) (P 70)::
.go (.load1 (tm 70)) (P 71)::
.go (.bin .sub 3 (tm 71) (.con (.int .i64 (.ofNat 1)))) (P 72)::
.go (.call (.con (.func (.func 25) ⟨[]⟩ ⟨[]⟩)) [(tm 66),(tm 69),(tm 72)]) (P 73)::
.go (.un .not (tm 73)) (P 74)::
[]) [.ok,.ok,.ok,.ok,.ok,.ok,.ok,.ok,.ok,.ok,.ok,.ok,.ok,.ok,.ok,.ok,.ok,.ok,.ok,.ok,.ok,.ok,.ok,.ok]) (.cond (tm 74) (.seq (.run (.go (.move (.con (.bool false))) (P 2)::
[])) .ret) .skip))) (.run (.go (.move (tm 7)) (P 49)::
.go (.bin .add 3 (tm 49) (.con (.int .i64 (.ofNat 1)))) (P 50)::
.go (.move (tm 50)) (P 7)::
[])))))))) (.run (.go (.move (tm 6)) (P 40)::
.go (.bin .add 3 (tm 40) (.con (.int .i64 (.ofNat 1)))) (P 41)::
.go (.move (tm 41)) (P 6)::
[]))))))) (.seq (.run (.go (.loadN 3 (tm 1)) (P 75)::
.go (.move (tm 3)) (P 76)::
.go (.call (.con (.func (.func 27) ⟨[]⟩ ⟨[]⟩)) [(tm 75),(tm 76)]) (P 77)::
.go (.move (tm 77)) (P 78)::
.gd (P 78) true (.loadN 3 (tm 1)) (P 79)::
.gd (P 78) true (.call (.con (.func (.func 19) ⟨[]⟩ ⟨[]⟩)) [tm 79]) (P 80)::
.gd (P 78) true (.move (tm 3)) (P 81)::
.gd (P 78) true (.move (tm 4)) (P 82)::
.gd (P 78) true (.call (.con (.func (.func 22) ⟨[]⟩ ⟨[]⟩)) [(tm 80),(tm 81),(tm 82)]) (P 83)::
.go (.pick (tm 78) (tm 83) (.con (.bool false))) (P 84)::
.go (.move (tm 84)) (P 85)::
.gd (P 85) true (.loadN 3 (tm 1)) (P 86)::
.gd (P 85) true (.call (.con (.func (.func 19) ⟨[]⟩ ⟨[]⟩)) [tm 86]) (P 87)::
.gd (P 85) true (.move (tm 3)) (P 88)::
.gd (P 85) true (.move (tm 4)) (P 89)::
.gd (P 85) true (.bin .sub 3 (tm 89) (.con (.int .i64 (.ofNat 1)))) (P 90)::
.gd (P 85) true (.call (.con (.func (.func 22) ⟨[]⟩ ⟨[]⟩)) [(tm 87),(tm 88),(tm 90)]) (P 91)::
.gd (P 85) true (.un .not (tm 91)) (P 92)::
.go (.pick (tm 85) (tm 92) (.con (.bool false))) (P 93)::
.go (.move (tm 93)) (P 94)::
.gd (P 94) true (.call (.con (.func (.func 17) ⟨[]⟩ ⟨[]⟩)) []) (P 95)::
.go (.pick (tm 94) (tm 95) (.con (.bool false))) (P 96)::
.go (.move (tm 96)) (P 2)::
[])) .ret)))))))
theorem de7 : @compF Try.prog (Gl.none Try.prog) Try.f7 1=.mk d7 (mkTT 97) [(P 0)] [.tmp (P 2)]:=by kernel_rfl
theorem dg7 : Try.prog.funcs[7]?=some Try.f7:=Try.func7
theorem do7 : okF Try.prog Try.f7=true:=by kernel_rfl
theorem best_c {T : Tb} (h : rnds T≠[]) : (best T).c=chg T.C (best T).b:=by
 obtain⟨A,B,_,h2,_⟩:=rsf_spec (chg T.C) (rnds T) h
 exact h2
theorem f7_ok {H : Heap} {c f : Value} {T : Tb} (h : TV H c f T) : F Try.prog 7 ⟨[.agg ⟨[I T.b,c,f]⟩]⟩ H (fun w _=>w=.bool true):=by
 have hcl : ∀ X,ylen 0 X c=some (I T.C.length):=h.c.len
 have hfll:=h.fl
 refine F.entryL rfl dg7 do7 de7 rfl (by kernel_rfl) ?_
 simp only[sets]
 refine V.re [(0,.agg ⟨[I T.b,c,f]⟩)] (N:=97) zE zY ?_
 intro t hF hA
 simp only[Kn,and_true] at hA
 refine zS ?_
 refine V.l0 ?_
 refine V.heap (fun X=>Grow H X∧Bx X H.next [I T.b,c,f] 25) ⟨?_,?_⟩ ?_
 ·exact zW
 ·exact zB
 rintro H1 ⟨g1,b1⟩
 have n1:=b1.1
 refine zS ?_
 refine V.run ?_
 have zf:=b1.2
 refine VI.sz 1 ?_
 simp only[ds]
 refine VI.callA rfl (f41_ok (h.grow g1)) zA (fun H2 g2=>?_)
 have b2:=b1.grow g2
 have g12:=g1.trans g2
 refine VI.l0 ?_
 refine zS ?_
 refine V.condP zP (fun hs=>?_) (fun hs=>?_)
 ·refine zS ?_
  refine V.run ?_
  refine VI.callA rfl (f17_ok _) zA (fun H3 g3=>?_)
  refine VI.l0 ?_
  refine zS ?_
  refine V.ret (V.rets rfl (Lv.retF (by simp +contextual (disch:=first|omega|simp only[nx];omega) only[D1,cells_alloc_at,cells_alloc_ne,cells_set_at,cells_set_ne,yres,yres1,yresL,qA,qB,qC,D5,hF,hA,↓reduceIte,qD,qE];rfl) ?_))
  rfl
 have hs' : snd T:=Decidable.not_not.1 (by simpa using hs)
 obtain⟨hth,hfl⟩:=hs'
 obtain⟨hf,hv⟩:=flt_0.1 hfl
 have hsh:=thin_sh hth
 refine zS ?_
 refine V.run ?_
 have zf:=b2.2
 refine VI.sz 1 ?_
 simp only[ds]
 refine VI.callR zA (f19_ok (h.grow g12) hsh) zA (fun w3 H3 ⟨g3,c',f',hw3,tv3⟩=>?_)
 subst hw3
 refine VI.callR zA (f29_ok tv3 hsh) zA (fun w4 H4 ⟨g4,u,n,e,hw4,hb4⟩=>?_)
 subst hw4
 have g14:=g12.trans (g3.trans g4)
 have b4:=b2.grow (g3.trans g4)
 rcases hb4 with⟨h0,_⟩|⟨_,hr0,rfl,rfl,rfl⟩|⟨_,hr0,rfl,rfl,hu⟩
 ·exact absurd hfl h0
 ·have hTF : T.F≠[]:=fun e=>rnds_some hf hv e hr0
  have hFl : ((0 : Int)<(T.F.length : Int))=True:=by
   have:=List.length_pos_iff.2 hTF
   simp only[eq_iff_iff,iff_true];omega
  refine VI.l0 ?_
  refine zS ?_
  refine V.l0 ?_
  refine zS ?_
  refine V.condT zA ?_
  refine zS ?_
  refine V.run ?_
  have zf:=And.intro b4.2<|And.intro @hfll<|@hFl
  refine VI.sz 9 ?_
  simp only[ds]
  refine VI.callAT zG rfl (f17_ok _) zA (fun H5 g5=>?_)
  refine VI.l0 ?_
  refine zS ?_
  refine V.ret (V.rets rfl (Lv.retF (by simp +contextual (disch:=first|omega|simp only[nx];omega) only[D1,cells_alloc_at,cells_alloc_ne,cells_set_at,cells_set_ne,yres,yres1,yresL,qA,qB,qC,D5,hF,hA,↓reduceIte,qD,qE];rfl) ?_))
  rfl
 ·obtain⟨N,hN⟩ : ∃ N,N=(best T).b:=⟨_,rfl⟩
  have hm:=best_mem hr0
  have hbc:=best_c hr0
  rw[← hN] at hu hm hbc
  obtain⟨pu,nu,cu,rfl⟩:=hu.isS
  have hnest:=hu.nest
  obtain⟨hcan,hisr⟩:=rnds_can hv hm
  have hln:=hnest.len
  have hN5 : N.length≤5:=by have:=hcan.1;have:=hf.1;omega
  have hc4:=cols_le hf
  have bdb:=best_bd hfl
  refine VI.l0 ?_
  refine zS ?_
  refine V.l0 ?_
  refine zS ?_
  refine V.condF zA ?_
  have hal : decide ((∀ row∈N,row.length=cols T)∧N.length=T.C.length)=true:=decide_eq_true ⟨fun row hr=>(hcan.2 row hr).1,hcan.1⟩
  have hf24:=f24_ok (h.grow g14) hnest (by omega)
  rw[hal] at hf24
  refine zS ?_
  refine V.run ?_
  have zf:=b4.2
  refine VI.sz 2 ?_
  simp only[ds]
  refine VI.callA rfl (hf24) zA (fun H5 g5=>?_)
  refine VI.l0 ?_
  have b5:=b4.grow g5
  have g15:=g14.trans g5
  refine zS ?_
  refine V.condF zA ?_
  refine zS ?_
  refine V.l0 ?_
  refine zS ?_
  refine V.loop (fun z t m X=>∃ (k : Nat),k≤N.length∧z=N.length-k∧m=[]∧Grow H5 X∧Full 97 t∧Kn [(1,PT H.next),(3,.slice pu nu cu),(4,I (best T).c),(6,I k)] t) N.length ?_ ?_
  ·exact⟨0,by omega,by omega,rfl,.refl _,zF,zK⟩
  clear hF hA
  rintro z t m X ⟨k,hk,rfl,rfl,hg,hF,hA⟩
  simp only[Kn,and_true] at hA
  refine zS ?_
  have zf:=@hln
  refine V.lz ?_
  refine zS ?_
  refine V.condP zP (fun hlt=>?_) (fun hlt=>?_)
  ·have hlt' : k<N.length:=by omega
   have hltc : k<T.C.length:=by have:=hcan.1;omega
   obtain⟨p,u,hp,hu'⟩:=hnest.at ri hlt'
   have hpk:=hp .i64
   obtain⟨p2,u2,hp2,hu2⟩:=h.c.at ri hltc
   have hpk2:=hp2 .i64
   have hNk:=hcan.2 _ (List.getElem_mem hlt')
   have hCk:=hv.2.2.1 _ (List.getElem_mem hltc)
   have hNk4 : (N[k]).length≤4:=by have:=hNk.1;omega
   refine zS ?_
   refine V.l0 ?_
   refine zS ?_
   refine V.loop (fun z t m Y=>∃ (j : Nat),j≤(N[k]).length∧z=(N[k]).length-j∧m=[]∧Grow H5 Y∧Full 97 t∧Kn [(1,PT H.next),(3,.slice pu nu cu),(4,I (best T).c),(6,I k),(7,I j)] t) (N[k]).length ?_ ?_
   ·exact⟨0,by omega,by omega,rfl,hg,zF,zK⟩
   clear hF hA
   rintro z t m Y ⟨j,hj,rfl,rfl,hgY,hF,hA⟩
   simp only[Kn,and_true] at hA
   obtain⟨hv1,hv2⟩:=hu' Y (g5.trans hgY)
   have hvl:=hv2.len
   have gY:=g15.trans hgY
   have bY:=b5.grow hgY
   refine zS ?_
   have zf:=And.intro @hpk<|And.intro @hv1<|@hvl
   refine V.lz ?_
   refine zS ?_
   refine V.condP zP (fun hltj=>?_) (fun hltj=>?_)
   ·have hj1 : j<(N[k]).length:=by omega
    have hj2 : j<(T.C[k]).length:=by rw[hCk.1,← hNk.1];exact hj1
    obtain⟨w,hw,hww⟩:=hv2.at hj1
    have hw1:=hww Y (.refl _)
    obtain⟨hc1,hc2⟩:=hu2 Y gY
    obtain⟨w2,hw2,hww2⟩:=hc2.at hj2
    have hw21:=hww2 Y (.refl _)
    have hcell:=rnds_cell hm hlt' hj1 hltc hj2
    have hcb:=hCk.2 _ (List.getElem_mem hj2)
    have hnb:=hNk.2 _ (List.getElem_mem hj1)
    obtain⟨q1,q2,q3⟩:=(isn_rd hv.1.1 hcb.1 hnb.1).2 hcell
    have hdec : decide (1-T.b≤(N[k])[j]-(T.C[k])[j]∧(N[k])[j]-(T.C[k])[j]≤T.b-1)=true:=decide_eq_true ⟨q2,q3⟩
    have hf25:=fun Q=>f25_ok ((N[k])[j]-(T.C[k])[j]) (1-T.b) (T.b-1) Q
    rw[hdec] at hf25
    have hb:=hv.1
    refine zS ?_
    refine V.draw ?_
    have zf:=And.intro @hpk<|And.intro @hv1<|And.intro @hw<|And.intro @hw1<|And.intro bY.2<|And.intro @hpk2<|And.intro @hc1<|And.intro @hw2<|@hw21
    refine VD.nz 9 ?_
    simp only[ds]
    have zf:=And.intro @hpk<|And.intro @hv1<|And.intro @hw<|And.intro @hw1<|And.intro bY.2<|And.intro @hpk2<|And.intro @hc1<|And.intro @hw2<|@hw21
    refine VD.nz 9 ?_
    simp only[ds]
    have zf:=And.intro @hpk<|And.intro @hv1<|And.intro @hw<|And.intro @hw1<|And.intro bY.2<|And.intro @hpk2<|And.intro @hc1<|And.intro @hw2<|@hw21
    refine VD.nz 4 ?_
    simp only[ds]
    refine VD.callA zA (hf25 _) zA (fun Y1 g6=>?_)
    have m6:=g6.1
    refine VD.d0 ?_ ?_ rfl ?_
    ·exact zM
    ·simp only[dcAll,dcOk,wantD,List.cons_append,List.nil_append,true_and,and_true]
    refine zS ?_
    refine V.condF zA ?_
    refine zS ?_
    refine V.l0 ?_
    refine V.nil (Or.inl ⟨rfl,(N[k]).length-(j+1),by omega,?_⟩)
    exact⟨j+1,hj1,rfl,rfl,hgY.trans g6,zF,zK⟩
   ·obtain rfl : j=(N[k]).length:=by omega
    refine V.exit ?_
    refine zX ?_
    refine V.nil (Or.inr ⟨by simp,?_⟩)
    refine zX ?_
    refine zS ?_
    refine V.l0 ?_
    refine V.nil (Or.inl ⟨rfl,N.length-(k+1),by omega,?_⟩)
    exact⟨k+1,hlt',rfl,rfl,hgY,zF,zK⟩
  ·obtain rfl : k=N.length:=by omega
   refine V.exit ?_
   refine zX ?_
   refine V.nil (Or.inr ⟨by simp,?_⟩)
   refine zX ?_
   have gX:=g15.trans hg
   have bX:=b5.grow hg
   have nX:=hnest.grow ri (g5.trans hg)
   have hrir : decide (rir T N)=true:=decide_eq_true ((rir_isr hf hv hcan).2 hisr)
   have hf27:=f27_ok (h.grow gX) nX hf hv hcan
   rw[hrir] at hf27
   have hce : ce T N=0:=ce_0.2 ⟨hf,hv,hcan⟩
   have hp1 : decide (prv T N (best T).c)=true:=decide_eq_true ⟨hce,by omega,hisr⟩
   have hp2 : decide (prv T N ((best T).c-1))=false:=decide_eq_false (fun hh=>by have:=hh.2.1;omega)
   have n2 : ∀ row∈N,row.length≤1048576:=fun row hr=>by have:=(hcan.2 row hr).1;omega
   refine zS ?_
   refine V.run ?_
   have zf:=bX.2
   refine VI.sz 2 ?_
   simp only[ds]
   refine VI.callA rfl (hf27) zA (fun H6 g6=>?_)
   have g6X:=gX.trans g6
   have b6:=bX.grow g6
   have n6:=nX.grow ri g6
   have zf:=b6.2
   refine VI.sz 2 ?_
   simp only[ds]
   refine VI.callRT zG zA (f19_ok (h.grow g6X) hsh) zA (fun w7 H7 ⟨g7,c7,f7,hw7,tv7⟩=>?_)
   subst hw7
   have hf22:=f22_ok (best T).c tv7 hsh (n6.grow ri g7) (by omega) n2
   rw[hp1] at hf22
   refine VI.s0 2 ?_
   simp only[ds]
   refine VI.callAT zG rfl (hf22) zA (fun H8 g8=>?_)
   have g78:=g7.trans g8
   have b8:=b6.grow g78
   have n8:=n6.grow ri g78
   have zf:=b8.2
   refine VI.sz 3 ?_
   simp only[ds]
   refine VI.callRT zG zA (f19_ok (h.grow (g6X.trans g78)) hsh) zA (fun w9 H9 ⟨g9,c9,f9,hw9,tv9⟩=>?_)
   subst hw9
   have hf22b:=f22_ok ((best T).c-1) tv9 hsh (n8.grow ri g9) (by omega) n2
   rw[hp2] at hf22b
   refine VI.s0 3 ?_
   simp only[ds]
   refine VI.callAT zG rfl (hf22b) zA (fun H10 g10=>?_)
   refine VI.s0 3 ?_
   simp only[ds]
   refine VI.callAT zG rfl (f17_ok _) zA (fun H11 g11=>?_)
   refine VI.l0 ?_
   refine zS ?_
   refine V.ret (V.rets rfl (Lv.retF (by simp +contextual (disch:=first|omega|simp only[nx];omega) only[D1,cells_alloc_at,cells_alloc_ne,cells_set_at,cells_set_ne,yres,yres1,yresL,qA,qB,qC,D5,hF,hA,↓reduceIte,qD,qE];rfl) ?_))
   rfl
end Go.Xe.TRX
/- Rules of reasoning over the executable reading of the model's code (part Z16): arguments, by what their types allow. Conditions: none; for every program. -/
namespace Go.Xe
open Go Go.RowKit Go.ChangeShapes Go.WideShapes
theorem okWide_agg {P : Program} {w : World} {r : Reach} {base : Nat} {t : TypeId} {v : Value} {fs : Array Field} (ht : P.underlying t=some (.struct fs)) (h : Value.okWide P w r base t v) : ∃ cs,v=.agg cs:=by
 unfold Value.okWide at h
 rw[ht] at h
 obtain⟨cs,h,_⟩:=h
 exact⟨cs,h⟩
end Go.Xe
/- The end of a call that has changed nothing of what was there: what a statement asks of the memory behind it. Conditions: as post_of_same's, but that new memory may be frozen. -/
namespace Go.Xe
open Go Go.RowKit Go.ChangeShapes Go.WideShapes
variable {H : Type} {enc : TypeId×Value→H} {P : Program}
theorem post_of_old {f : Func} {s : ChangeSpec} {apart fresh handsOn again : Bool} {W W' : World} {args : Array Value} {v : Value} {ds gs : List (DataW H)} {before pa pv : List MemPlace}
  (hW : DataW.Whole enc P f.params.toList s.vars apart W args.toList ds gs before)
  (hres : ∀ (b : Nat) (sp : Nat→Bool) (hd : Bool),DataW.TrodAll enc P W' b sp hd f.resultTypes.toList (v.resultList f.resultTypes.size) (s.fn H (ds++gs)).results [])
  (hargs : ∀ sp : Nat→Bool,(∀ p∈before,sp p.block=true)→DataW.TrodAll enc P W' 0 sp true f.params.toList args.toList (s.fn H (ds++gs)).args pa)
  (hvars : ∀ sp : Nat→Bool,(∀ p∈before,sp p.block=true)→DataW.TrodVars enc P W' sp s.vars (s.fn H (ds++gs)).vars pv)
  (hps : before=pa++pv) (hk : W.keptBut W' (·∈before)) (hfz : ∀ a : Addr,a.block<W.heap.size→W'.frozen? a=W.frozen? a)
  (hok : ∀ (j : Nat) (t : TypeId) (r : Value),f.resultTypes[j]?=some t→(v.resultList f.resultTypes.size)[j]?=some r→Value.okWide P W' .any 0 t r) :
  s.post enc P f apart fresh handsOn again W args v W':=by
 have old : ∀ p∈before,p.block<W.heap.size:=fun p hp=>hW.lt p hp
 have hold : ∀ p∈before,(fun b=>decide (b<W.heap.size)) p.block=true:=fun p hp=>by simpa using old p hp
 subst hps
 refine⟨ds,gs,_,[],pa,pv,hW,hres _ _ _,hargs _ hold,hvars _ hold,World.keptBut_mono (fun p hp=>⟨hp,.inr (List.mem_append.1 hp)⟩) hk,fun _=>?_⟩
 obtain⟨_,_,_,_,_,hz,hn⟩:=hW
 refine⟨hok,_,_,([]++pa)++pv,⟨[]++pa,pv,trodAll_append (hargs _ (fun _ _=>rfl)) (hres _ _ _),hvars _ (fun _ _=>rfl),rfl,?_,?_⟩,?_⟩
 ·intro b off hp
  have hp' : MemPlace.cell b off∈pa++pv:=by simpa using hp
  rw[hfz _ (old _ hp')]
  exact hz b off hp'
 ·intro ha
  simpa using hn ha
 ·intro p hp _
  simpa using hp
end Go.Xe
