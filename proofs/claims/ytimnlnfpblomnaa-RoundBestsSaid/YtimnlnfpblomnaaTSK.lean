/- What the functions of the layer round come to: CheckTable, Change. Conditions: none. -/
import Derived.Test.YtimnlnfpblomnaaTSI
noncomputable section
namespace Go.Xe.TRX
open Go Go.Xe Go.Proofs
open Nat renaming reduceLeDiff ->qA, reduceSub ->qB, reduceAdd ->qC, reduceEqDiff ->qD, reduceLT ->qE
open Int renaming reduceNegSucc ->qF, reduceEq ->qG
open Go.Xe.V renaming seq ->sA, block ->sB, scope ->sC, skip ->sD, close ->sE
open Go.Xe renaming pth ->P
open Go.Xe.Rnd
set_option maxRecDepth 100000
set_option maxHeartbeats 3200000
set_option linter.unusedSimpArgs false
def d47 : FCode:=(.seq (.run (.go (.box 33 (tm 0)) (P 1)::
.go (.move (.con (.bool false))) (P 2)::
[])) (.seq (.draw 25 (.go (.call (.con (.func (.func 58) ⟨[]⟩ ⟨[]⟩)) []) (P 3)::
.go (.fieldAddr 0 (tm 1)) (P 4)::
.go (.load1 (tm 4)) (P 5)::
.go (.call (.con (.func (.func 59) ⟨[]⟩ ⟨[]⟩)) [(tm 3),(tm 5)]) (P 6)::
.go (.move (tm 6)) (P 7)::
.gd (P 7) true (.loadN 3 (tm 1)) (P 8)::
.gd (P 7) true (.call (.con (.func (.func 68) ⟨[]⟩ ⟨[]⟩)) [tm 8]) (P 9)::
.gd (P 7) true (.bin .gtr 3 (tm 9) (.con (.int .i64 (.ofNat 0)))) (P 10)::
.go (.pick (tm 7) (tm 10) (.con (.bool false))) (P 11)::
.go (.move (tm 11)) (P 12)::
.gd (P 12) true (.fieldAddr 1 (tm 1)) (P 13)::
.gd (P 12) true (.load1 (tm 13)) (P 14)::
.gd (P 12) true (.loadN 3 (tm 1)) (P 15)::
.gd (P 12) true (.call (.con (.func (.func 62) ⟨[]⟩ ⟨[]⟩)) []) (P 16)::
.gd (P 12) true (.call (.con (.func (.func 69) ⟨[]⟩ ⟨[]⟩)) [(tm 15),(tm 16)]) (P 17)::
.gd (P 12) true (.call (.con (.func (.func 66) ⟨[]⟩ ⟨[]⟩)) [(tm 14),(tm 17)]) (P 18)::
.go (.pick (tm 12) (tm 18) (.con (.bool false))) (P 19)::
.go (.move (tm 19)) (P 20)::
.gd (P 20) true (.fieldAddr 2 (tm 1)) (P 21)::
.gd (P 20) true (.load1 (tm 21)) (P 22)::
.gd (P 20) true (.loadN 3 (tm 1)) (P 23)::
.gd (P 20) true (.makeFunc 71 [tm 23] []) (P 24)::
.gd (P 20) true (.call (.con (.func (.func 70) ⟨[]⟩ ⟨[]⟩)) [(tm 22),(tm 24)]) (P 25)::
.go (.pick (tm 20) (tm 25) (.con (.bool false))) (P 26)::
.go (.move (tm 26)) (P 2)::
[]) [.ok,.ok,.rd none (.load1 (tm 4)) (some (P 5)) [0],.ok,.ok,.ok,.ok,.ok,.ok,.ok,.ok,.rd (some ((P 12),true)) (.load1 (tm 13)) (some (P 14)) [14,15],.rd (some ((P 12),true)) (.loadN 3 (tm 1)) (some (P 15)) [14],.ok,.ok,.ok,.ok,.ok,.ok,.ok,.ok,.ok,.ok,.ok,.ok]) .ret))
theorem de47 : @compF Try.prog (Gl.none Try.prog) Try.f47 1=.mk d47 (mkTT 27) [(P 0)] [.tmp (P 2)]:=by kernel_rfl
theorem dg47 : Try.prog.funcs[47]?=some Try.f47:=Try.func47
theorem do47 : okF Try.prog Try.f47=true:=by kernel_rfl
def d18 : FCode:=(.seq (.run (.go (.box 33 (tm 0)) (P 1)::
.go (.move (.con (.int .i64 (.ofNat 0)))) (P 2)::
[])) (.seq (.block 0 (.seq (.run (.go (.loadN 3 (tm 1)) (P 4)::
.go (.call (.con (.func (.func 46) ⟨[]⟩ ⟨[]⟩)) [tm 4]) (P 5)::
.go (.un .not (tm 5)) (P 6)::
.go (.move (tm 6)) (P 3)::
[])) (.cond (tm 3) (.seq (.run (.go (.move (.con (.int .i64 (.ofNat 3)))) (P 2)::
[])) .ret) (.seq (.run (.go (.loadN 3 (tm 1)) (P 8)::
.go (.call (.con (.func (.func 47) ⟨[]⟩ ⟨[]⟩)) [tm 8]) (P 9)::
.go (.un .not (tm 9)) (P 10)::
.go (.move (tm 10)) (P 7)::
[])) (.cond (tm 7) (.seq (.run (.go (.move (.con (.int .i64 (.ofNat 1)))) (P 2)::
[])) .ret) .skip))))) (.seq (.run (.go (.move (.con (.int .i64 (.ofNat 0)))) (P 2)::
[])) .ret)))
theorem de18 : @compF Try.prog (Gl.none Try.prog) Try.f18 1=.mk d18 (mkTT 11) [(P 0)] [.tmp (P 2)]:=by kernel_rfl
theorem dg18 : Try.prog.funcs[18]?=some Try.f18:=Try.func18
theorem do18 : okF Try.prog Try.f18=true:=by kernel_rfl
theorem f47_ok {H : Heap} {c f : Value} {T : Tb} (h : TV H c f T) (hs : sh T) : Gives Try.prog 47 [.agg ⟨[I T.b,c,f]⟩] H (.bool (decide (valid T))):=by
 obtain⟨s1,s2,s3⟩:=hs
 obtain⟨pc,nc,cc,rfl⟩:=h.c.isS
 obtain⟨pf,nf,cf,rfl⟩:=h.f.isS
 generalize hc0 : Value.slice pc nc cc=c at *
 generalize hf0 : Value.slice pf nf cf=f at *
 have vv : vEq 3 (.agg ⟨[I T.b,c,f]⟩) (.agg ⟨[I T.b,c,f]⟩)=true:=by subst hc0;subst hf0;simp[vEq,vEq0,all2]
 have vc : vEq 3 c c=true:=(sl1 h.c.isS).2.2.1
 refine F.entryL rfl dg47 do47 de47 rfl (by kernel_rfl) ?_
 simp only[sets]
 refine V.re [(0,.agg ⟨[I T.b,c,f]⟩)] (N:=27) zE zY ?_
 intro t hF hA
 simp only[Kn,and_true] at hA
 refine zS ?_
 refine V.l0 ?_
 refine V.heap (λX=>Grow H X/\Bx X H.next [I T.b,c,f] 33) ⟨?_,?_⟩ ?_
 ·exact zW
 ·exact zB
 rintro H1 ⟨g1,b1⟩
 have h1:=h.grow g1
 refine zS ?_
 refine V.draw ?_
 refine VD.callA zA (f58_ok _) zA (λH2 g2=>?_)
 have b2:=b1.grow g2
 have h2:=h1.grow g2
 have zf:=b2.2
 refine VD.nz 2 ?_
 simp only[ds]
 refine VD.callA zA (f59_ok 2 100 T.b _) zA (λH3 g3=>?_)
 have b3:=b2.grow g3
 have h3:=h2.grow g3
 have m2:=g2.1
 have m3:=g3.1
 by_cases hb1 : 2<=T.b/\T.b<=100
 ·have zf:=aI b3.2<|@hb1
  refine VD.nz 2 ?_
  simp only[ds]
  refine VD.callAT zG zA (f68_ok h3) zA (λH4 g4=>?_)
  have b4:=b3.grow g4
  have h4:=h3.grow g4
  have m4:=g4.1
  by_cases hb2 : (0 : Int)<cols T
  ·have zf:=aI b4.2<|@hb2
   refine VD.nz 6 ?_
   simp only[ds]
   refine VD.callAT zG zA (f62_ok _) zA (λH5 g5=>?_)
   have b5:=b4.grow g5
   have h5:=h4.grow g5
   refine VD.callRT zG zA (f69_ok 0 10000 h5) zA (λw6 H6 ⟨g6,p,q,hw6,hr6⟩=>?_)
   subst hw6
   have b6:=b5.grow g6
   have h6:=h5.grow g6
   have f66':=f66_ok (Pr:=rowOk (cols T) 0 10000) h6.c s1 (λX y l hl gx hy=>f81_fv (hr6.grow gx) hy (s2 l hl))
   by_cases hb3 : ∀ l∈T.C,rowOk (cols T) 0 10000 l
   ·rw[decide_eq_true hb3] at f66'
    refine VD.callAT zG zA (f66') zA (λH7 g7=>?_)
    have b7:=b6.grow g7
    have h7:=h6.grow g7
    have zf:=b7.2
    refine VD.nz 6 ?_
    simp only[ds]
    refine VD.callAT zG zA (f70_ok (Pr:=fixOk T) h7 s3 (λX l gx=>f71_fv (h7.grow gx) l)) zA (λH8 g8=>?_)
    have b8:=b7.grow g8
    have m5:=g5.1
    have m6:=g6.1
    have m7:=g7.1
    have m8:=g8.1
    refine VD.d0 ?_ ?_ rfl ?_
    ·exact zM
    ·simp only[dcAll,dcOk,wantD,List.cons_append,List.nil_append,true_and,and_true]
     have zf:=aI b1.2<|aI b2.2<|b3.2
     exact⟨zR,λhw q hq=>by simp only[wantD,D5,hF,hA,↓reduceIte,qD,qE,beq_iff_eq,decide_eq_false_iff_not,decide_eq_true_eq] at hw;simp only[List.mem_cons,List.not_mem_nil,or_false] at hq;(repeat (rcases hq with rfl|hq;exact⟨_,_,_,rfl,(by simp +contextual (disch:=first|omega|simp only[nx];omega) only[D4,qF,qG,qA,qB,qC,D5,hF,hA,↓reduceIte,qD,qE,if_true,not_false_eq_true,not_true_eq_false,hw,b3.2,b4.2,b5.2,b6.2,b7.2];with_reducible rfl),λp hp=>by cases hp;simp only[D5,hF,hA,↓reduceIte,qD,qE,hw,if_true,not_false_eq_true];first|exact vEq_An|(simp[vEq,vEq0,all2];done)|assumption⟩));(try (subst hq;exact⟨_,_,_,rfl,(by simp +contextual (disch:=first|omega|simp only[nx];omega) only[D4,qF,qG,qA,qB,qC,D5,hF,hA,↓reduceIte,qD,qE,if_true,not_false_eq_true,not_true_eq_false,hw,b3.2,b4.2,b5.2,b6.2,b7.2];with_reducible rfl),λp hp=>by cases hp;simp only[D5,hF,hA,↓reduceIte,qD,qE,hw,if_true,not_false_eq_true];first|exact vEq_An|(simp[vEq,vEq0,all2];done)|assumption⟩)),λhw q hq=>by simp only[wantD,D5,hF,hA,↓reduceIte,qD,qE,beq_iff_eq,decide_eq_false_iff_not,decide_eq_true_eq] at hw;simp only[List.mem_cons,List.not_mem_nil,or_false] at hq;(repeat (rcases hq with rfl|hq;exact⟨_,_,_,rfl,(by simp +contextual (disch:=first|omega|simp only[nx];omega) only[D4,qF,qG,qA,qB,qC,D5,hF,hA,↓reduceIte,qD,qE,if_true,not_false_eq_true,not_true_eq_false,hw,b3.2,b4.2,b5.2,b6.2,b7.2];with_reducible rfl),λp hp=>by cases hp;simp only[D5,hF,hA,↓reduceIte,qD,qE,hw,if_true,not_false_eq_true];first|exact vEq_An|(simp[vEq,vEq0,all2];done)|assumption⟩));(try (subst hq;exact⟨_,_,_,rfl,(by simp +contextual (disch:=first|omega|simp only[nx];omega) only[D4,qF,qG,qA,qB,qC,D5,hF,hA,↓reduceIte,qD,qE,if_true,not_false_eq_true,not_true_eq_false,hw,b3.2,b4.2,b5.2,b6.2,b7.2];with_reducible rfl),λp hp=>by cases hp;simp only[D5,hF,hA,↓reduceIte,qD,qE,hw,if_true,not_false_eq_true];first|exact vEq_An|(simp[vEq,vEq0,all2];done)|assumption⟩))⟩
    refine zS ?_
    refine V.ret (V.rets rfl (Lv.retG (by simp +contextual (disch:=first|omega|simp only[nx];omega) only[D1,cells_alloc_at,cells_alloc_ne,cells_set_at,cells_set_ne,yres,yres1,yresL,qA,qB,qC,D5,hF,hA,↓reduceIte,qD,qE];rfl) ?_ ?_))
    ·exact ((((((g1.trans g2).trans g3).trans g4).trans g5).trans g6).trans g7).trans g8
    ·congr 1
     rw[decide_eq_decide]
     unfold valid
     constructor
     ·intro b;exact⟨hb1,by omega,hb3,b⟩
     ·rintro⟨_,_,_,b⟩;exact b
   ·rw[decide_eq_false hb3] at f66'
    refine VD.callAT zG zA (f66') zA (λH7 g7=>?_)
    have b7:=b6.grow g7
    have zf:=b7.2
    refine VD.nz 6 ?_
    simp only[ds]
    refine VD.gdF zG ?_
    have m5:=g5.1
    have m6:=g6.1
    have m7:=g7.1
    refine VD.d0 ?_ ?_ rfl ?_
    ·exact zM
    ·simp only[dcAll,dcOk,wantD,List.cons_append,List.nil_append,true_and,and_true]
     have zf:=aI b1.2<|aI b2.2<|b3.2
     exact⟨zR,λhw q hq=>by simp only[wantD,D5,hF,hA,↓reduceIte,qD,qE,beq_iff_eq,decide_eq_false_iff_not,decide_eq_true_eq] at hw;simp only[List.mem_cons,List.not_mem_nil,or_false] at hq;(repeat (rcases hq with rfl|hq;exact⟨_,_,_,rfl,(by simp +contextual (disch:=first|omega|simp only[nx];omega) only[D4,qF,qG,qA,qB,qC,D5,hF,hA,↓reduceIte,qD,qE,if_true,not_false_eq_true,not_true_eq_false,hw,b3.2,b4.2,b5.2,b6.2,b7.2];with_reducible rfl),λp hp=>by cases hp;simp only[D5,hF,hA,↓reduceIte,qD,qE,hw,if_true,not_false_eq_true];first|exact vEq_An|(simp[vEq,vEq0,all2];done)|assumption⟩));(try (subst hq;exact⟨_,_,_,rfl,(by simp +contextual (disch:=first|omega|simp only[nx];omega) only[D4,qF,qG,qA,qB,qC,D5,hF,hA,↓reduceIte,qD,qE,if_true,not_false_eq_true,not_true_eq_false,hw,b3.2,b4.2,b5.2,b6.2,b7.2];with_reducible rfl),λp hp=>by cases hp;simp only[D5,hF,hA,↓reduceIte,qD,qE,hw,if_true,not_false_eq_true];first|exact vEq_An|(simp[vEq,vEq0,all2];done)|assumption⟩)),λhw q hq=>by simp only[wantD,D5,hF,hA,↓reduceIte,qD,qE,beq_iff_eq,decide_eq_false_iff_not,decide_eq_true_eq] at hw;simp only[List.mem_cons,List.not_mem_nil,or_false] at hq;(repeat (rcases hq with rfl|hq;exact⟨_,_,_,rfl,(by simp +contextual (disch:=first|omega|simp only[nx];omega) only[D4,qF,qG,qA,qB,qC,D5,hF,hA,↓reduceIte,qD,qE,if_true,not_false_eq_true,not_true_eq_false,hw,b3.2,b4.2,b5.2,b6.2,b7.2];with_reducible rfl),λp hp=>by cases hp;simp only[D5,hF,hA,↓reduceIte,qD,qE,hw,if_true,not_false_eq_true];first|exact vEq_An|(simp[vEq,vEq0,all2];done)|assumption⟩));(try (subst hq;exact⟨_,_,_,rfl,(by simp +contextual (disch:=first|omega|simp only[nx];omega) only[D4,qF,qG,qA,qB,qC,D5,hF,hA,↓reduceIte,qD,qE,if_true,not_false_eq_true,not_true_eq_false,hw,b3.2,b4.2,b5.2,b6.2,b7.2];with_reducible rfl),λp hp=>by cases hp;simp only[D5,hF,hA,↓reduceIte,qD,qE,hw,if_true,not_false_eq_true];first|exact vEq_An|(simp[vEq,vEq0,all2];done)|assumption⟩))⟩
    refine zS ?_
    refine V.ret (V.rets rfl (Lv.retG (by simp +contextual (disch:=first|omega|simp only[nx];omega) only[D1,cells_alloc_at,cells_alloc_ne,cells_set_at,cells_set_ne,yres,yres1,yresL,qA,qB,qC,D5,hF,hA,↓reduceIte,qD,qE];rfl) ?_ ?_))
    ·exact (((((g1.trans g2).trans g3).trans g4).trans g5).trans g6).trans g7
    ·exact congrArg _ (decide_eq_false (λhh=>hb3 hh.2.2.1)).symm
  ·have zf:=aI b4.2<|@hb2
   refine VD.nz 6 ?_
   simp only[ds]
   refine VD.gdF zG ?_
   refine VD.gdF zG ?_
   refine VD.gdF zG ?_
   refine VD.n0 6 ?_
   simp only[ds]
   refine VD.gdF zG ?_
   refine VD.d0 ?_ ?_ rfl ?_
   ·exact zM
   ·simp only[dcAll,dcOk,wantD,List.cons_append,List.nil_append,true_and,and_true]
    have zf:=aI b1.2<|aI b2.2<|b3.2
    exact⟨zR,λhw q hq=>by simp only[wantD,D5,hF,hA,↓reduceIte,qD,qE,beq_iff_eq,decide_eq_false_iff_not,decide_eq_true_eq] at hw,λhw q hq=>by simp only[wantD,D5,hF,hA,↓reduceIte,qD,qE,beq_iff_eq,decide_eq_false_iff_not,decide_eq_true_eq] at hw⟩
   refine zS ?_
   refine V.ret (V.rets rfl (Lv.retG (by simp +contextual (disch:=first|omega|simp only[nx];omega) only[D1,cells_alloc_at,cells_alloc_ne,cells_set_at,cells_set_ne,yres,yres1,yresL,qA,qB,qC,D5,hF,hA,↓reduceIte,qD,qE];rfl) ?_ ?_))
   ·exact ((g1.trans g2).trans g3).trans g4
   ·exact congrArg _ (decide_eq_false (λhh=>hb2 (by have:=hh.2.1;omega))).symm
 ·have zf:=aI b3.2<|@hb1
  refine VD.nz 2 ?_
  simp only[ds]
  refine VD.gdF zG ?_
  have zf:=b3.2
  refine VD.nz 6 ?_
  simp only[ds]
  refine VD.gdF zG ?_
  refine VD.gdF zG ?_
  refine VD.gdF zG ?_
  refine VD.n0 6 ?_
  simp only[ds]
  refine VD.gdF zG ?_
  refine VD.d0 ?_ ?_ rfl ?_
  ·exact zM
  ·simp only[dcAll,dcOk,wantD,List.cons_append,List.nil_append,true_and,and_true]
   have zf:=aI b1.2<|aI b2.2<|b3.2
   exact⟨zR,λhw q hq=>by simp only[wantD,D5,hF,hA,↓reduceIte,qD,qE,beq_iff_eq,decide_eq_false_iff_not,decide_eq_true_eq] at hw,λhw q hq=>by simp only[wantD,D5,hF,hA,↓reduceIte,qD,qE,beq_iff_eq,decide_eq_false_iff_not,decide_eq_true_eq] at hw⟩
  refine zS ?_
  refine V.ret (V.rets rfl (Lv.retG (by simp +contextual (disch:=first|omega|simp only[nx];omega) only[D1,cells_alloc_at,cells_alloc_ne,cells_set_at,cells_set_ne,yres,yres1,yresL,qA,qB,qC,D5,hF,hA,↓reduceIte,qD,qE];rfl) ?_ ?_))
  ·exact (g1.trans g2).trans g3
  ·exact congrArg _ (decide_eq_false (λhh=>hb1 hh.1)).symm
theorem f18_ok {H : Heap} {c f : Value} {T : Tb} (h : TV H c f T) (hs : sh T) : Gives Try.prog 18 [.agg ⟨[I T.b,c,f]⟩] H (I (flt T)):=by
 refine F.entryL rfl dg18 do18 de18 rfl (by kernel_rfl) ?_
 simp only[sets]
 refine V.re [(0,.agg ⟨[I T.b,c,f]⟩)] (N:=11) zE zY ?_
 intro t hF hA
 simp only[Kn,and_true] at hA
 refine zS ?_
 refine V.l0 ?_
 refine V.heap (λX=>Grow H X/\Bx X H.next [I T.b,c,f] 33) ⟨?_,?_⟩ ?_
 ·exact zW
 ·exact zB
 rintro H1 ⟨g1,b1⟩
 have h1:=h.grow g1
 refine zS ?_
 refine V.run ?_
 have zf:=b1.2
 refine VI.sz 1 ?_
 simp only[ds]
 refine VI.callA rfl (f46_ok h1 hs) zA (λH2 g2=>?_)
 have b2:=b1.grow g2
 have h2:=h1.grow g2
 refine VI.l0 ?_
 refine zS ?_
 refine V.condP zP (λc1=>?_) (λc1=>?_)
 ·refine zS ?_
  refine V.l0 ?_
  refine zS ?_
  refine V.ret (V.rets rfl (Lv.retG (by simp +contextual (disch:=first|omega|simp only[nx];omega) only[D1,cells_alloc_at,cells_alloc_ne,cells_set_at,cells_set_ne,yres,yres1,yresL,qA,qB,qC,D5,hF,hA,↓reduceIte,qD,qE];rfl) ?_ ?_))
  ·exact g1.trans g2
  ·unfold flt;rw[if_pos c1]
 ·refine zS ?_
  refine V.run ?_
  have zf:=b2.2
  refine VI.sz 1 ?_
  simp only[ds]
  refine VI.callA rfl (f47_ok h2 hs) zA (λH3 g3=>?_)
  refine VI.l0 ?_
  refine zS ?_
  refine V.condP zP (λc2=>?_) (λc2=>?_)
  ·refine zS ?_
   refine V.l0 ?_
   refine zS ?_
   refine V.ret (V.rets rfl (Lv.retG (by simp +contextual (disch:=first|omega|simp only[nx];omega) only[D1,cells_alloc_at,cells_alloc_ne,cells_set_at,cells_set_ne,yres,yres1,yresL,qA,qB,qC,D5,hF,hA,↓reduceIte,qD,qE];rfl) ?_ ?_))
   ·exact (g1.trans g2).trans g3
   ·unfold flt;rw[if_neg c1,if_pos c2]
  ·refine zS ?_
   refine V.l0 ?_
   refine zS ?_
   refine V.ret (V.rets rfl (Lv.retG (by simp +contextual (disch:=first|omega|simp only[nx];omega) only[D1,cells_alloc_at,cells_alloc_ne,cells_set_at,cells_set_ne,yres,yres1,yresL,qA,qB,qC,D5,hF,hA,↓reduceIte,qD,qE];rfl) ?_ ?_))
   ·exact (g1.trans g2).trans g3
   ·unfold flt;rw[if_neg c1,if_neg c2]
end Go.Xe.TRX
-- MOD TR
namespace Go.Xe.TRX
open Go Go.Xe Go.Proofs
open Nat renaming reduceLeDiff ->qA, reduceSub ->qB, reduceAdd ->qC, reduceEqDiff ->qD, reduceLT ->qE
open Int renaming reduceNegSucc ->qF, reduceEq ->qG
open Go.Xe.V renaming seq ->sA, block ->sB, scope ->sC, skip ->sD, close ->sE
open Go.Xe renaming pth ->P
open Go.Xe.Rnd
set_option maxRecDepth 100000
set_option maxHeartbeats 3200000
set_option linter.unusedSimpArgs false
def d72 : FCode:=(.seq (.run (.go (.move (.con (.int .i64 (.ofNat 0)))) (P 4)::
[])) (.seq (.run (.go (.move (.con (.int .i64 (.ofNat 0)))) (P 5)::
[])) (.seq (.seq (.run (.go (.move (tm 0)) (P 8)::
.go (.len 0 (tm 8)) (P 9)::
.go (.move (.con (.int .i64 (.ofNat 0)))) (P 10)::
[])) (.block 0 (.loop (.seq (.run (.go (.bin .lss 3 (tm 10) (tm 9)) (P 11)::
[])) (.seq (.cond (tm 11) .skip (.exit 0)) (.seq (.block 1 (.seq (.run (.go (.move (tm 10)) (P 12)::
.go (.indexAddr none 1 (tm 8) (tm 10)) (P 13)::
.go (.load1 (tm 13)) (P 14)::
.go (.move (tm 12)) (P 6)::
.go (.move (tm 14)) (P 7)::
[])) (.draw 16 (.go (.move (tm 5)) (P 15)::
.go (.move (tm 7)) (P 16)::
.go (.move (tm 1)) (P 17)::
.go (.move (tm 6)) (P 18)::
.go (.indexAddr none 1 (tm 17) (tm 18)) (P 19)::
.go (.load1 (tm 19)) (P 20)::
.go (.bin .sub 3 (tm 16) (tm 20)) (P 21)::
.go (.move (tm 1)) (P 22)::
.go (.move (tm 6)) (P 23)::
.go (.indexAddr none 1 (tm 22) (tm 23)) (P 24)::
.go (.load1 (tm 24)) (P 25)::
.go (.move (tm 7)) (P 26)::
.go (.bin .sub 3 (tm 25) (tm 26)) (P 27)::
.go (.mm true [(tm 21),(tm 27)]) (P 28)::
.go (.bin .add 3 (tm 15) (tm 28)) (P 29)::
.go (.move (tm 29)) (P 5)::
[]) [.ok,.ok,.ok,.ok,.ok,.ok,.ok,.ok,.ok,.ok,.ok,.ok,.ok,.ok,.ok,.ok]))) (.run (.go (.bin .add 3 (tm 10) (.con (.int .i64 (.ofNat 1)))) (P 30)::
.go (.move (tm 30)) (P 10)::
[])))))))) (.seq (.run (.go (.move (tm 5)) (P 31)::
.go (.move (tm 31)) (P 4)::
[])) .ret))))
theorem de72 : @compF Try.prog (Gl.none Try.prog) Try.f72 2=.mk d72 (mkTT 32) [(P 0),(P 1)] [.tmp (P 4)]:=by kernel_rfl
theorem dg72 : Try.prog.funcs[72]?=some Try.f72:=Try.func72
theorem do72 : okF Try.prog Try.f72=true:=by kernel_rfl
def can (T : Tb) (N : List (List Int)) : Prop:=N.length=T.C.length/\∀ row∈N,rowOk (cols T) 0 10100 row
instance (T : Tb) (N : List (List Int)) : Decidable (can T N):=by unfold can;infer_instance
def dist : List Int->List Int->Int
 | x::a,y::b=>max (y-x) (x-y)+dist a b
 | _,_=>0
theorem dist_nil (b : List Int) : dist [] b=0:=by cases b<;>rfl
theorem dist_take : ∀ {a b : List Int} {k : Nat} (h1 : k<a.length) (h2 : k<b.length),dist (a.take (k+1)) b=dist (a.take k) b+max (b[k]-a[k]) (a[k]-b[k])
 | [],_,_,h,_=>by simp at h
 | _::_,[],_,_,h=>by simp at h
 | x::a,y::b,0,_,_=>by simp[dist,dist_nil]
 | x::a,y::b,k+1,h1,h2=>by
  have:=dist_take (a:=a) (b:=b) (k:=k) (by simpa using h1) (by simpa using h2)
  simp only[List.take_succ_cons,dist,List.getElem_cons_succ,this];omega
theorem dist_bd {A : Int} (hA : 0<=A) : ∀ {a b : List Int},(∀ x∈a,0<=x/\x<=A)->(∀ x∈b,0<=x/\x<=A)->0<=dist a b/\dist a b<=a.length*A
 | [],b,_,_=>by simp[dist_nil]
 | x::a,[],_,_=>by
  simp only[dist,List.length_cons]
  exact⟨by omega,Int.mul_nonneg (by omega) hA⟩
 | x::a,y::b,h1,h2=>by
  have ih:=dist_bd hA (a:=a) (b:=b) (λz hz=>h1 z (by simp[hz])) (λz hz=>h2 z (by simp[hz]))
  have hx:=h1 x (by simp)
  have hy:=h2 y (by simp)
  simp only[dist,List.length_cons]
  have : ((a.length+1 : Nat) : Int)*A=a.length*A+A:=by push_cast;rw[Int.add_mul];simp
  omega
theorem f72_ok {H : Heap} {x y : Value} {a b : List Int} (hx : RI H x a) (hy : RI H y b) (hl : a.length<=b.length) (hn : a.length<=100) (ha : ∀ v∈a,0<=v/\v<=20000) (hb : ∀ v∈b,0<=v/\v<=20000) : Gives Try.prog 72 [x,y] H (I (dist a b)):=by
 have hla:=hx.len
 refine F.entryL rfl dg72 do72 de72 rfl (by kernel_rfl) ?_
 simp only[sets]
 refine V.re [(0,x),(1,y)] (N:=32) zE zY ?_
 intro t hF hA
 simp only[Kn,and_true] at hA
 refine zS ?_
 refine V.l0 ?_
 refine zS ?_
 refine V.l0 ?_
 refine zS ?_
 have zf:=@hla
 refine V.lz ?_
 refine zS ?_
 refine V.loop (λz t m X=>∃ (k : Nat),k<=a.length/\z=a.length-k/\m=[]/\Grow H X/\Full 32 t/\Kn [(0,x),(1,y),(5,I (dist (a.take k) b)),(8,x),(9,I a.length),(10,I k)] t) a.length ?_ ?_
 ·refine⟨0,by omega,by omega,rfl,.refl _,?_⟩
  rw[List.take_zero,dist_nil]
  exact⟨zF,zK⟩
 clear hF hA
 rintro z t m X ⟨k,hk,rfl,rfl,hg,hF,hA⟩
 simp only[Kn,and_true] at hA
 refine zS ?_
 refine V.l0 ?_
 refine zS ?_
 refine V.condP zP (λhlt=>?_) (λhlt=>?_)
 ·have hlt' : k<a.length:=by omega
  have hltb : k<b.length:=by omega
  obtain⟨p,hp,hxx⟩:=hx.at hlt'
  have hx1:=hxx X hg
  obtain⟨q,hq,hyy⟩:=hy.at hltb
  have hy1:=hyy X hg
  have hak:=ha _ (List.getElem_mem hlt')
  have hbk:=hb _ (List.getElem_mem hltb)
  have hds:=dist_take hlt' hltb
  have hbd:=dist_bd (by decide) (a:=a.take k) (λv hv=>ha v (List.mem_of_mem_take hv)) hb
  have hlk : (a.take k).length=k:=by rw[List.length_take];omega
  rw[hlk] at hbd
  have emx : (if b[k]-a[k] > a[k]-b[k] then b[k]-a[k] else a[k]-b[k])=max (b[k]-a[k]) (a[k]-b[k]):=by split<;>omega
  refine zS ?_
  have zf:=aI @hp<|@hx1
  refine V.lz ?_
  refine zS ?_
  have zf:=aI @hq<|aI @hy1<|@emx
  refine V.dz ?_ ?_ rfl ?_
  ·exact zM
  ·simp only[dcAll,dcOk,wantD,List.cons_append,List.nil_append,true_and,and_true]
  refine zS ?_
  refine V.l0 ?_
  rw[<- hds]
  refine V.nil (Or.inl ⟨rfl,a.length-(k+1),by omega,?_⟩)
  exact⟨k+1,hlt',rfl,rfl,hg,zF,zK⟩
 ·obtain rfl : k=a.length:=by omega
  rw[List.take_length] at hA
  refine V.exit ?_
  refine zX ?_
  refine V.nil (Or.inr ⟨by simp,?_⟩)
  refine zX ?_
  refine zS ?_
  refine V.l0 ?_
  refine zS ?_
  refine V.ret (V.rets rfl (Lv.retG (by simp +contextual (disch:=first|omega|simp only[nx];omega) only[D1,cells_alloc_at,cells_alloc_ne,cells_set_at,cells_set_ne,yres,yres1,yresL,qA,qB,qC,D5,hF,hA,↓reduceIte,qD,qE];rfl) ?_ ?_))
  ·exact hg
  ·rfl
def chg : List (List Int)->List (List Int)->Int
 | x::a,y::b=>dist x y+chg a b
 | _,_=>0
theorem chg_nil (a : List (List Int)) : chg a []=0:=by cases a<;>rfl
theorem chg_take : ∀ {a b : List (List Int)} {k : Nat} (h1 : k<a.length) (h2 : k<b.length),chg a (b.take (k+1))=chg a (b.take k)+dist a[k] b[k]
 | [],_,_,h,_=>by simp at h
 | _::_,[],_,_,h=>by simp at h
 | x::a,y::b,0,_,_=>by simp[chg,chg_nil]
 | x::a,y::b,k+1,h1,h2=>by
  have:=chg_take (a:=a) (b:=b) (k:=k) (by simpa using h1) (by simpa using h2)
  simp only[List.take_succ_cons,chg,List.getElem_cons_succ,this];omega
theorem chg_bd {A : Int} (hA : 0<=A) : ∀ {a b : List (List Int)},(∀ x∈a,∀ y∈b,0<=dist x y/\dist x y<=A)->0<=chg a b/\chg a b<=b.length*A
 | [],[],_=>by simp[chg]
 | x::a,[],_=>by simp[chg]
 | [],y::b,h=>by
  simp only[chg]
  exact⟨Int.le_refl _,Int.mul_nonneg (by omega) hA⟩
 | x::a,y::b,h=>by
  have ih:=chg_bd hA (a:=a) (b:=b) (λu hu v hv=>h u (by simp[hu]) v (by simp[hv]))
  have hx:=h x (by simp) y (by simp)
  simp only[chg,List.length_cons]
  have : ((b.length+1 : Nat) : Int)*A=b.length*A+A:=by push_cast;rw[Int.add_mul];simp
  omega
def ce (T : Tb) (N : List (List Int)) : Int:=if flt T≠0 then flt T else if ¬ can T N then 2 else 0
theorem can_sh {T : Tb} {N : List (List Int)} (hf : fits T) (hv : valid T) (hc : can T N) : N.length<=T.C.length/\N.length<=100/\(∀ row∈T.C,row.length<=100/\∀ v∈row,0<=v/\v<=20000)/\(∀ row∈N,∀ v∈row,0<=v/\v<=20000)/\∀ r∈T.C,∀ row∈N,r.length<=row.length:=by
 obtain⟨f1,f2,f3⟩:=hf
 obtain⟨v1,v2,v3,v4⟩:=hv
 obtain⟨c1,c2⟩:=hc
 refine⟨by omega,by omega,λrow hr=>⟨by have:=f3 row hr;omega,λv hv=>by have:=(v3 row hr).2 v hv;omega⟩,λrow hr v hv=>by have:=(c2 row hr).2 v hv;omega,λr hr row hrow=>?_⟩
 have:=(v3 r hr).1
 have:=(c2 row hrow).1
 omega
end Go.Xe.TRX
end
