/- What the functions of the layer round come to: ProveRounding. Conditions: none. -/
import Derived.Test.YthgjooibimphiaaTSN
-- MOD TR
namespace Go.Xe.TRX
open Go Go.Xe Go.Proofs
open Nat renaming reduceLeDiff → qA, reduceSub → qB, reduceAdd → qC, reduceEqDiff → qD, reduceLT → qE
open Int renaming reduceNegSucc → qF, reduceEq → qG
open Go.Xe.V renaming seq → sA, block → sB, scope → sC, skip → sD, close → sE
open Go.Xe renaming pth → P
open Go.Xe.Rnd
set_option maxRecDepth 100000
set_option maxHeartbeats 3200000
set_option linter.unusedSimpArgs false
noncomputable def d22 : FCode:=(.seq (.run (.go (.box 33 (tm 0)) (P 3)::
.go (.move (.con (.bool false))) (P 6)::
[])) (.seq (.run (.go (.loadN 3 (tm 3)) (P 10)::
.go (.move (tm 1)) (P 11)::
.go (.call (.con (.func (.func 20) ⟨[]⟩ ⟨[]⟩)) [(tm 10),(tm 11)]) (P 12)::
.go (.move (tm 12)) (P 9)::
.go (.extract (tm 9) 0) (P 13)::
.go (.extract (tm 9) 1) (P 14)::
.go (.move (tm 13)) (P 7)::
.go (.move (tm 14)) (P 8)::
[])) (.seq (.run (.go (.move (tm 8)) (P 15)::
.go (.bin .eql 29 (tm 15) (.con (.int .i64 (.ofNat 0)))) (P 16)::
.go (.move (tm 16)) (P 17)::
.gd (P 17) true (.move (tm 7)) (P 18)::
.gd (P 17) true (.move (tm 2)) (P 19)::
.gd (P 17) true (.bin .leq 3 (tm 18) (tm 19)) (P 20)::
.go (.pick (tm 17) (tm 20) (.con (.bool false))) (P 21)::
.go (.move (tm 21)) (P 22)::
.gd (P 22) true (.loadN 3 (tm 3)) (P 23)::
.gd (P 22) true (.call (.con (.func (.func 50) ⟨[]⟩ ⟨[]⟩)) [tm 23]) (P 24)::
.gd (P 22) true (.move (tm 1)) (P 25)::
.gd (P 22) true (.call (.con (.func (.func 51) ⟨[]⟩ ⟨[]⟩)) [(tm 24),(tm 25)]) (P 26)::
.go (.pick (tm 22) (tm 26) (.con (.bool false))) (P 27)::
.go (.move (tm 27)) (P 6)::
[])) .ret)))
theorem de22 : @compF Try.prog (Gl.none Try.prog) Try.f22 3=.mk d22 (mkTT 28) [(P 0),(P 1),(P 2)] [.tmp (P 6)]:=by kernel_rfl
theorem dg22 : Try.prog.funcs[22]?=some Try.f22:=Try.func22
theorem do22 : okF Try.prog Try.f22=true:=by kernel_rfl
def prv (T : Tb) (N : List (List Int)) (q : Int) : Prop:=ce T N=0∧chg T.C N≤q∧isr T N
instance (T : Tb) (N : List (List Int)) (q : Int) : Decidable (prv T N q):=by unfold prv;infer_instance
theorem f22_ok {H : Heap} {c f y : Value} {T : Tb} {N : List (List Int)} (q : Int) (h : TV H c f T) (hs : sh T) (hy : Nest RI H y N) (n1 : N.length≤1048576) (n2 : ∀ row∈N,row.length≤1048576) : Gives Try.prog 22 [.agg ⟨[I T.b,c,f]⟩,y,I q] H (.bool (decide (prv T N q))):=by
 by_cases h0 : ce T N=0
 ·obtain⟨hf,hv,hc⟩:=ce_0.1 h0
  by_cases hq : chg T.C N≤q
  ·have e0 : (if ce T N=0 then chg T.C N else 0)=chg T.C N:=if_pos h0
   refine F.entryL rfl dg22 do22 de22 rfl (by kernel_rfl) ?_
   simp only[sets]
   refine V.re [(0,.agg ⟨[I T.b,c,f]⟩),(1,y),(2,I q)] (N:=28) zE zY ?_
   intro t hF hA
   simp only[Kn,and_true] at hA
   refine zS ?_
   refine V.l0 ?_
   refine V.heap (fun X=>Grow H X∧Bx X H.next [I T.b,c,f] 33) ⟨?_,?_⟩ ?_
   ·exact zW
   ·exact zB
   rintro H1 ⟨g1,b1⟩
   have h1:=h.grow g1
   have y1:=hy.grow ri g1
   refine zS ?_
   refine V.run ?_
   have zf:=b1.2
   refine VI.sz 2 ?_
   simp only[ds]
   refine VI.callA rfl (f20_ok h1 hs y1 n1 n2) zA (fun H2 g2=>?_)
   have b2:=b1.grow g2
   have h2:=h1.grow g2
   have y2:=y1.grow ri g2
   rw[e0]
   refine VI.l0 ?_
   refine zS ?_
   refine V.run ?_
   refine VI.steps' 9 (by simp +contextual (disch:=first|omega|simp only[nx];omega) only[D4,qF,qG,qA,qB,qC,D5,hF,hA,↓reduceIte,qD,qE,b2.2,h0,hq,eq_self];with_reducible rfl) ?_
   simp only[ds]
   refine VI.callRT zG zA (f50_ok h2 hf.1 (fun r hr=>⟨hf.2.2 r hr,fun v hv'=>by have:=(hv.2.2.1 r hr).2 v hv';omega⟩)) zA (fun w3 H3 ⟨g3,s,hw3,h3⟩=>?_)
   subst hw3
   refine VI.s0 1 ?_
   simp only[ds]
   refine VI.callAT zG rfl (f51_ok h3 (y2.grow ri g3) hf hv hc) zA (fun H4 g4=>?_)
   refine VI.l0 ?_
   refine zS ?_
   refine V.ret (V.rets rfl (Lv.retG (by simp +contextual (disch:=first|omega|simp only[nx];omega) only[D1,cells_alloc_at,cells_alloc_ne,cells_set_at,cells_set_ne,yres,yres1,yresL,qA,qB,qC,D5,hF,hA,↓reduceIte,qD,qE];rfl) ?_ ?_))
   ·exact ((g1.trans g2).trans g3).trans g4
   ·congr 1
    rw[decide_eq_decide]
    exact⟨fun hh=>⟨h0,hq,hh⟩,fun hh=>hh.2.2⟩
  ·have e0 : (if ce T N=0 then chg T.C N else 0)=chg T.C N:=if_pos h0
   refine F.entryL rfl dg22 do22 de22 rfl (by kernel_rfl) ?_
   simp only[sets]
   refine V.re [(0,.agg ⟨[I T.b,c,f]⟩),(1,y),(2,I q)] (N:=28) zE zY ?_
   intro t hF hA
   simp only[Kn,and_true] at hA
   refine zS ?_
   refine V.l0 ?_
   refine V.heap (fun X=>Grow H X∧Bx X H.next [I T.b,c,f] 33) ⟨?_,?_⟩ ?_
   ·exact zW
   ·exact zB
   rintro H1 ⟨g1,b1⟩
   have h1:=h.grow g1
   have y1:=hy.grow ri g1
   refine zS ?_
   refine V.run ?_
   have zf:=b1.2
   refine VI.sz 2 ?_
   simp only[ds]
   refine VI.callA rfl (f20_ok h1 hs y1 n1 n2) zA (fun H2 g2=>?_)
   have b2:=b1.grow g2
   have h2:=h1.grow g2
   have y2:=y1.grow ri g2
   rw[e0]
   refine VI.l0 ?_
   refine zS ?_
   refine V.run ?_
   refine VI.steps' 9 (by simp +contextual (disch:=first|omega|simp only[nx];omega) only[D4,qF,qG,qA,qB,qC,D5,hF,hA,↓reduceIte,qD,qE,b2.2,h0,hq,eq_self];with_reducible rfl) ?_
   simp only[ds]
   refine VI.gdF zG ?_
   refine VI.s0 1 ?_
   simp only[ds]
   refine VI.gdF zG ?_
   refine VI.l0 ?_
   refine zS ?_
   refine V.ret (V.rets rfl (Lv.retG (by simp +contextual (disch:=first|omega|simp only[nx];omega) only[D1,cells_alloc_at,cells_alloc_ne,cells_set_at,cells_set_ne,yres,yres1,yresL,qA,qB,qC,D5,hF,hA,↓reduceIte,qD,qE];rfl) ?_ ?_))
   ·exact g1.trans g2
   ·exact congrArg _ (decide_eq_false (fun hh=>hq hh.2.1)).symm
 ·skip
  refine F.entryL rfl dg22 do22 de22 rfl (by kernel_rfl) ?_
  simp only[sets]
  refine V.re [(0,.agg ⟨[I T.b,c,f]⟩),(1,y),(2,I q)] (N:=28) zE zY ?_
  intro t hF hA
  simp only[Kn,and_true] at hA
  refine zS ?_
  refine V.l0 ?_
  refine V.heap (fun X=>Grow H X∧Bx X H.next [I T.b,c,f] 33) ⟨?_,?_⟩ ?_
  ·exact zW
  ·exact zB
  rintro H1 ⟨g1,b1⟩
  have h1:=h.grow g1
  have y1:=hy.grow ri g1
  refine zS ?_
  refine V.run ?_
  have zf:=b1.2
  refine VI.sz 2 ?_
  simp only[ds]
  refine VI.callA rfl (f20_ok h1 hs y1 n1 n2) zA (fun H2 g2=>?_)
  have b2:=b1.grow g2
  have h2:=h1.grow g2
  have y2:=y1.grow ri g2
  refine VI.l0 ?_
  refine zS ?_
  refine V.run ?_
  have zf:=And.intro b2.2<|@h0
  refine VI.sz 9 ?_
  simp only[ds]
  refine VI.gdF zG ?_
  refine VI.s0 1 ?_
  simp only[ds]
  refine VI.gdF zG ?_
  refine VI.l0 ?_
  refine zS ?_
  refine V.ret (V.rets rfl (Lv.retG (by simp +contextual (disch:=first|omega|simp only[nx];omega) only[D1,cells_alloc_at,cells_alloc_ne,cells_set_at,cells_set_ne,yres,yres1,yresL,qA,qB,qC,D5,hF,hA,↓reduceIte,qD,qE];rfl) ?_ ?_))
  ·exact g1.trans g2
  ·exact congrArg _ (decide_eq_false (fun hh=>h0 hh.1)).symm
end Go.Xe.TRX
/- What the functions of the layer round come to: the reference's error of a table, Alike, Change. Conditions: none. -/
-- MOD TR
namespace Go.Xe.TRX
open Go Go.Xe Go.Proofs
open Nat renaming reduceLeDiff → qA, reduceSub → qB, reduceAdd → qC, reduceEqDiff → qD, reduceLT → qE
open Int renaming reduceNegSucc → qF, reduceEq → qG
open Go.Xe.V renaming seq → sA, block → sB, scope → sC, skip → sD, close → sE
open Go.Xe renaming pth → P
open Go.Xe.Rnd
set_option maxRecDepth 100000
set_option maxHeartbeats 3200000
set_option linter.unusedSimpArgs false
noncomputable def d44 : FCode:=(.seq (.run (.go (.box 25 (tm 0)) (P 1)::
.go (.move (.con (.int .i64 (.ofNat 0)))) (P 2)::
[])) (.seq (.seq (.run (.go (.fieldAddr 1 (tm 1)) (P 3)::
.go (.load1 (tm 3)) (P 4)::
.go (.len 0 (tm 4)) (P 5)::
.go (.bin .eql 3 (tm 5) (.con (.int .i64 (.ofNat 0)))) (P 6)::
[])) (.cond (tm 6) (.seq (.run (.go (.move (.con (.int .i64 (.ofNat 0)))) (P 2)::
[])) .ret) .skip)) (.seq (.run (.go (.fieldAddr 1 (tm 1)) (P 7)::
.go (.load1 (tm 7)) (P 8)::
.go (.indexAddr none 1 (tm 8) (.con (.int .i64 (.ofNat 0)))) (P 9)::
.go (.load1 (tm 9)) (P 10)::
.go (.len 0 (tm 10)) (P 11)::
.go (.move (tm 11)) (P 2)::
[])) .ret)))
theorem de44 : @compF Try.prog (Gl.none Try.prog) Try.f44 1=.mk d44 (mkTT 12) [(P 0)] [.tmp (P 2)]:=by kernel_rfl
theorem dg44 : Try.prog.funcs[44]?=some Try.f44:=Try.func44
theorem do44 : okF Try.prog Try.f44=true:=by kernel_rfl
noncomputable def d24 : FCode:=(.seq (.run (.go (.box 25 (tm 0)) (P 2)::
.go (.move (.con (.bool false))) (P 4)::
[])) (.seq (.seq (.run (.go (.move (.con (.int .i64 (.ofNat 0)))) (P 5)::
[])) (.block 0 (.loop (.seq (.seq (.run (.go (.move (tm 5)) (P 6)::
.go (.move (tm 1)) (P 7)::
.go (.len 0 (tm 7)) (P 8)::
.go (.bin .lss 3 (tm 6) (tm 8)) (P 9)::
[])) (.cond (tm 9) .skip (.exit 0))) (.seq (.block 1 (.seq (.draw 8 (.go (.move (tm 1)) (P 12)::
.go (.move (tm 5)) (P 13)::
.go (.indexAddr none 1 (tm 12) (tm 13)) (P 14)::
.go (.load1 (tm 14)) (P 15)::
.go (.len 0 (tm 15)) (P 16)::
.go (.loadN 3 (tm 2)) (P 17)::
.go (.call (.con (.func (.func 44) ⟨[]⟩ ⟨[]⟩)) [tm 17]) (P 18)::
.go (.bin .neq 3 (tm 16) (tm 18)) (P 19)::
[]) [.ok,.ok,.ok,.rd none (.load1 (tm 14)) (some (P 15)) [7],.rd none (.len 0 (tm 15)) (some (P 16)) [7],.ok,.ok,.ok]) (.cond (tm 19) (.seq (.run (.go (.move (.con (.bool false))) (P 4)::
[])) .ret) .skip))) (.run (.go (.move (tm 5)) (P 10)::
.go (.bin .add 3 (tm 10) (.con (.int .i64 (.ofNat 1)))) (P 11)::
.go (.move (tm 11)) (P 5)::
[]))))))) (.seq (.run (.go (.move (tm 1)) (P 20)::
.go (.len 0 (tm 20)) (P 21)::
.go (.fieldAddr 1 (tm 2)) (P 22)::
.go (.load1 (tm 22)) (P 23)::
.go (.len 0 (tm 23)) (P 24)::
.go (.bin .eql 3 (tm 21) (tm 24)) (P 25)::
.go (.move (tm 25)) (P 4)::
[])) .ret)))
theorem de24 : @compF Try.prog (Gl.none Try.prog) Try.f24 2=.mk d24 (mkTT 26) [(P 0),(P 1)] [.tmp (P 4)]:=by kernel_rfl
theorem dg24 : Try.prog.funcs[24]?=some Try.f24:=Try.func24
theorem do24 : okF Try.prog Try.f24=true:=by kernel_rfl
noncomputable def d26 : FCode:=(.seq (.run (.go (.box 25 (tm 0)) (P 2)::
.go (.move (.con (.int .i64 (.ofNat 0)))) (P 4)::
[])) (.seq (.run (.go (.move (.con (.int .i64 (.ofNat 0)))) (P 5)::
[])) (.seq (.seq (.run (.go (.move (.con (.int .i64 (.ofNat 0)))) (P 6)::
[])) (.block 0 (.loop (.seq (.seq (.run (.go (.move (tm 6)) (P 8)::
.go (.move (tm 1)) (P 9)::
.go (.len 0 (tm 9)) (P 10)::
.go (.bin .lss 3 (tm 8) (tm 10)) (P 11)::
[])) (.cond (tm 11) .skip (.exit 0))) (.seq (.block 1 (.seq (.run (.go (.move (.con (.int .i64 (.ofNat 0)))) (P 7)::
[])) (.block 2 (.loop (.seq (.seq (.run (.go (.move (tm 7)) (P 14)::
.go (.move (tm 1)) (P 15)::
.go (.move (tm 6)) (P 16)::
.go (.indexAddr none 1 (tm 15) (tm 16)) (P 17)::
.go (.load1 (tm 17)) (P 18)::
.go (.len 0 (tm 18)) (P 19)::
.go (.bin .lss 3 (tm 14) (tm 19)) (P 20)::
[])) (.cond (tm 20) .skip (.exit 2))) (.seq (.block 3 (.draw 36 (.go (.move (tm 5)) (P 23)::
.go (.move (tm 1)) (P 24)::
.go (.move (tm 6)) (P 25)::
.go (.indexAddr none 1 (tm 24) (tm 25)) (P 26)::
.go (.load1 (tm 26)) (P 27)::
.go (.move (tm 7)) (P 28)::
.go (.indexAddr none 1 (tm 27) (tm 28)) (P 29)::
.go (.load1 (tm 29)) (P 30)::
.go (.fieldAddr 1 (tm 2)) (P 31)::
.go (.load1 (tm 31)) (P 32)::
.go (.move (tm 6)) (P 33)::
.go (.indexAddr none 1 (tm 32) (tm 33)) (P 34)::
.go (.load1 (tm 34)) (P 35)::
.go (.move (tm 7)) (P 36)::
.go (.indexAddr none 1 (tm 35) (tm 36)) (P 37)::
.go (.load1 (tm 37)) (P 38)::
.go (.bin .sub 3 (tm 30) (tm 38)) (P 39)::
.go (.fieldAddr 1 (tm 2)) (P 40)::
.go (.load1 (tm 40)) (P 41)::
.go (.move (tm 6)) (P 42)::
.go (.indexAddr none 1 (tm 41) (tm 42)) (P 43)::
.go (.load1 (tm 43)) (P 44)::
.go (.move (tm 7)) (P 45)::
.go (.indexAddr none 1 (tm 44) (tm 45)) (P 46)::
.go (.load1 (tm 46)) (P 47)::
.go (.move (tm 1)) (P 48)::
.go (.move (tm 6)) (P 49)::
.go (.indexAddr none 1 (tm 48) (tm 49)) (P 50)::
.go (.load1 (tm 50)) (P 51)::
.go (.move (tm 7)) (P 52)::
.go (.indexAddr none 1 (tm 51) (tm 52)) (P 53)::
.go (.load1 (tm 53)) (P 54)::
.go (.bin .sub 3 (tm 47) (tm 54)) (P 55)::
.go (.mm true [(tm 39),(tm 55)]) (P 56)::
.go (.bin .add 3 (tm 23) (tm 56)) (P 57)::
.go (.move (tm 57)) (P 5)::
[]) [.ok,.ok,.ok,.ok,.ok,.ok,.ok,.ok,.ok,.ok,.ok,.ok,.ok,.ok,.ok,.ok,.ok,.ok,.ok,.ok,.ok,.ok,.ok,.ok,.ok,.ok,.ok,.ok,.ok,.ok,.ok,.ok,.ok,.ok,.ok,.ok])) (.run (.go (.move (tm 7)) (P 21)::
.go (.bin .add 3 (tm 21) (.con (.int .i64 (.ofNat 1)))) (P 22)::
.go (.move (tm 22)) (P 7)::
[])))))))) (.run (.go (.move (tm 6)) (P 12)::
.go (.bin .add 3 (tm 12) (.con (.int .i64 (.ofNat 1)))) (P 13)::
.go (.move (tm 13)) (P 6)::
[]))))))) (.seq (.run (.go (.move (tm 5)) (P 58)::
.go (.move (tm 58)) (P 4)::
[])) .ret))))
theorem de26 : @compF Try.prog (Gl.none Try.prog) Try.f26 2=.mk d26 (mkTT 59) [(P 0),(P 1)] [.tmp (P 4)]:=by kernel_rfl
theorem dg26 : Try.prog.funcs[26]?=some Try.f26:=Try.func26
theorem do26 : okF Try.prog Try.f26=true:=by kernel_rfl
theorem f44_ok {H : Heap} {c f : Value} {T : Tb} (h : TV H c f T) : Gives Try.prog 44 [.agg ⟨[I T.b,c,f]⟩] H (I (cols T)):=by
 have hl : ∀ X,ylen 0 X c=some (I T.C.length):=h.c.len
 refine F.entryL rfl dg44 do44 de44 rfl (by kernel_rfl) ?_
 simp only[sets]
 refine V.re [(0,.agg ⟨[I T.b,c,f]⟩)] (N:=12) zE zY ?_
 intro t hF hA
 simp only[Kn,and_true] at hA
 refine zS ?_
 refine V.l0 ?_
 refine V.heap (fun X=>Grow H X∧Bx X H.next [I T.b,c,f] 25) ⟨?_,?_⟩ ?_
 ·exact zW
 ·exact zB
 rintro H1 ⟨g1,b1⟩
 refine zS ?_
 have zf:=And.intro b1.2<|@hl
 refine V.lz ?_
 refine zS ?_
 refine V.condP zP (fun h1=>?_) (fun h1=>?_)
 ·refine zS ?_
  refine V.l0 ?_
  refine zS ?_
  refine V.ret (V.rets rfl (Lv.retG (by simp +contextual (disch:=first|omega|simp only[nx];omega) only[D1,cells_alloc_at,cells_alloc_ne,cells_set_at,cells_set_ne,yres,yres1,yresL,qA,qB,qC,D5,hF,hA,↓reduceIte,qD,qE];rfl) ?_ ?_))
  ·exact g1
  ·have : T.C=[]:=List.length_eq_zero_iff.1 (by omega)
   simp[cols,this]
 ·have hk : 0<T.C.length:=by omega
  obtain⟨p,x,hp,hx⟩:=h.c.at ri hk
  obtain⟨hx1,hx2⟩:=hx _ g1
  have hp0 : yindexAddr none 1 c (I 0)=some p:=hp .i64
  have hxl:=hx2.len
  refine zS ?_
  have zf:=And.intro b1.2<|And.intro @hp0<|And.intro @hx1<|@hxl
  refine V.lz ?_
  refine zS ?_
  refine V.ret (V.rets rfl (Lv.retG (by simp +contextual (disch:=first|omega|simp only[nx];omega) only[D1,cells_alloc_at,cells_alloc_ne,cells_set_at,cells_set_ne,yres,yres1,yresL,qA,qB,qC,D5,hF,hA,↓reduceIte,qD,qE];rfl) ?_ ?_))
  ·exact g1
  ·rw[cols_0 hk]
theorem f24_ok {H : Heap} {c f y : Value} {T : Tb} {N : List (List Int)} (h : TV H c f T) (hy : Nest RI H y N) (n1 : N.length≤1048576) : Gives Try.prog 24 [.agg ⟨[I T.b,c,f]⟩,y] H (.bool (decide ((∀ row∈N,row.length=cols T)∧N.length=T.C.length))):=by
 have hl : ∀ X,ylen 0 X c=some (I T.C.length):=h.c.len
 have hln : ∀ X,ylen 0 X y=some (I N.length):=hy.len
 refine F.entryL rfl dg24 do24 de24 rfl (by kernel_rfl) ?_
 simp only[sets]
 refine V.re [(0,.agg ⟨[I T.b,c,f]⟩),(1,y)] (N:=26) zE zY ?_
 intro t hF hA
 simp only[Kn,and_true] at hA
 refine zS ?_
 refine V.l0 ?_
 refine V.heap (fun X=>Grow H X∧Bx X H.next [I T.b,c,f] 25) ⟨?_,?_⟩ ?_
 ·exact zW
 ·exact zB
 rintro H1 ⟨g1,b1⟩
 refine zS ?_
 refine V.l0 ?_
 refine zS ?_
 refine V.loop (fun z t m X=>∃ (k : Nat),k≤N.length∧z=N.length-k∧m=[]∧Grow H1 X∧(∀ row∈N.take k,row.length=cols T)∧Full 26 t∧Kn [(1,y),(2,PT H.next),(5,I k)] t) N.length ?_ ?_
 ·exact⟨0,by omega,by omega,rfl,.refl _,by simp,zF,zK⟩
 clear hF hA
 rintro z t m X ⟨k,hk,rfl,rfl,hg,hall,hF,hA⟩
 simp only[Kn,and_true] at hA
 have bX:=b1.grow hg
 have gX:=g1.trans hg
 refine zS ?_
 have zf:=@hln
 refine V.lz ?_
 refine zS ?_
 refine V.condP zP (fun hlt=>?_) (fun hlt=>?_)
 ·have hlt' : k<N.length:=by omega
  obtain⟨p,u,hp,hu⟩:=hy.at ri hlt'
  obtain⟨hu1,hu2⟩:=hu X gX
  have hpk:=hp .i64
  have hul:=hu2.len
  have vu : vEq 3 u u=true:=(sl1 (ri.sl hu2)).2.2.1
  refine zS ?_
  refine V.draw ?_
  have zf:=And.intro @hpk<|And.intro @hu1<|And.intro @hul<|bX.2
  refine VD.nz 6 ?_
  simp only[ds]
  refine VD.callA zA (f44_ok (h.grow gX)) zA (fun Y gy=>?_)
  have hu1Y:=(hu Y (gX.trans gy)).1
  have m2:=gy.1
  refine VD.d0 ?_ ?_ rfl ?_
  ·exact zM
  ·simp only[dcAll,dcOk,wantD,List.cons_append,List.nil_append,true_and,and_true]
   have zf:=And.intro @hu1<|And.intro @hu1Y<|@hul
   exact⟨zR,zR⟩
  refine zS ?_
  refine V.condP zP (fun hno=>?_) (fun hno=>?_)
  ·refine zS ?_
   refine V.l0 ?_
   refine zS ?_
   refine V.ret (V.rets rfl (Or.inr ⟨by simp,V.rets rfl (Lv.retG (by simp +contextual (disch:=first|omega|simp only[nx];omega) only[D1,cells_alloc_at,cells_alloc_ne,cells_set_at,cells_set_ne,yres,yres1,yresL,qA,qB,qC,D5,hF,hA,↓reduceIte,qD,qE];rfl) ?_ ?_)⟩))
   ·exact gX.trans gy
   ·exact congrArg _ (decide_eq_false (fun hh=>hno (by have:=hh.1 _ (List.getElem_mem hlt');omega))).symm
  ·refine zS ?_
   refine V.l0 ?_
   refine V.nil (Or.inl ⟨rfl,N.length-(k+1),by omega,?_⟩)
   refine⟨k+1,hlt',rfl,rfl,hg.trans gy,fun row hr=>?_,zF,zK⟩
   rw[tk1 hlt'] at hr
   rcases List.mem_append.1 hr with hr|hr
   ·exact hall row hr
   ·rw[List.mem_singleton.1 hr];omega
 ·obtain rfl : k=N.length:=by omega
  rw[List.take_length] at hall
  refine V.exit ?_
  refine zX ?_
  refine V.nil (Or.inr ⟨by simp,?_⟩)
  refine zX ?_
  refine zS ?_
  have zf:=And.intro @hln<|And.intro bX.2<|@hl
  refine V.lz ?_
  refine zS ?_
  refine V.ret (V.rets rfl (Lv.retG (by simp +contextual (disch:=first|omega|simp only[nx];omega) only[D1,cells_alloc_at,cells_alloc_ne,cells_set_at,cells_set_ne,yres,yres1,yresL,qA,qB,qC,D5,hF,hA,↓reduceIte,qD,qE];rfl) ?_ ?_))
  ·exact gX
  ·congr 1
   rw[decide_eq_decide]
   exact⟨fun hh=>⟨hall,by omega⟩,fun hh=>by have:=hh.2;omega⟩
theorem f26_ok {H : Heap} {c f y : Value} {T : Tb} {N : List (List Int)} (h : TV H c f T) (hy : Nest RI H y N) (hf : fits T) (hv : valid T) (hc : can T N) : Gives Try.prog 26 [.agg ⟨[I T.b,c,f]⟩,y] H (I (chg T.C N)):=by
 obtain⟨k1,k2,k3,k4,k5⟩:=can_sh hf hv hc
 have hln : ∀ X,ylen 0 X y=some (I N.length):=hy.len
 refine F.entryL rfl dg26 do26 de26 rfl (by kernel_rfl) ?_
 simp only[sets]
 refine V.re [(0,.agg ⟨[I T.b,c,f]⟩),(1,y)] (N:=59) zE zY ?_
 intro t hF hA
 simp only[Kn,and_true] at hA
 refine zS ?_
 refine V.l0 ?_
 refine V.heap (fun X=>Grow H X∧Bx X H.next [I T.b,c,f] 25) ⟨?_,?_⟩ ?_
 ·exact zW
 ·exact zB
 rintro H1 ⟨g1,b1⟩
 refine zS ?_
 refine V.l0 ?_
 refine zS ?_
 refine V.l0 ?_
 refine zS ?_
 refine V.loop (fun z t m X=>∃ (k : Nat),k≤N.length∧z=N.length-k∧m=[]∧X=H1∧Full 59 t∧Kn [(1,y),(2,PT H.next),(5,I (chg T.C (N.take k))),(6,I k)] t) N.length ?_ ?_
 ·refine⟨0,by omega,by omega,rfl,rfl,?_⟩
  rw[List.take_zero,chg_nil]
  exact⟨zF,zK⟩
 clear hF hA
 rintro z t m X ⟨k,hk,rfl,rfl,hX,hF,hA⟩
 obtain rfl : H1=X:=hX.symm
 simp only[Kn,and_true] at hA
 refine zS ?_
 have zf:=@hln
 refine V.lz ?_
 refine zS ?_
 refine V.condP zP (fun hlt=>?_) (fun hlt=>?_)
 ·have hlt' : k<N.length:=by omega
  have hltc : k<T.C.length:=by omega
  obtain⟨p,u,hp,hu⟩:=hy.at ri hlt'
  obtain⟨hu1,hu2⟩:=hu H1 g1
  have hpk:=hp .i64
  have hul:=hu2.len
  obtain⟨p',u',hp',hu'⟩:=h.c.at ri hltc
  obtain⟨hu1',hu2'⟩:=hu' H1 g1
  have hpk':=hp' .i64
  have hCk:=k3 _ (List.getElem_mem hltc)
  have hNk:=k4 _ (List.getElem_mem hlt')
  have hle:=k5 _ (List.getElem_mem hltc) _ (List.getElem_mem hlt')
  have hrl : (N[k]).length=(T.C[k]).length:=by
   have q1:=(hc.2 _ (List.getElem_mem hlt')).1
   have q2:=(hv.2.2.1 _ (List.getElem_mem hltc)).1
   omega
  have hbd:=chg_bd (A:=100*20000) (by decide) (a:=T.C) (b:=N.take k) (fun r hr s hs=>by
   obtain⟨q1,q2⟩:=dist_bd (A:=20000) (by decide) (k3 r hr).2 (k4 s (List.mem_of_mem_take hs))
   have:=(k3 r hr).1
   exact⟨q1,by omega⟩)
  have hlk : (N.take k).length=k:=by rw[List.length_take];omega
  rw[hlk] at hbd
  have hcs:=chg_take hltc hlt'
  refine zS ?_
  refine V.l0 ?_
  refine zS ?_
  refine V.loop (fun z t m X=>∃ (j : Nat),j≤(N[k]).length∧z=(N[k]).length-j∧m=[]∧X=H1∧Full 59 t∧Kn [(1,y),(2,PT H.next),(5,I (chg T.C (N.take k)+dist ((T.C[k]).take j) N[k])),(6,I k),(7,I j)] t) (N[k]).length ?_ ?_
  ·refine⟨0,by omega,by omega,rfl,rfl,?_⟩
   rw[List.take_zero,dist_nil,Int.add_zero]
   exact⟨zF,zK⟩
  clear hF hA
  rintro z t m X ⟨j,hj,rfl,rfl,hX,hF,hA⟩
  obtain rfl : H1=X:=hX.symm
  simp only[Kn,and_true] at hA
  refine zS ?_
  have zf:=And.intro @hpk<|And.intro @hu1<|@hul
  refine V.lz ?_
  refine zS ?_
  refine V.condP zP (fun hltj=>?_) (fun hltj=>?_)
  ·have hj1 : j<(N[k]).length:=by omega
   have hj2 : j<(T.C[k]).length:=by omega
   obtain⟨w,hw,hww⟩:=hu2.at hj1
   have hw1:=hww H1 (.refl _)
   obtain⟨w',hw',hww'⟩:=hu2'.at hj2
   have hw1':=hww' H1 (.refl _)
   have hds:=dist_take hj2 hj1
   have hdb:=dist_bd (by decide) (a:=(T.C[k]).take j) (fun v hv=>hCk.2 v (List.mem_of_mem_take hv)) hNk
   have hlj : ((T.C[k]).take j).length=j:=by rw[List.length_take];omega
   rw[hlj] at hdb
   have b1j:=hCk.2 _ (List.getElem_mem hj2)
   have b2j:=hNk _ (List.getElem_mem hj1)
   have emx : (if (T.C[k])[j]-(N[k])[j] > (N[k])[j]-(T.C[k])[j] then (T.C[k])[j]-(N[k])[j] else (N[k])[j]-(T.C[k])[j])=max ((N[k])[j]-(T.C[k])[j]) ((T.C[k])[j]-(N[k])[j]):=by split<;>omega
   have ead : chg T.C (N.take k)+dist ((T.C[k]).take j) N[k]+max ((N[k])[j]-(T.C[k])[j]) ((T.C[k])[j]-(N[k])[j])=chg T.C (N.take k)+dist ((T.C[k]).take (j+1)) N[k]:=by rw[hds];omega
   refine zS ?_
   have zf:=And.intro @hpk<|And.intro @hu1<|And.intro @hw<|And.intro @hw1<|And.intro b1.2<|And.intro @hpk'<|And.intro @hu1'<|And.intro @hw'<|And.intro @hw1'<|And.intro @emx<|@ead
   refine V.dz ?_ ?_ rfl ?_
   ·exact zM
   ·simp only[dcAll,dcOk,wantD,List.cons_append,List.nil_append,true_and,and_true]
   refine zS ?_
   refine V.l0 ?_
   refine V.nil (Or.inl ⟨rfl,(N[k]).length-(j+1),by omega,?_⟩)
   exact⟨j+1,hj1,rfl,rfl,rfl,zF,zK⟩
  ·obtain rfl : j=(N[k]).length:=by omega
   have e1 : (T.C[k]).take (N[k]).length=T.C[k]:=List.take_of_length_le (by omega)
   rw[e1,← hcs] at hA
   refine V.exit ?_
   refine zX ?_
   refine V.nil (Or.inr ⟨by simp,?_⟩)
   refine zX ?_
   refine zS ?_
   refine V.l0 ?_
   refine V.nil (Or.inl ⟨rfl,N.length-(k+1),by omega,?_⟩)
   exact⟨k+1,hlt',rfl,rfl,rfl,zF,zK⟩
 ·obtain rfl : k=N.length:=by omega
  rw[List.take_length] at hA
  refine V.exit ?_
  refine zX ?_
  refine V.nil (Or.inr ⟨by simp,?_⟩)
  refine zX ?_
  refine zS ?_
  refine V.l0 ?_
  refine zS ?_
  refine V.ret (V.rets rfl (Lv.retG (by simp +contextual (disch:=first|omega|simp only[nx];omega) only[D1,cells_alloc_at,cells_alloc_ne,cells_set_at,cells_set_ne,yres,yres1,yresL,qA,qB,qC,D5,hF,hA,↓reduceIte,qD,qE];rfl) ?_ ?_))
  ·exact g1
  ·rfl
end Go.Xe.TRX
