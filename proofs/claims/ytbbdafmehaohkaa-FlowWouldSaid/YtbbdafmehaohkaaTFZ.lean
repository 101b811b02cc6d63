/- What the functions of the layer flow come to: the error of a table. Conditions: none. -/
import Derived.Test.YtbbdafmehaohkaaTFY
-- MOD TF
namespace Go.Xe.TFX
open Go Go.Xe Go.Proofs
open Nat renaming reduceLeDiff → qA, reduceSub → qB, reduceAdd → qC, reduceEqDiff → qD, reduceLT → qE
open Int renaming reduceNegSucc → qF, reduceEq → qG
open Go.Xe.V renaming seq → sA, block → sB, scope → sC, skip → sD, close → sE
open Go.Xe renaming pth → P
open Go.Xe.Flw
set_option maxRecDepth 100000
set_option maxHeartbeats 3200000
set_option linter.unusedSimpArgs false
noncomputable def d26 : FCode:=(.seq (.run (.go (.box 25 (tm 0)) (P 1)::
.go (.move (.con (.int .i64 (.ofNat 0)))) (P 2)::
[])) (.seq (.run (.go (.loadN 4 (tm 1)) (P 3)::
.go (.call (.con (.func (.func 70) ⟨[]⟩ ⟨[]⟩)) [tm 3]) (P 4)::
.go (.move (tm 4)) (P 2)::
[])) .ret))
theorem de26 : @compF Try.prog (Gl.none Try.prog) Try.f26 1=.mk d26 (mkTT 5) [(P 0)] [.tmp (P 2)]:=by kernel_rfl
theorem dg26 : Try.prog.funcs[26]?=some Try.f26:=Try.func26
theorem do26 : okF Try.prog Try.f26=true:=by kernel_rfl
noncomputable def d109 : FCode:=(.seq (.run (.go (.box 69 (tm 0)) (P 2)::
.go (.move (.con (.bool false))) (P 4)::
[])) (.seq (.run (.go (.fieldAddr 0 (tm 2)) (P 5)::
.go (.load1 (tm 5)) (P 6)::
.go (.move (tm 1)) (P 7)::
.go (.bin .leq 3 (tm 6) (tm 7)) (P 8)::
.go (.move (tm 8)) (P 9)::
.gd (P 9) true (.move (tm 1)) (P 10)::
.gd (P 9) true (.fieldAddr 1 (tm 2)) (P 11)::
.gd (P 9) true (.load1 (tm 11)) (P 12)::
.gd (P 9) true (.bin .leq 3 (tm 10) (tm 12)) (P 13)::
.go (.pick (tm 9) (tm 13) (.con (.bool false))) (P 14)::
.go (.move (tm 14)) (P 4)::
[])) .ret))
theorem de109 : @compF Try.prog (Gl.none Try.prog) Try.f109 2=.mk d109 (mkTT 15) [(P 0),(P 1)] [.tmp (P 4)]:=by kernel_rfl
theorem dg109 : Try.prog.funcs[109]?=some Try.f109:=Try.func109
theorem do109 : okF Try.prog Try.f109=true:=by kernel_rfl
noncomputable def d86 : FCode:=(.seq (.run (.go (.box 69 (tm 0)) (P 2)::
.go (.box 69 (tm 1)) (P 3)::
.go (.move (.con (.bool false))) (P 4)::
[])) (.seq (.run (.go (.loadN 2 (tm 2)) (P 5)::
.go (.fieldAddr 0 (tm 3)) (P 6)::
.go (.load1 (tm 6)) (P 7)::
.go (.call (.con (.func (.func 109) ⟨[]⟩ ⟨[]⟩)) [(tm 5),(tm 7)]) (P 8)::
.go (.move (tm 8)) (P 9)::
.gd (P 9) true (.loadN 2 (tm 2)) (P 10)::
.gd (P 9) true (.fieldAddr 1 (tm 3)) (P 11)::
.gd (P 9) true (.load1 (tm 11)) (P 12)::
.gd (P 9) true (.call (.con (.func (.func 109) ⟨[]⟩ ⟨[]⟩)) [(tm 10),(tm 12)]) (P 13)::
.go (.pick (tm 9) (tm 13) (.con (.bool false))) (P 14)::
.go (.move (tm 14)) (P 15)::
.gd (P 15) true (.fieldAddr 0 (tm 3)) (P 16)::
.gd (P 15) true (.load1 (tm 16)) (P 17)::
.gd (P 15) true (.fieldAddr 1 (tm 3)) (P 18)::
.gd (P 15) true (.load1 (tm 18)) (P 19)::
.gd (P 15) true (.bin .leq 3 (tm 17) (tm 19)) (P 20)::
.go (.pick (tm 15) (tm 20) (.con (.bool false))) (P 21)::
.go (.move (tm 21)) (P 4)::
[])) .ret))
theorem de86 : @compF Try.prog (Gl.none Try.prog) Try.f86 2=.mk d86 (mkTT 22) [(P 0),(P 1)] [.tmp (P 4)]:=by kernel_rfl
theorem dg86 : Try.prog.funcs[86]?=some Try.f86:=Try.func86
theorem do86 : okF Try.prog Try.f86=true:=by kernel_rfl
noncomputable def d85 : FCode:=(.seq (.run (.go (.alloc 69 [(.int .i64 (.ofNat 0)),(.int .i64 (.ofNat 0))]) (P 0)::
[])) (.seq (.run (.go (.build [(.int .i64 (.ofNat 0)),(.int .i64 (.ofNat 0))] [(0,1,(.con (.int .i64 (.ofNat 0)))),(1,1,(.con (.int .i64 (.ofNat 500))))]) (P 1)::
.un (.store 2 (tm 0) (tm 1))::
[])) .ret))
theorem de85 : @compF Try.prog (Gl.none Try.prog) Try.f85 0=.mk d85 (mkTT 2) [] [.many (P 0) 2]:=by kernel_rfl
theorem dg85 : Try.prog.funcs[85]?=some Try.f85:=Try.func85
theorem do85 : okF Try.prog Try.f85=true:=by kernel_rfl
noncomputable def d103 : FCode:=(.seq (.run (.go (.move (.con (.bool false))) (P 4)::
[])) (.seq (.seq (.run (.go (.move (tm 0)) (P 7)::
.go (.len 0 (tm 7)) (P 8)::
.go (.move (.con (.int .i64 (.ofNat 0)))) (P 9)::
[])) (.block 0 (.loop (.seq (.run (.go (.bin .lss 3 (tm 9) (tm 8)) (P 10)::
[])) (.seq (.cond (tm 10) .skip (.exit 0)) (.seq (.block 1 (.seq (.run (.go (.indexAddr none 2 (tm 7) (tm 9)) (P 11)::
.go (.loadN 2 (tm 11)) (P 12)::
.go (.alloc 69 [(.int .i64 (.ofNat 0)),(.int .i64 (.ofNat 0))]) (P 6)::
.un (.store 2 (tm 6) (tm 12))::
[])) (.seq (.run (.go (.move (tm 1)) (P 13)::
.go (.loadN 2 (tm 6)) (P 14)::
.go (.call (tm 13) [tm 14]) (P 15)::
.go (.un .not (tm 15)) (P 16)::
[])) (.cond (tm 16) (.seq (.run (.go (.move (.con (.bool false))) (P 4)::
[])) .ret) .skip)))) (.run (.go (.bin .add 3 (tm 9) (.con (.int .i64 (.ofNat 1)))) (P 17)::
.go (.move (tm 17)) (P 9)::
[])))))))) (.seq (.run (.go (.move (.con (.bool true))) (P 4)::
[])) .ret)))
theorem de103 : @compF Try.prog (Gl.none Try.prog) Try.f103 2=.mk d103 (mkTT 18) [(P 0),(P 1)] [.tmp (P 4)]:=by kernel_rfl
theorem dg103 : Try.prog.funcs[103]?=some Try.f103:=Try.func103
theorem do103 : okF Try.prog Try.f103=true:=by kernel_rfl
noncomputable def d104 : FCode:=(.seq (.run (.go (.move (.con (.bool false))) (P 4)::
[])) (.seq (.seq (.run (.go (.move (tm 0)) (P 7)::
.go (.len 0 (tm 7)) (P 8)::
.go (.move (.con (.int .i64 (.ofNat 0)))) (P 9)::
[])) (.block 0 (.loop (.seq (.run (.go (.bin .lss 3 (tm 9) (tm 8)) (P 10)::
[])) (.seq (.cond (tm 10) .skip (.exit 0)) (.seq (.block 1 (.seq (.run (.go (.indexAddr none 1 (tm 7) (tm 9)) (P 11)::
.go (.load1 (tm 11)) (P 12)::
.go (.move (tm 12)) (P 6)::
[])) (.seq (.run (.go (.move (tm 1)) (P 13)::
.go (.move (tm 6)) (P 14)::
.go (.call (tm 13) [tm 14]) (P 15)::
.go (.un .not (tm 15)) (P 16)::
[])) (.cond (tm 16) (.seq (.run (.go (.move (.con (.bool false))) (P 4)::
[])) .ret) .skip)))) (.run (.go (.bin .add 3 (tm 9) (.con (.int .i64 (.ofNat 1)))) (P 17)::
.go (.move (tm 17)) (P 9)::
[])))))))) (.seq (.run (.go (.move (.con (.bool true))) (P 4)::
[])) .ret)))
theorem de104 : @compF Try.prog (Gl.none Try.prog) Try.f104 2=.mk d104 (mkTT 18) [(P 0),(P 1)] [.tmp (P 4)]:=by kernel_rfl
theorem dg104 : Try.prog.funcs[104]?=some Try.f104:=Try.func104
theorem do104 : okF Try.prog Try.f104=true:=by kernel_rfl
noncomputable def d102 : FCode:=(.seq (.run (.go (.move (.con (.bool false))) (P 4)::
[])) (.seq (.run (.go (.move (tm 0)) (P 5)::
.go (.len 0 (tm 5)) (P 6)::
.go (.loadN 4 (tm 1)) (P 7)::
.go (.call (.con (.func (.func 101) ⟨[]⟩ ⟨[]⟩)) [tm 7]) (P 8)::
.go (.bin .eql 3 (tm 6) (tm 8)) (P 9)::
.go (.move (tm 9)) (P 10)::
.gd (P 10) true (.move (tm 0)) (P 11)::
.gd (P 10) true (.load1 (tm 2)) (P 12)::
.gd (P 10) true (.call (.con (.func (.func 103) ⟨[]⟩ ⟨[]⟩)) [(tm 11),(tm 12)]) (P 13)::
.go (.pick (tm 10) (tm 13) (.con (.bool false))) (P 14)::
.go (.move (tm 14)) (P 4)::
[])) .ret))
theorem de102 : @compF Try.prog (Gl.none Try.prog) Try.f102 3=.mk d102 (mkTT 15) [(P 0),(P 1),(P 2)] [.tmp (P 4)]:=by kernel_rfl
theorem dg102 : Try.prog.funcs[102]?=some Try.f102:=Try.func102
theorem do102 : okF Try.prog Try.f102=true:=by kernel_rfl
noncomputable def d62 : FCode:=(.seq (.run (.go (.box 38 (tm 0)) (P 1)::
.go (.move (.con (.bool false))) (P 2)::
[])) (.seq (.run (.go (.fieldAddr 0 (tm 1)) (P 3)::
.go (.load1 (tm 3)) (P 4)::
.go (.len 0 (tm 4)) (P 5)::
.go (.bin .leq 3 (tm 5) (.con (.int .i64 (.ofNat 4)))) (P 6)::
.go (.move (tm 6)) (P 7)::
.gd (P 7) true (.loadN 4 (tm 1)) (P 8)::
.gd (P 7) true (.call (.con (.func (.func 101) ⟨[]⟩ ⟨[]⟩)) [tm 8]) (P 9)::
.gd (P 7) true (.bin .leq 3 (tm 9) (.con (.int .i64 (.ofNat 4)))) (P 10)::
.go (.pick (tm 7) (tm 10) (.con (.bool false))) (P 11)::
.go (.move (tm 11)) (P 2)::
[])) .ret))
theorem de62 : @compF Try.prog (Gl.none Try.prog) Try.f62 1=.mk d62 (mkTT 12) [(P 0)] [.tmp (P 2)]:=by kernel_rfl
theorem dg62 : Try.prog.funcs[62]?=some Try.f62:=Try.func62
theorem do62 : okF Try.prog Try.f62=true:=by kernel_rfl
noncomputable def d63 : FCode:=(.seq (.run (.go (.box 38 (tm 0)) (P 1)::
.go (.move (.con (.bool false))) (P 2)::
[])) (.seq (.run (.go (.call (.con (.func (.func 85) ⟨[]⟩ ⟨[]⟩)) []) (P 7)::
.go (.makeFunc 86 [tm 7] []) (P 8)::
.go (.build [(.int .i64 (.ofNat 0)),(.int .i64 (.ofNat 0))] [(0,1,(.con (.int .i64 (.ofNat 0)))),(1,1,(.con (.int .i64 (.ofNat 1000))))]) (P 9)::
.go (.makeFunc 86 [tm 9] []) (P 10)::
.go (.build [(.int .i64 (.ofNat 0)),(.int .i64 (.ofNat 0))] [(0,1,(.con (.int .i64 (.negSucc 49)))),(1,1,(.con (.int .i64 (.ofNat 50))))]) (P 11)::
.go (.makeFunc 86 [tm 11] []) (P 12)::
.go (.alloc 152 [.nilFunc]) (P 3)::
.un (.store 1 (tm 3) (tm 8))::
.go (.move (tm 10)) (P 4)::
.go (.move (tm 12)) (P 5)::
[])) (.seq (.run (.go (.makeFunc 102 [] [(tm 1),(tm 3)]) (P 13)::
.go (.move (tm 13)) (P 6)::
[])) (.seq (.draw 55 (.go (.loadN 4 (tm 1)) (P 14)::
.go (.call (.con (.func (.func 101) ⟨[]⟩ ⟨[]⟩)) [tm 14]) (P 15)::
.go (.bin .geq 3 (tm 15) (.con (.int .i64 (.ofNat 2)))) (P 16)::
.go (.move (tm 16)) (P 17)::
.gd (P 17) true (.fieldAddr 0 (tm 1)) (P 18)::
.gd (P 17) true (.load1 (tm 18)) (P 19)::
.gd (P 17) true (.move (tm 6)) (P 20)::
.gd (P 17) true (.call (.con (.func (.func 104) ⟨[]⟩ ⟨[]⟩)) [(tm 19),(tm 20)]) (P 21)::
.go (.pick (tm 17) (tm 21) (.con (.bool false))) (P 22)::
.go (.move (tm 22)) (P 23)::
.gd (P 23) true (.fieldAddr 1 (tm 1)) (P 24)::
.gd (P 23) true (.load1 (tm 24)) (P 25)::
.gd (P 23) true (.len 0 (tm 25)) (P 26)::
.gd (P 23) true (.fieldAddr 0 (tm 1)) (P 27)::
.gd (P 23) true (.load1 (tm 27)) (P 28)::
.gd (P 23) true (.len 0 (tm 28)) (P 29)::
.gd (P 23) true (.bin .sub 3 (tm 29) (.con (.int .i64 (.ofNat 1)))) (P 30)::
.gd (P 23) true (.bin .eql 3 (tm 26) (tm 30)) (P 31)::
.go (.pick (tm 23) (tm 31) (.con (.bool false))) (P 32)::
.go (.move (tm 32)) (P 33)::
.gd (P 33) true (.fieldAddr 1 (tm 1)) (P 34)::
.gd (P 33) true (.load1 (tm 34)) (P 35)::
.gd (P 33) true (.load1 (tm 3)) (P 36)::
.gd (P 33) true (.call (.con (.func (.func 103) ⟨[]⟩ ⟨[]⟩)) [(tm 35),(tm 36)]) (P 37)::
.go (.pick (tm 33) (tm 37) (.con (.bool false))) (P 38)::
.go (.move (tm 38)) (P 39)::
.gd (P 39) true (.fieldAddr 2 (tm 1)) (P 40)::
.gd (P 39) true (.load1 (tm 40)) (P 41)::
.gd (P 39) true (.len 0 (tm 41)) (P 42)::
.gd (P 39) true (.loadN 4 (tm 1)) (P 43)::
.gd (P 39) true (.call (.con (.func (.func 101) ⟨[]⟩ ⟨[]⟩)) [tm 43]) (P 44)::
.gd (P 39) true (.bin .add 3 (tm 44) (.con (.int .i64 (.ofNat 1)))) (P 45)::
.gd (P 39) true (.bin .eql 3 (tm 42) (tm 45)) (P 46)::
.go (.pick (tm 39) (tm 46) (.con (.bool false))) (P 47)::
.go (.move (tm 47)) (P 48)::
.gd (P 48) true (.fieldAddr 2 (tm 1)) (P 49)::
.gd (P 48) true (.load1 (tm 49)) (P 50)::
.gd (P 48) true (.move (tm 4)) (P 51)::
.gd (P 48) true (.call (.con (.func (.func 103) ⟨[]⟩ ⟨[]⟩)) [(tm 50),(tm 51)]) (P 52)::
.go (.pick (tm 48) (tm 52) (.con (.bool false))) (P 53)::
.go (.move (tm 53)) (P 54)::
.gd (P 54) true (.fieldAddr 3 (tm 1)) (P 55)::
.gd (P 54) true (.load1 (tm 55)) (P 56)::
.gd (P 54) true (.len 0 (tm 56)) (P 57)::
.gd (P 54) true (.loadN 4 (tm 1)) (P 58)::
.gd (P 54) true (.call (.con (.func (.func 101) ⟨[]⟩ ⟨[]⟩)) [tm 58]) (P 59)::
.gd (P 54) true (.bin .eql 3 (tm 57) (tm 59)) (P 60)::
.go (.pick (tm 54) (tm 60) (.con (.bool false))) (P 61)::
.go (.move (tm 61)) (P 62)::
.gd (P 62) true (.fieldAddr 3 (tm 1)) (P 63)::
.gd (P 62) true (.load1 (tm 63)) (P 64)::
.gd (P 62) true (.move (tm 5)) (P 65)::
.gd (P 62) true (.call (.con (.func (.func 103) ⟨[]⟩ ⟨[]⟩)) [(tm 64),(tm 65)]) (P 66)::
.go (.pick (tm 62) (tm 66) (.con (.bool false))) (P 67)::
.go (.move (tm 67)) (P 2)::
[]) [.ok,.ok,.ok,.ok,.ok,.ok,.ok,.ok,.ok,.ok,.ok,.ok,.ok,.ok,.ok,.ok,.ok,.ok,.ok,.ok,.ok,.ok,.ok,.ok,.ok,.ok,.ok,.rd (some ((P 39),true)) (.load1 (tm 40)) (some (P 41)) [31],.rd (some ((P 39),true)) (.len 0 (tm 41)) (some (P 42)) [31],.ok,.ok,.ok,.ok,.ok,.ok,.ok,.ok,.ok,.ok,.ok,.ok,.ok,.rd (some ((P 54),true)) (.load1 (tm 55)) (some (P 56)) [46],.rd (some ((P 54),true)) (.len 0 (tm 56)) (some (P 57)) [46],.ok,.ok,.ok,.ok,.ok,.ok,.ok,.ok,.ok,.ok,.ok]) .ret))))
theorem de63 : @compF Try.prog (Gl.none Try.prog) Try.f63 1=.mk d63 (mkTT 68) [(P 0)] [.tmp (P 2)]:=by kernel_rfl
theorem dg63 : Try.prog.funcs[63]?=some Try.f63:=Try.func63
theorem do63 : okF Try.prog Try.f63=true:=by kernel_rfl
noncomputable def d21 : FCode:=(.seq (.run (.go (.box 38 (tm 0)) (P 1)::
.go (.move (.con (.int .i64 (.ofNat 0)))) (P 2)::
[])) (.seq (.block 0 (.seq (.run (.go (.loadN 4 (tm 1)) (P 4)::
.go (.call (.con (.func (.func 62) ⟨[]⟩ ⟨[]⟩)) [tm 4]) (P 5)::
.go (.un .not (tm 5)) (P 6)::
.go (.move (tm 6)) (P 3)::
[])) (.cond (tm 3) (.seq (.run (.go (.move (.con (.int .i64 (.ofNat 3)))) (P 2)::
[])) .ret) (.seq (.run (.go (.loadN 4 (tm 1)) (P 8)::
.go (.call (.con (.func (.func 63) ⟨[]⟩ ⟨[]⟩)) [tm 8]) (P 9)::
.go (.un .not (tm 9)) (P 10)::
.go (.move (tm 10)) (P 7)::
[])) (.cond (tm 7) (.seq (.run (.go (.move (.con (.int .i64 (.ofNat 1)))) (P 2)::
[])) .ret) .skip))))) (.seq (.run (.go (.move (.con (.int .i64 (.ofNat 0)))) (P 2)::
[])) .ret)))
theorem de21 : @compF Try.prog (Gl.none Try.prog) Try.f21 1=.mk d21 (mkTT 11) [(P 0)] [.tmp (P 2)]:=by kernel_rfl
theorem dg21 : Try.prog.funcs[21]?=some Try.f21:=Try.func21
theorem do21 : okF Try.prog Try.f21=true:=by kernel_rfl
theorem f26_ok {H : Heap} {c b r n : Value} {T : Tb} (h : TV H c b r n T) : Gives Try.prog 26 [.agg ⟨[c,b,r,n]⟩] H (I (flt T)):=by
 refine F.entryL rfl dg26 do26 de26 rfl (by kernel_rfl) ?_
 simp only[sets]
 refine V.re [(0,.agg ⟨[c,b,r,n]⟩)] (N:=5) zE zY ?_
 intro t hF hA
 simp only[Kn,and_true] at hA
 refine zS ?_
 refine V.l0 ?_
 refine V.heap (fun X=>Grow H X∧Bx X H.next [c,b,r,n] 25) ⟨?_,?_⟩ ?_
 ·exact zW
 ·exact zB
 rintro H1 ⟨g1,b1⟩
 refine zS ?_
 refine V.run ?_
 have zf:=b1.2
 refine VI.sz 1 ?_
 simp only[ds]
 refine VI.callA rfl (f70_ok (h.grow g1)) zA (fun H2 g2=>?_)
 refine VI.l0 ?_
 refine zS ?_
 refine V.ret (V.rets rfl (Lv.retG (by simp +contextual (disch:=first|omega|simp only[nx];omega) only[D1,cells_alloc_at,cells_alloc_ne,cells_set_at,cells_set_ne,yres,yres1,yresL,qA,qB,qC,D5,hF,hA,↓reduceIte,qD,qE];rfl) ?_ ?_))
 ·exact g1.trans g2
 ·rfl
theorem f109_ok (r : R2) (n : Int) (H : Heap) : Gives Try.prog 109 [.agg ⟨r2 r⟩,I n] H (.bool (decide (r.1≤n∧n≤r.2))):=by
 obtain⟨x,y⟩:=r
 refine F.entryL rfl dg109 do109 de109 rfl (by kernel_rfl) ?_
 simp only[sets]
 refine V.re [(0,.agg ⟨A2 x y⟩),(1,I n)] (N:=15) zE zY ?_
 intro t hF hA
 simp only[Kn,and_true] at hA
 refine zS ?_
 refine V.l0 ?_
 refine zS ?_
 refine V.l0 ?_
 refine zS ?_
 refine V.ret (V.rets rfl (Lv.retG (by simp +contextual (disch:=first|omega|simp only[nx];omega) only[D1,cells_alloc_at,cells_alloc_ne,cells_set_at,cells_set_ne,yres,yres1,yresL,qA,qB,qC,D5,hF,hA,↓reduceIte,qD,qE];rfl) ?_ ?_))
 ·exact zW
 ·rfl
theorem f86_ok (o r : R2) (H : Heap) : Gives Try.prog 86 [.agg ⟨r2 o⟩,.agg ⟨r2 r⟩] H (.bool (decide (wi o.1 o.2 r))):=by
 obtain⟨x,y⟩:=r
 obtain⟨a,b⟩:=o
 refine F.entryL rfl dg86 do86 de86 rfl (by kernel_rfl) ?_
 simp only[sets]
 refine V.re [(0,.agg ⟨A2 a b⟩),(1,.agg ⟨A2 x y⟩)] (N:=22) zE zY ?_
 intro t hF hA
 simp only[Kn,and_true] at hA
 refine zS ?_
 refine V.l0 ?_
 refine V.heap (fun X=>Grow H X∧Bx X H.next (A2 a b) 69∧Bx X (H.next+1) (A2 x y) 69) ⟨?_,?_,?_⟩ ?_
 ·exact zW
 ·exact zB
 ·exact zB
 rintro H1 ⟨g1,b1,c1⟩
 refine zS ?_
 refine V.run ?_
 have zf:=And.intro b1.2<|c1.2
 refine VI.sz 3 ?_
 simp only[ds]
 refine VI.callA rfl (f109_ok (a,b) x _) zA (fun H2 g2=>?_)
 have b2:=b1.grow g2
 have c2:=c1.grow g2
 have zf:=And.intro b2.2<|c2.2
 refine VI.sz 4 ?_
 simp only[ds]
 first|refine VI.callGt zG (fun hc=>zI) (fun hc=>f109_ok (a,b) y _) (fun hc=>zI) (fun H3 g3=>?_)|refine VI.callGf zG (fun hc=>zI) (fun hc=>f109_ok (a,b) y _) (fun hc=>zI) (fun H3 g3=>?_)
 have b3:=b2.grow g3
 have c3:=c2.grow g3
 have zf:=And.intro b3.2<|c3.2
 refine VI.lz ?_
 refine zS ?_
 refine V.ret (V.rets rfl (Lv.retG (by simp +contextual (disch:=first|omega|simp only[nx];omega) only[D1,cells_alloc_at,cells_alloc_ne,cells_set_at,cells_set_ne,yres,yres1,yresL,qA,qB,qC,D5,hF,hA,↓reduceIte,qD,qE];rfl) ?_ ?_))
 ·exact (g1.trans g2).trans g3
 ·congr 1
  rw[decide_eq_decide]
  unfold wi
  simp only
  omega
theorem f85_ok (H : Heap) : Gives Try.prog 85 [] H (.agg ⟨A2 0 500⟩):=by
 refine F.entryL rfl dg85 do85 de85 rfl (by kernel_rfl) ?_
 simp only[sets]
 refine V.re [] (N:=2) zE zY ?_
 intro t hF hA
 refine zS ?_
 refine V.l0 ?_
 refine zS ?_
 refine V.l0 ?_
 refine zS ?_
 refine V.ret (V.rets rfl (Lv.retG (by simp +contextual (disch:=first|omega|simp only[nx];omega) only[D1,cells_alloc_at,cells_alloc_ne,cells_set_at,cells_set_ne,yres,yres1,yresL,qA,qB,qC,D5,hF,hA,↓reduceIte,qD,qE];rfl) ?_ ?_))
 ·exact zW
 ·rfl
theorem f103_ok {H : Heap} {v y : Value} {L : List R2} {p : R2→Prop} [DecidablePred p] (h : RS H v L) (hn : L.length≤1048576) (hy : ∀ X,Grow H X→∀ r,FV Try.prog y [.agg ⟨r2 r⟩] X (fun w X'=>w=.bool (decide (p r))∧Grow X X')) : Gives Try.prog 103 [v,y] H (.bool (decide (∀ r∈L,p r))):=by
 have hl:=h.len
 refine F.entryL rfl dg103 do103 de103 rfl (by kernel_rfl) ?_
 simp only[sets]
 refine V.re [(0,v),(1,y)] (N:=18) zE zY ?_
 intro t hF hA
 simp only[Kn,and_true] at hA
 refine zS ?_
 refine V.l0 ?_
 refine zS ?_
 have zf:=@hl
 refine V.lz ?_
 refine zS ?_
 refine V.loop (fun z t m X=>∃ (k : Nat),k≤L.length∧z=L.length-k∧m=[]∧Grow H X∧(∀ r∈L.take k,p r)∧Full 18 t∧Kn [(1,y),(7,v),(8,I L.length),(9,I k)] t) L.length ?_ ?_
 ·exact⟨0,by omega,by omega,rfl,.refl _,by simp,zF,zK⟩
 clear hF hA
 rintro z t m X ⟨k,hk,rfl,rfl,hg,hall,hF,hA⟩
 simp only[Kn,and_true] at hA
 refine zS ?_
 refine V.l0 ?_
 refine zS ?_
 refine V.condP zP (fun hlt=>?_) (fun hlt=>?_)
 ·have hlt' : k<L.length:=by omega
  obtain⟨i,o,hp,hx⟩:=h.at hlt'
  obtain⟨hx1,_,_⟩:=hx _ hg
  refine zS ?_
  have zf:=And.intro @hp<|@hx1
  refine V.lz ?_
  refine V.heap (fun Y=>Grow X Y∧Bx Y X.next (A2 L[k].1 L[k].2) 69) ⟨?_,?_⟩ ?_
  ·exact zW
  ·exact zB
  rintro X1 ⟨gx,bx⟩
  refine zS ?_
  refine V.run ?_
  have zf:=bx.2
  refine VI.sz 2 ?_
  simp only[ds]
  refine VI.callV zP (by simp only[dA,List.map_cons,List.map_nil,D5,hF,hA,↓reduceIte,qD,qE];exact hy X1 (hg.trans gx) L[k]) (fun w X2 hw=>?_)
  obtain⟨rfl,gy⟩:=hw
  refine VI.l0 ?_
  refine zS ?_
  refine V.condP zP (fun hw=>?_) (fun hw=>?_)
  ·refine zS ?_
   refine V.l0 ?_
   refine zS ?_
   refine V.ret (V.rets rfl (Or.inr ⟨by simp,V.rets rfl (Lv.retG (by simp +contextual (disch:=first|omega|simp only[nx];omega) only[D1,cells_alloc_at,cells_alloc_ne,cells_set_at,cells_set_ne,yres,yres1,yresL,qA,qB,qC,D5,hF,hA,↓reduceIte,qD,qE];rfl) ?_ ?_)⟩))
   ·exact (hg.trans gx).trans gy
   ·congr 1
    exact (decide_eq_false (fun hh=>hw (hh _ (List.getElem_mem hlt')))).symm
  ·refine zS ?_
   refine V.l0 ?_
   refine V.nil (Or.inl ⟨rfl,L.length-(k+1),by omega,?_⟩)
   refine⟨k+1,by omega,rfl,rfl,(hg.trans gx).trans gy,?_,zF,zK⟩
   intro q hq
   rw[List.take_succ_eq_append_getElem hlt'] at hq
   rcases List.mem_append.1 hq with hq|hq
   ·exact hall q hq
   ·rw[List.mem_singleton.1 hq];exact Decidable.not_not.1 hw
 ·refine V.exit ?_
  refine zX ?_
  refine V.nil (Or.inr ⟨by simp,?_⟩)
  refine zX ?_
  have e : L.take k=L:=List.take_of_length_le (by omega)
  rw[e] at hall
  refine zS ?_
  refine V.l0 ?_
  refine zS ?_
  refine V.ret (V.rets rfl (Lv.retG (by simp +contextual (disch:=first|omega|simp only[nx];omega) only[D1,cells_alloc_at,cells_alloc_ne,cells_set_at,cells_set_ne,yres,yres1,yresL,qA,qB,qC,D5,hF,hA,↓reduceIte,qD,qE];rfl) ?_ ?_))
  ·exact hg
  ·rw[decide_eq_true hall]
theorem f104_ok {H : Heap} {v y : Value} {L : List (List R2)} {p : List R2→Prop} [DecidablePred p] (h : Nest RS H v L) (hn : L.length≤1048576) (hy : ∀ X,Grow H X→∀ x row,RS X x row→row∈L→FV Try.prog y [x] X (fun w X'=>w=.bool (decide (p row))∧Grow X X')) : Gives Try.prog 104 [v,y] H (.bool (decide (∀ r∈L,p r))):=by
 have hl:=h.len
 refine F.entryL rfl dg104 do104 de104 rfl (by kernel_rfl) ?_
 simp only[sets]
 refine V.re [(0,v),(1,y)] (N:=18) zE zY ?_
 intro t hF hA
 simp only[Kn,and_true] at hA
 refine zS ?_
 refine V.l0 ?_
 refine zS ?_
 have zf:=@hl
 refine V.lz ?_
 refine zS ?_
 refine V.loop (fun z t m X=>∃ (k : Nat),k≤L.length∧z=L.length-k∧m=[]∧Grow H X∧(∀ r∈L.take k,p r)∧Full 18 t∧Kn [(1,y),(7,v),(8,I L.length),(9,I k)] t) L.length ?_ ?_
 ·exact⟨0,by omega,by omega,rfl,.refl _,by simp,zF,zK⟩
 clear hF hA
 rintro z t m X ⟨k,hk,rfl,rfl,hg,hall,hF,hA⟩
 simp only[Kn,and_true] at hA
 refine zS ?_
 refine V.l0 ?_
 refine zS ?_
 refine V.condP zP (fun hlt=>?_) (fun hlt=>?_)
 ·have hlt' : k<L.length:=by omega
  obtain⟨q,x,hp,hx⟩:=h.at rp hlt'
  obtain⟨hx1,hx2⟩:=hx _ hg
  have hpk:=hp .i64
  refine zS ?_
  have zf:=And.intro @hpk<|@hx1
  refine V.lz ?_
  refine zS ?_
  refine V.run ?_
  refine VI.s0 2 ?_
  simp only[ds]
  refine VI.callV zP (by simp only[dA,List.map_cons,List.map_nil,D5,hF,hA,↓reduceIte,qD,qE];exact hy X hg x L[k] hx2 (List.getElem_mem hlt')) (fun w X2 hw=>?_)
  obtain⟨rfl,gy⟩:=hw
  refine VI.l0 ?_
  refine zS ?_
  refine V.condP zP (fun hw=>?_) (fun hw=>?_)
  ·refine zS ?_
   refine V.l0 ?_
   refine zS ?_
   refine V.ret (V.rets rfl (Or.inr ⟨by simp,V.rets rfl (Lv.retG (by simp +contextual (disch:=first|omega|simp only[nx];omega) only[D1,cells_alloc_at,cells_alloc_ne,cells_set_at,cells_set_ne,yres,yres1,yresL,qA,qB,qC,D5,hF,hA,↓reduceIte,qD,qE];rfl) ?_ ?_)⟩))
   ·exact hg.trans gy
   ·congr 1
    exact (decide_eq_false (fun hh=>hw (hh _ (List.getElem_mem hlt')))).symm
  ·refine zS ?_
   refine V.l0 ?_
   refine V.nil (Or.inl ⟨rfl,L.length-(k+1),by omega,?_⟩)
   refine⟨k+1,by omega,rfl,rfl,hg.trans gy,?_,zF,zK⟩
   intro q hq
   rw[List.take_succ_eq_append_getElem hlt'] at hq
   rcases List.mem_append.1 hq with hq|hq
   ·exact hall q hq
   ·rw[List.mem_singleton.1 hq];exact Decidable.not_not.1 hw
 ·refine V.exit ?_
  refine zX ?_
  refine V.nil (Or.inr ⟨by simp,?_⟩)
  refine zX ?_
  have e : L.take k=L:=List.take_of_length_le (by omega)
  rw[e] at hall
  refine zS ?_
  refine V.l0 ?_
  refine zS ?_
  refine V.ret (V.rets rfl (Lv.retG (by simp +contextual (disch:=first|omega|simp only[nx];omega) only[D1,cells_alloc_at,cells_alloc_ne,cells_set_at,cells_set_ne,yres,yres1,yresL,qA,qB,qC,D5,hF,hA,↓reduceIte,qD,qE];rfl) ?_ ?_))
  ·exact hg
  ·rw[decide_eq_true hall]
theorem f86_fv (o : R2) {X : Heap} (r : R2) : FV Try.prog (.func (.func 86) ⟨[.agg ⟨r2 o⟩]⟩ ⟨[]⟩) [.agg ⟨r2 r⟩] X (fun w X'=>w=.bool (decide (wi o.1 o.2 r))∧Grow X X'):=FV.fn (f86_ok o r X)
theorem f102_ok {H : Heap} {c b r n x : Value} {T : Tb} {row : List R2} {i j : Nat} (h : TV H c b r n T) (hb : Bx H i [c,b,r,n] 38) (hj : Bx H j [.func (.func 86) ⟨[.agg ⟨A2 0 500⟩]⟩ ⟨[]⟩] 152) (hx : RS H x row) (hn : row.length≤1048576) :
  Gives Try.prog 102 [x,.pointer (some ⟨i,0,none⟩),.pointer (some ⟨j,0,none⟩)] H (.bool (decide (row.length=grp T∧∀ r∈row,wi 0 500 r))):=by
 have hl:=hx.len
 refine F.entryL rfl dg102 do102 de102 rfl (by kernel_rfl) ?_
 simp only[sets]
 refine V.re [(0,x),(1,.pointer (some ⟨i,0,none⟩)),(2,.pointer (some ⟨j,0,none⟩))] (N:=15) zE zY ?_
 intro t hF hA
 simp only[Kn,and_true] at hA
 refine zS ?_
 refine V.l0 ?_
 refine zS ?_
 refine V.run ?_
 have zf:=And.intro hb.2<|@hl
 refine VI.sz 3 ?_
 simp only[ds]
 refine VI.callA rfl (f101_ok h) zA (fun H2 g2=>?_)
 have j2:=hj.grow g2
 have zf:=j2.2
 refine VI.sz 4 ?_
 simp only[ds]
 first|refine VI.callGt zG (fun hc=>zI) (fun hc=>f103_ok (rp.grow g2 hx) hn (p:=wi 0 500) (fun X g r=>f86_fv (0,500) r)) (fun hc=>zI) (fun H3 g3=>?_)|refine VI.callGf zG (fun hc=>zI) (fun hc=>f103_ok (rp.grow g2 hx) hn (p:=wi 0 500) (fun X g r=>f86_fv (0,500) r)) (fun hc=>zI) (fun H3 g3=>?_)
 refine VI.l0 ?_
 refine zS ?_
 refine V.ret (V.rets rfl (Lv.retG (by simp +contextual (disch:=first|omega|simp only[nx];omega) only[D1,cells_alloc_at,cells_alloc_ne,cells_set_at,cells_set_ne,yres,yres1,yresL,qA,qB,qC,D5,hF,hA,↓reduceIte,qD,qE];rfl) ?_ ?_))
 ·exact g2.trans g3
 ·congr 1
  rw[decide_eq_decide]
  exact⟨fun hh=>⟨by omega,hh.2⟩,fun hh=>⟨by omega,hh.2⟩⟩
theorem f102_fv {H : Heap} {c b r n x : Value} {T : Tb} {row : List R2} {i j : Nat} (h : TV H c b r n T) (hb : Bx H i [c,b,r,n] 38) (hj : Bx H j [.func (.func 86) ⟨[.agg ⟨A2 0 500⟩]⟩ ⟨[]⟩] 152) (hx : RS H x row) (hn : row.length≤1048576) :
  FV Try.prog (.func (.func 102) ⟨[]⟩ ⟨[.pointer (some ⟨i,0,none⟩),.pointer (some ⟨j,0,none⟩)]⟩) [x] H (fun w X'=>w=.bool (decide (row.length=grp T∧∀ r∈row,wi 0 500 r))∧Grow H X'):=FV.fn (a:=[]) (f102_ok h hb hj hx hn)
theorem f62_ok {H : Heap} {c b r n : Value} {T : Tb} (h : TV H c b r n T) : Gives Try.prog 62 [.agg ⟨[c,b,r,n]⟩] H (.bool (decide (fit T))):=by
 have hlc : ∀ X,ylen 0 X c=some (I T.C.length):=h.c.len
 refine F.entryL rfl dg62 do62 de62 rfl (by kernel_rfl) ?_
 simp only[sets]
 refine V.re [(0,.agg ⟨[c,b,r,n]⟩)] (N:=12) zE zY ?_
 intro t hF hA
 simp only[Kn,and_true] at hA
 refine zS ?_
 refine V.l0 ?_
 refine V.heap (fun X=>Grow H X∧Bx X H.next [c,b,r,n] 38) ⟨?_,?_⟩ ?_
 ·exact zW
 ·exact zB
 rintro H1 ⟨g1,b1⟩
 refine zS ?_
 refine V.run ?_
 have zf:=And.intro b1.2<|@hlc
 refine VI.sz 6 ?_
 simp only[ds]
 first|refine VI.callGt zG (fun hc=>zI) (fun hc=>f101_ok (h.grow g1)) (fun hc=>zI) (fun H2 g2=>?_)|refine VI.callGf zG (fun hc=>zI) (fun hc=>f101_ok (h.grow g1)) (fun hc=>zI) (fun H2 g2=>?_)
 refine VI.l0 ?_
 refine zS ?_
 refine V.ret (V.rets rfl (Lv.retG (by simp +contextual (disch:=first|omega|simp only[nx];omega) only[D1,cells_alloc_at,cells_alloc_ne,cells_set_at,cells_set_ne,yres,yres1,yresL,qA,qB,qC,D5,hF,hA,↓reduceIte,qD,qE];rfl) ?_ ?_))
 ·exact g1.trans g2
 ·congr 1
  rw[decide_eq_decide]
  unfold fit
  omega
def okC (T : Tb) : Prop:=∀ row∈T.C,row.length=grp T∧∀ r∈row,wi 0 500 r
def okL (a b : Int) (l : List R2) : Prop:=∀ r∈l,wi a b r
instance okCd (T : Tb) : Decidable (okC T):=inferInstanceAs (Decidable (∀ row∈T.C,row.length=grp T∧∀ r∈row,wi 0 500 r))
instance okLd (a b : Int) (l : List R2) : Decidable (okL a b l):=inferInstanceAs (Decidable (∀ r∈l,wi a b r))
theorem f104_C {H : Heap} {c y : Value} {T : Tb} (h : Nest RS H c T.C) (hn : T.C.length≤1048576) (hy : ∀ X,Grow H X→∀ x row,RS X x row→row∈T.C→FV Try.prog y [x] X (fun w X'=>w=.bool (decide (row.length=grp T∧∀ r∈row,wi 0 500 r))∧Grow X X')) : Gives Try.prog 104 [c,y] H (.bool (decide (okC T))):=f104_ok h hn hy
theorem f103_L {H : Heap} {v : Value} {L : List R2} (o : R2) (h : RS H v L) (hn : L.length≤1048576) : Gives Try.prog 103 [v,.func (.func 86) ⟨[.agg ⟨r2 o⟩]⟩ ⟨[]⟩] H (.bool (decide (okL o.1 o.2 L))):=f103_ok h hn (fun _ _ r=>f86_fv o r)
theorem f63_ok {H : Heap} {c b r n : Value} {T : Tb} (h : TV H c b r n T) (hs : sh T) : Gives Try.prog 63 [.agg ⟨[c,b,r,n]⟩] H (.bool (decide (val T))):=by
 obtain⟨s1,s2,s3,s4,s5⟩:=hs
 have hlc : ∀ X,ylen 0 X c=some (I T.C.length):=h.c.len
 have hlb : ∀ X,ylen 0 X b=some (I T.B.length):=h.b.len
 have hlr : ∀ X,ylen 0 X r=some (I T.Rt.length):=h.r.len
 have hln : ∀ X,ylen 0 X n=some (I T.N.length):=h.n.len
 have hgl : grp T≤1048576:=by
  unfold grp
  cases hC : T.C with
  | nil=>simp
  | cons z l=>exact s2 z (by rw[hC];simp)
 refine F.entryL rfl dg63 do63 de63 rfl (by kernel_rfl) ?_
 simp only[sets]
 refine V.re [(0,.agg ⟨[c,b,r,n]⟩)] (N:=68) zE zY ?_
 intro t hF hA
 simp only[Kn,and_true] at hA
 refine zS ?_
 refine V.l0 ?_
 refine V.heap (fun X=>Grow H X∧Bx X H.next [c,b,r,n] 38) ⟨?_,?_⟩ ?_
 ·exact zW
 ·exact zB
 rintro H1 ⟨g1,b1⟩
 refine zS ?_
 refine V.run ?_
 refine VI.callA rfl (f85_ok H1) zA (fun H2 g2=>?_)
 have b2:=b1.grow g2
 refine VI.l0 ?_
 refine V.heap (fun X=>Grow H2 X∧Bx X H2.next [.func (.func 86) ⟨[.agg ⟨A2 0 500⟩]⟩ ⟨[]⟩] 152) ⟨?_,?_⟩ ?_
 ·exact zW
 ·exact zB
 rintro H3 ⟨g3,d3⟩
 have b3:=b2.grow g3
 have h3:=h.grow ((g1.trans g2).trans g3)
 refine zS ?_
 refine V.l0 ?_
 refine zS ?_
 refine V.draw ?_
 have zf:=b3.2
 refine VD.nz 1 ?_
 simp only[ds]
 refine VD.callA zA (f101_ok h3) zA (fun H4 g4=>?_)
 have b4:=b3.grow g4
 have d4:=d3.grow g4
 have h4:=h3.grow g4
 have zf:=b4.2
 refine VD.nz 5 ?_
 simp only[ds]
 first|refine VD.callGt zG (fun hc=>zI) (fun hc=>f104_C h4.c s1 (fun X g x row hx hm=>f102_fv (h4.grow g) (b4.grow g) (d4.grow g) hx (s2 row hm))) (fun hc=>zI) (fun H5 g5=>?_)|refine VD.callGf zG (fun hc=>zI) (fun hc=>f104_C h4.c s1 (fun X g x row hx hm=>f102_fv (h4.grow g) (b4.grow g) (d4.grow g) hx (s2 row hm))) (fun hc=>zI) (fun H5 g5=>?_)
 have b5:=b4.grow g5
 have d5:=d4.grow g5
 have h5:=h4.grow g5
 have zf:=And.intro b5.2<|And.intro d5.2<|And.intro @hlb<|@hlc
 refine VD.nz 9 ?_
 simp only[ds]
 have zf:=And.intro b5.2<|And.intro d5.2<|And.intro @hlb<|@hlc
 refine VD.nz 6 ?_
 simp only[ds]
 first|refine VD.callGt zG (fun hc=>zI) (fun hc=>f103_L (0,500) h5.b s3) (fun hc=>zI) (fun H6 g6=>?_)|refine VD.callGf zG (fun hc=>zI) (fun hc=>f103_L (0,500) h5.b s3) (fun hc=>zI) (fun H6 g6=>?_)
 have b6:=b5.grow g6
 have h6:=h5.grow g6
 have zf:=And.intro b6.2<|@hlr
 refine VD.nz 6 ?_
 simp only[ds]
 first|refine VD.callGt zG (fun hc=>zI) (fun hc=>f101_ok h6) (fun hc=>zI) (fun H7 g7=>?_)|refine VD.callGf zG (fun hc=>zI) (fun hc=>f101_ok h6) (fun hc=>zI) (fun H7 g7=>?_)
 have b7:=b6.grow g7
 have h7:=h6.grow g7
 have zf:=b7.2
 refine VD.nz 7 ?_
 simp only[ds]
 first|refine VD.callGt zG (fun hc=>zI) (fun hc=>f103_L (0,1000) h7.r s4) (fun hc=>zI) (fun H8 g8=>?_)|refine VD.callGf zG (fun hc=>zI) (fun hc=>f103_L (0,1000) h7.r s4) (fun hc=>zI) (fun H8 g8=>?_)
 have b8:=b7.grow g8
 have h8:=h7.grow g8
 have zf:=And.intro b8.2<|@hln
 refine VD.nz 6 ?_
 simp only[ds]
 first|refine VD.callGt zG (fun hc=>zI) (fun hc=>f101_ok h8) (fun hc=>zI) (fun H9 g9=>?_)|refine VD.callGf zG (fun hc=>zI) (fun hc=>f101_ok h8) (fun hc=>zI) (fun H9 g9=>?_)
 have b9:=b8.grow g9
 have h9:=h8.grow g9
 have zf:=b9.2
 refine VD.nz 6 ?_
 simp only[ds]
 first|refine VD.callGt zG (fun hc=>zI) (fun hc=>f103_L (-50,50) h9.n s5) (fun hc=>zI) (fun Ha ga=>?_)|refine VD.callGf zG (fun hc=>zI) (fun hc=>f103_L (-50,50) h9.n s5) (fun hc=>zI) (fun Ha ga=>?_)
 refine VD.d0 ?_ ?_ rfl ?_
 ·have m4:=g4.1
  have m5:=g5.1
  have m6:=g6.1
  have m7:=g7.1
  have m8:=g8.1
  have m9:=g9.1
  have ma:=ga.1
  exact zM
 ·simp only[dcAll,dcOk,wantD,List.cons_append,List.nil_append,true_and,and_true]
  have v1:=(sl1 h.r.isS).2.2.1
  have v2:=(sl1 h.n.isS).2.2.1
  exact⟨fun hw q hq=>by simp only[wantD,D5,hF,hA,↓reduceIte,qD,qE,beq_iff_eq,decide_eq_false_iff_not,decide_eq_true_eq] at hw;simp only[List.mem_cons,List.not_mem_nil,or_false] at hq;(repeat (rcases hq with rfl|hq;exact⟨_,_,_,rfl,(by simp +contextual (disch:=first|omega|simp only[nx];omega) only[D4,qF,qG,qA,qB,qC,D5,hF,hA,↓reduceIte,qD,qE,if_true,not_false_eq_true,not_true_eq_false,hw,b6.2,b7.2];with_reducible rfl),fun p hp=>by cases hp;simp only[D5,hF,hA,↓reduceIte,qD,qE,hw,if_true,not_false_eq_true];first|exact vEq_An|(simp[vEq,vEq0,all2];done)|assumption⟩));(try (subst hq;exact⟨_,_,_,rfl,(by simp +contextual (disch:=first|omega|simp only[nx];omega) only[D4,qF,qG,qA,qB,qC,D5,hF,hA,↓reduceIte,qD,qE,if_true,not_false_eq_true,not_true_eq_false,hw,b6.2,b7.2];with_reducible rfl),fun p hp=>by cases hp;simp only[D5,hF,hA,↓reduceIte,qD,qE,hw,if_true,not_false_eq_true];first|exact vEq_An|(simp[vEq,vEq0,all2];done)|assumption⟩)),fun hw q hq=>by simp only[wantD,D5,hF,hA,↓reduceIte,qD,qE,beq_iff_eq,decide_eq_false_iff_not,decide_eq_true_eq] at hw;simp only[List.mem_cons,List.not_mem_nil,or_false] at hq;(repeat (rcases hq with rfl|hq;exact⟨_,_,_,rfl,(by simp +contextual (disch:=first|omega|simp only[nx];omega) only[D4,qF,qG,qA,qB,qC,D5,hF,hA,↓reduceIte,qD,qE,if_true,not_false_eq_true,not_true_eq_false,hw,hlr];with_reducible rfl),fun p hp=>by cases hp;simp only[D5,hF,hA,↓reduceIte,qD,qE,hw,if_true,not_false_eq_true];first|exact vEq_An|(simp[vEq,vEq0,all2];done)|assumption⟩));(try (subst hq;exact⟨_,_,_,rfl,(by simp +contextual (disch:=first|omega|simp only[nx];omega) only[D4,qF,qG,qA,qB,qC,D5,hF,hA,↓reduceIte,qD,qE,if_true,not_false_eq_true,not_true_eq_false,hw,hlr];with_reducible rfl),fun p hp=>by cases hp;simp only[D5,hF,hA,↓reduceIte,qD,qE,hw,if_true,not_false_eq_true];first|exact vEq_An|(simp[vEq,vEq0,all2];done)|assumption⟩)),fun hw q hq=>by simp only[wantD,D5,hF,hA,↓reduceIte,qD,qE,beq_iff_eq,decide_eq_false_iff_not,decide_eq_true_eq] at hw;simp only[List.mem_cons,List.not_mem_nil,or_false] at hq;(repeat (rcases hq with rfl|hq;exact⟨_,_,_,rfl,(by simp +contextual (disch:=first|omega|simp only[nx];omega) only[D4,qF,qG,qA,qB,qC,D5,hF,hA,↓reduceIte,qD,qE,if_true,not_false_eq_true,not_true_eq_false,hw,b8.2,b9.2];with_reducible rfl),fun p hp=>by cases hp;simp only[D5,hF,hA,↓reduceIte,qD,qE,hw,if_true,not_false_eq_true];first|exact vEq_An|(simp[vEq,vEq0,all2];done)|assumption⟩));(try (subst hq;exact⟨_,_,_,rfl,(by simp +contextual (disch:=first|omega|simp only[nx];omega) only[D4,qF,qG,qA,qB,qC,D5,hF,hA,↓reduceIte,qD,qE,if_true,not_false_eq_true,not_true_eq_false,hw,b8.2,b9.2];with_reducible rfl),fun p hp=>by cases hp;simp only[D5,hF,hA,↓reduceIte,qD,qE,hw,if_true,not_false_eq_true];first|exact vEq_An|(simp[vEq,vEq0,all2];done)|assumption⟩)),fun hw q hq=>by simp only[wantD,D5,hF,hA,↓reduceIte,qD,qE,beq_iff_eq,decide_eq_false_iff_not,decide_eq_true_eq] at hw;simp only[List.mem_cons,List.not_mem_nil,or_false] at hq;(repeat (rcases hq with rfl|hq;exact⟨_,_,_,rfl,(by simp +contextual (disch:=first|omega|simp only[nx];omega) only[D4,qF,qG,qA,qB,qC,D5,hF,hA,↓reduceIte,qD,qE,if_true,not_false_eq_true,not_true_eq_false,hw,hln];with_reducible rfl),fun p hp=>by cases hp;simp only[D5,hF,hA,↓reduceIte,qD,qE,hw,if_true,not_false_eq_true];first|exact vEq_An|(simp[vEq,vEq0,all2];done)|assumption⟩));(try (subst hq;exact⟨_,_,_,rfl,(by simp +contextual (disch:=first|omega|simp only[nx];omega) only[D4,qF,qG,qA,qB,qC,D5,hF,hA,↓reduceIte,qD,qE,if_true,not_false_eq_true,not_true_eq_false,hw,hln];with_reducible rfl),fun p hp=>by cases hp;simp only[D5,hF,hA,↓reduceIte,qD,qE,hw,if_true,not_false_eq_true];first|exact vEq_An|(simp[vEq,vEq0,all2];done)|assumption⟩))⟩
 refine zS ?_
 refine V.ret (V.rets rfl (Lv.retG (by simp +contextual (disch:=first|omega|simp only[nx];omega) only[D1,cells_alloc_at,cells_alloc_ne,cells_set_at,cells_set_ne,yres,yres1,yresL,qA,qB,qC,D5,hF,hA,↓reduceIte,qD,qE];rfl) ?_ ?_))
 ·exact ((((((((g1.trans g2).trans g3).trans g4).trans g5).trans g6).trans g7).trans g8).trans g9).trans ga
 ·congr 1
  rw[decide_eq_decide]
  unfold val
  constructor
  ·intro hh
   have q0:=s1
   exact⟨by omega,by omega,by omega,by omega,hh.1.1.1.1.1.1.2,hh.1.1.1.1.2,hh.1.1.2,hh.2⟩
  ·rintro⟨q1,q2,q3,q4,q5,q6,q7,q8⟩
   exact⟨⟨⟨⟨⟨⟨⟨by omega,q5⟩,by omega⟩,q6⟩,by omega⟩,q7⟩,by omega⟩,q8⟩
theorem f21_ok {H : Heap} {c b r n : Value} {T : Tb} (h : TV H c b r n T) (hs : sh T) : Gives Try.prog 21 [.agg ⟨[c,b,r,n]⟩] H (I (flt T)):=by
 refine F.entryL rfl dg21 do21 de21 rfl (by kernel_rfl) ?_
 simp only[sets]
 refine V.re [(0,.agg ⟨[c,b,r,n]⟩)] (N:=11) zE zY ?_
 intro t hF hA
 simp only[Kn,and_true] at hA
 refine zS ?_
 refine V.l0 ?_
 refine V.heap (fun X=>Grow H X∧Bx X H.next [c,b,r,n] 38) ⟨?_,?_⟩ ?_
 ·exact zW
 ·exact zB
 rintro H1 ⟨g1,b1⟩
 refine zS ?_
 refine V.run ?_
 have zf:=b1.2
 refine VI.sz 1 ?_
 simp only[ds]
 refine VI.callA rfl (f62_ok (h.grow g1)) zA (fun H2 g2=>?_)
 have b2:=b1.grow g2
 refine VI.l0 ?_
 refine zS ?_
 refine V.condP zP (fun hf=>?_) (fun hf=>?_)
 ·refine zS ?_
  refine V.l0 ?_
  refine zS ?_
  refine V.ret (V.rets rfl (Lv.retG (by simp +contextual (disch:=first|omega|simp only[nx];omega) only[D1,cells_alloc_at,cells_alloc_ne,cells_set_at,cells_set_ne,yres,yres1,yresL,qA,qB,qC,D5,hF,hA,↓reduceIte,qD,qE];rfl) ?_ ?_))
  ·exact g1.trans g2
  ·rw[flt,if_pos hf]
 ·refine zS ?_
  refine V.run ?_
  have zf:=b2.2
  refine VI.sz 1 ?_
  simp only[ds]
  refine VI.callA rfl (f63_ok (h.grow (g1.trans g2)) hs) zA (fun H3 g3=>?_)
  refine VI.l0 ?_
  refine zS ?_
  refine V.condP zP (fun hv=>?_) (fun hv=>?_)
  ·refine zS ?_
   refine V.l0 ?_
   refine zS ?_
   refine V.ret (V.rets rfl (Lv.retG (by simp +contextual (disch:=first|omega|simp only[nx];omega) only[D1,cells_alloc_at,cells_alloc_ne,cells_set_at,cells_set_ne,yres,yres1,yresL,qA,qB,qC,D5,hF,hA,↓reduceIte,qD,qE];rfl) ?_ ?_))
   ·exact (g1.trans g2).trans g3
   ·rw[flt,if_neg hf,if_pos hv]
  ·refine zS ?_
   refine V.l0 ?_
   refine zS ?_
   refine V.ret (V.rets rfl (Lv.retG (by simp +contextual (disch:=first|omega|simp only[nx];omega) only[D1,cells_alloc_at,cells_alloc_ne,cells_set_at,cells_set_ne,yres,yres1,yresL,qA,qB,qC,D5,hF,hA,↓reduceIte,qD,qE];rfl) ?_ ?_))
   ·exact (g1.trans g2).trans g3
   ·rw[flt,if_neg hf,if_neg hv]
end Go.Xe.TFX
