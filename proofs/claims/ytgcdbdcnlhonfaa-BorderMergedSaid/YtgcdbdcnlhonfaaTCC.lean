/- What the functions of the layer border come to: a total that is divided, by the package round. Conditions: none. -/
import Derived.Test.YtgcdbdcnlhonfaaTCB
import Derived.Test.YtgcdbdcnlhonfaaZx
-- MOD TB
namespace Go.Xe.TBX
open Go Go.Xe Go.Proofs
open Nat renaming reduceLeDiff → qA, reduceSub → qB, reduceAdd → qC, reduceEqDiff → qD, reduceLT → qE
open Int renaming reduceNegSucc → qF, reduceEq → qG
open Go.Xe.V renaming seq → sA, block → sB, scope → sC, skip → sD, close → sE
open Go.Xe renaming pth → P
open Go.Xe.Rnd
set_option maxRecDepth 100000
set_option maxHeartbeats 3200000
set_option linter.unusedSimpArgs false
noncomputable def d79 : FCode:=(.seq (.run (.go (.alloc 116 [(.int .i64 (.ofNat 0)),(.int .i64 (.ofNat 0))]) (P 0)::
[])) (.seq (.run (.go (.build [(.int .i64 (.ofNat 0)),(.int .i64 (.ofNat 0))] [(0,1,(.con (.int .i64 (.ofNat 0)))),(1,1,(.con (.int .i64 (.ofNat 10000))))]) (P 1)::
.un (.store 2 (tm 0) (tm 1))::
[])) .ret))
theorem de79 : @compF Try.prog (Gl.none Try.prog) Try.f79 0=.mk d79 (mkTT 2) [] [.many (P 0) 2]:=by kernel_rfl
theorem dg79 : Try.prog.funcs[79]?=some Try.f79:=Try.func79
theorem do79 : okF Try.prog Try.f79=true:=by kernel_rfl
noncomputable def d81 : FCode:=(.seq (.run (.go (.alloc 116 [(.int .i64 (.ofNat 0)),(.int .i64 (.ofNat 0))]) (P 0)::
[])) (.seq (.run (.go (.build [(.int .i64 (.ofNat 0)),(.int .i64 (.ofNat 0))] [(0,1,(.con (.int .i64 (.ofNat 0)))),(1,1,(.con (.int .i64 (.ofNat 100000))))]) (P 1)::
.un (.store 2 (tm 0) (tm 1))::
[])) .ret))
theorem de81 : @compF Try.prog (Gl.none Try.prog) Try.f81 0=.mk d81 (mkTT 2) [] [.many (P 0) 2]:=by kernel_rfl
theorem dg81 : Try.prog.funcs[81]?=some Try.f81:=Try.func81
theorem do81 : okF Try.prog Try.f81=true:=by kernel_rfl
noncomputable def d80 : FCode:=(.seq (.run (.go (.box 116 (tm 0)) (P 2)::
.go (.move (.con (.bool false))) (P 4)::
[])) (.seq (.run (.go (.fieldAddr 0 (tm 2)) (P 5)::
.go (.load1 (tm 5)) (P 6)::
.go (.move (tm 1)) (P 7)::
.go (.bin .leq 3 (tm 6) (tm 7)) (P 8)::
.go (.move (tm 8)) (P 9)::
.gd (P 9) true (.move (tm 1)) (P 10)::
.gd (P 9) true (.fieldAddr 1 (tm 2)) (P 11)::
.gd (P 9) true (.load1 (tm 11)) (P 12)::
.gd (P 9) true (.bin .leq 3 (tm 10) (tm 12)) (P 13)::
.go (.pick (tm 9) (tm 13) (.con (.bool false))) (P 14)::
.go (.move (tm 14)) (P 4)::
[])) .ret))
theorem de80 : @compF Try.prog (Gl.none Try.prog) Try.f80 2=.mk d80 (mkTT 15) [(P 0),(P 1)] [.tmp (P 4)]:=by kernel_rfl
theorem dg80 : Try.prog.funcs[80]?=some Try.f80:=Try.func80
theorem do80 : okF Try.prog Try.f80=true:=by kernel_rfl
noncomputable def d78 : FCode:=(.seq (.run (.go (.move (.con (.bool false))) (P 4)::
[])) (.seq (.seq (.run (.go (.move (tm 0)) (P 7)::
.go (.len 0 (tm 7)) (P 8)::
.go (.move (.con (.int .i64 (.ofNat 0)))) (P 9)::
[])) (.block 0 (.loop (.seq (.run (.go (.bin .lss 3 (tm 9) (tm 8)) (P 10)::
[])) (.seq (.cond (tm 10) .skip (.exit 0)) (.seq (.block 1 (.seq (.run (.go (.indexAddr none 1 (tm 7) (tm 9)) (P 11)::
.go (.load1 (tm 11)) (P 12)::
.go (.move (tm 12)) (P 6)::
[])) (.seq (.run (.go (.move (tm 1)) (P 13)::
.go (.move (tm 6)) (P 14)::
.go (.call (tm 13) [tm 14]) (P 15)::
.go (.un .not (tm 15)) (P 16)::
[])) (.cond (tm 16) (.seq (.run (.go (.move (.con (.bool false))) (P 4)::
[])) .ret) .skip)))) (.run (.go (.bin .add 3 (tm 9) (.con (.int .i64 (.ofNat 1)))) (P 17)::
.go (.move (tm 17)) (P 9)::
[])))))))) (.seq (.run (.go (.move (.con (.bool true))) (P 4)::
[])) .ret)))
theorem de78 : @compF Try.prog (Gl.none Try.prog) Try.f78 2=.mk d78 (mkTT 18) [(P 0),(P 1)] [.tmp (P 4)]:=by kernel_rfl
theorem dg78 : Try.prog.funcs[78]?=some Try.f78:=Try.func78
theorem do78 : okF Try.prog Try.f78=true:=by kernel_rfl
noncomputable def d82 : FCode:=(.seq (.run (.go (.move (.con (.int .i64 (.ofNat 0)))) (P 2)::
[])) (.seq (.run (.go (.move (.con (.int .i64 (.ofNat 0)))) (P 3)::
[])) (.seq (.seq (.run (.go (.move (tm 0)) (P 6)::
.go (.len 0 (tm 6)) (P 7)::
.go (.move (.con (.int .i64 (.ofNat 0)))) (P 8)::
[])) (.block 0 (.loop (.seq (.run (.go (.bin .lss 3 (tm 8) (tm 7)) (P 9)::
[])) (.seq (.cond (tm 9) .skip (.exit 0)) (.seq (.block 1 (.seq (.run (.go (.indexAddr none 1 (tm 6) (tm 8)) (P 10)::
.go (.load1 (tm 10)) (P 11)::
.go (.move (tm 11)) (P 5)::
[])) (.run (.go (.move (tm 3)) (P 12)::
.go (.move (tm 5)) (P 13)::
.go (.bin .add 3 (tm 12) (tm 13)) (P 14)::
.go (.move (tm 14)) (P 3)::
[])))) (.run (.go (.bin .add 3 (tm 8) (.con (.int .i64 (.ofNat 1)))) (P 15)::
.go (.move (tm 15)) (P 8)::
[])))))))) (.seq (.run (.go (.move (tm 3)) (P 16)::
.go (.move (tm 16)) (P 2)::
[])) .ret))))
theorem de82 : @compF Try.prog (Gl.none Try.prog) Try.f82 1=.mk d82 (mkTT 17) [(P 0)] [.tmp (P 2)]:=by kernel_rfl
theorem dg82 : Try.prog.funcs[82]?=some Try.f82:=Try.func82
theorem do82 : okF Try.prog Try.f82=true:=by kernel_rfl
noncomputable def d106 : FCode:=(.seq (.run (.go (.move (.con (.int .i64 (.ofNat 0)))) (P 4)::
[])) (.seq (.seq (.run (.go (.move (tm 0)) (P 6)::
.go (.len 0 (tm 6)) (P 7)::
.go (.move (.con (.int .i64 (.ofNat 0)))) (P 8)::
[])) (.block 0 (.loop (.seq (.run (.go (.bin .lss 3 (tm 8) (tm 7)) (P 9)::
[])) (.seq (.cond (tm 9) .skip (.exit 0)) (.seq (.block 1 (.seq (.run (.go (.move (tm 8)) (P 10)::
.go (.move (tm 10)) (P 5)::
[])) (.seq (.run (.go (.move (tm 1)) (P 11)::
.go (.move (tm 0)) (P 12)::
.go (.move (tm 5)) (P 13)::
.go (.indexAddr none 1 (tm 12) (tm 13)) (P 14)::
.go (.load1 (tm 14)) (P 15)::
.go (.bin .eql 3 (tm 11) (tm 15)) (P 16)::
[])) (.cond (tm 16) (.seq (.run (.go (.move (tm 5)) (P 17)::
.go (.move (tm 17)) (P 4)::
[])) .ret) .skip)))) (.run (.go (.bin .add 3 (tm 8) (.con (.int .i64 (.ofNat 1)))) (P 18)::
.go (.move (tm 18)) (P 8)::
[])))))))) (.seq (.run (.go (.move (.con (.int .i64 (.negSucc 0)))) (P 4)::
[])) .ret)))
theorem de106 : @compF Try.prog (Gl.none Try.prog) Try.f106 2=.mk d106 (mkTT 19) [(P 0),(P 1)] [.tmp (P 4)]:=by kernel_rfl
theorem dg106 : Try.prog.funcs[106]?=some Try.f106:=Try.func106
theorem do106 : okF Try.prog Try.f106=true:=by kernel_rfl
noncomputable def d107 : FCode:=(.seq (.run (.go (.move (.con (.int .i64 (.ofNat 0)))) (P 4)::
[])) (.seq (.seq (.run (.go (.move (tm 1)) (P 7)::
.go (.len 0 (tm 7)) (P 8)::
.go (.move (.con (.int .i64 (.ofNat 0)))) (P 9)::
[])) (.block 0 (.loop (.seq (.run (.go (.bin .lss 3 (tm 9) (tm 8)) (P 10)::
[])) (.seq (.cond (tm 10) .skip (.exit 0)) (.seq (.block 1 (.seq (.run (.go (.indexAddr none 1 (tm 7) (tm 9)) (P 11)::
.go (.load1 (tm 11)) (P 12)::
.go (.move (tm 12)) (P 6)::
[])) (.run (.go (.move (tm 0)) (P 13)::
.go (.move (tm 6)) (P 14)::
.go (.mm false [(tm 13),(tm 14)]) (P 15)::
.go (.move (tm 15)) (P 0)::
[])))) (.run (.go (.bin .add 3 (tm 9) (.con (.int .i64 (.ofNat 1)))) (P 16)::
.go (.move (tm 16)) (P 9)::
[])))))))) (.seq (.run (.go (.move (tm 0)) (P 17)::
.go (.move (tm 17)) (P 4)::
[])) .ret)))
theorem de107 : @compF Try.prog (Gl.none Try.prog) Try.f107 2=.mk d107 (mkTT 18) [(P 0),(P 1)] [.tmp (P 4)]:=by kernel_rfl
theorem dg107 : Try.prog.funcs[107]?=some Try.f107:=Try.func107
theorem do107 : okF Try.prog Try.f107=true:=by kernel_rfl
noncomputable def d83 : FCode:=(.seq (.run (.go (.move (.con (.slice none 0 0))) (P 4)::
[])) (.seq (.run (.go (.move (tm 0)) (P 13)::
.go (.call (.con (.func (.func 82) ⟨[]⟩ ⟨[]⟩)) [tm 13]) (P 14)::
.go (.move (tm 1)) (P 15)::
.go (.move (tm 14)) (P 5)::
.go (.move (tm 15)) (P 6)::
[])) (.seq (.run (.go (.move (.con (.slice none 0 0))) (P 7)::
.go (.move (.con (.slice none 0 0))) (P 8)::
[])) (.seq (.seq (.run (.go (.move (tm 0)) (P 16)::
.go (.len 0 (tm 16)) (P 17)::
.go (.move (.con (.int .i64 (.ofNat 0)))) (P 18)::
[])) (.block 0 (.loop (.seq (.run (.go (.bin .lss 3 (tm 18) (tm 17)) (P 19)::
[])) (.seq (.cond (tm 19) .skip (.exit 0)) (.seq (.block 1 (.seq (.run (.go (.indexAddr none 1 (tm 16) (tm 18)) (P 20)::
.go (.load1 (tm 20)) (P 21)::
.go (.move (tm 21)) (P 10)::
[])) (.seq (.run (.go (.move (tm 1)) (P 22)::
.go (.move (tm 10)) (P 23)::
.go (.bin .mul 3 (tm 22) (tm 23)) (P 24)::
.go (.move (tm 5)) (P 25)::
.go (.bin .quo 3 (tm 24) (tm 25)) (P 26)::
.go (.move (tm 26)) (P 11)::
[])) (.seq (.run (.go (.move (tm 6)) (P 27)::
.go (.move (tm 11)) (P 28)::
.go (.bin .sub 3 (tm 27) (tm 28)) (P 29)::
.go (.move (tm 29)) (P 6)::
[])) (.seq (.run (.go (.move (tm 7)) (P 30)::
.go (.move (tm 11)) (P 31)::
.go (.buildSlice 3 1 [(.int .i64 (.ofNat 0))] [(0,1,(tm 31))]) (P 32)::
.go (.append 3 1 8 (tm 30) (tm 32)) (P 33)::
.go (.move (tm 33)) (P 7)::
[])) (.run (.go (.move (tm 8)) (P 34)::
.go (.move (tm 11)) (P 35)::
.go (.bin .add 3 (tm 35) (.con (.int .i64 (.ofNat 1)))) (P 36)::
.go (.move (tm 5)) (P 37)::
.go (.bin .mul 3 (tm 36) (tm 37)) (P 38)::
.go (.move (tm 1)) (P 39)::
.go (.move (tm 10)) (P 40)::
.go (.bin .mul 3 (tm 39) (tm 40)) (P 41)::
.go (.bin .sub 3 (tm 38) (tm 41)) (P 42)::
.go (.buildSlice 3 1 [(.int .i64 (.ofNat 0))] [(0,1,(tm 42))]) (P 43)::
.go (.append 3 1 8 (tm 34) (tm 43)) (P 44)::
.go (.move (tm 44)) (P 8)::
[]))))))) (.run (.go (.bin .add 3 (tm 18) (.con (.int .i64 (.ofNat 1)))) (P 45)::
.go (.move (tm 45)) (P 18)::
[])))))))) (.seq (.seq (.run (.go (.move (tm 6)) (P 46)::
.go (.move (.con (.int .i64 (.ofNat 0)))) (P 47)::
[])) (.block 2 (.loop (.seq (.run (.go (.bin .lss 3 (tm 47) (tm 46)) (P 48)::
[])) (.seq (.cond (tm 48) .skip (.exit 2)) (.seq (.block 3 (.seq (.draw 9 (.go (.move (tm 8)) (P 49)::
.go (.move (tm 8)) (P 50)::
.go (.indexAddr none 1 (tm 50) (.con (.int .i64 (.ofNat 0)))) (P 51)::
.go (.load1 (tm 51)) (P 52)::
.go (.move (tm 8)) (P 53)::
.go (.slice 3 1 (tm 53) (some (.con (.int .i64 (.ofNat 1)))) none) (P 54)::
.go (.call (.con (.func (.func 107) ⟨[]⟩ ⟨[]⟩)) [(tm 52),(tm 54)]) (P 55)::
.go (.call (.con (.func (.func 106) ⟨[]⟩ ⟨[]⟩)) [(tm 49),(tm 55)]) (P 56)::
.go (.move (tm 56)) (P 12)::
[]) [.ok,.ok,.ok,.ok,.ok,.ok,.ok,.ok,.ok]) (.seq (.run (.go (.move (tm 7)) (P 57)::
.go (.move (tm 12)) (P 58)::
.go (.indexAddr none 1 (tm 57) (tm 58)) (P 59)::
.go (.load1 (tm 59)) (P 60)::
.go (.bin .add 3 (tm 60) (.con (.int .i64 (.ofNat 1)))) (P 61)::
.go (.indexAddr none 1 (tm 57) (tm 58)) (P 62)::
.un (.store 1 (tm 62) (tm 61))::
[])) (.run (.go (.move (tm 8)) (P 63)::
.go (.move (tm 12)) (P 64)::
.go (.indexAddr none 1 (tm 63) (tm 64)) (P 65)::
.go (.load1 (tm 65)) (P 66)::
.go (.move (tm 5)) (P 67)::
.go (.bin .add 3 (tm 66) (tm 67)) (P 68)::
.go (.indexAddr none 1 (tm 63) (tm 64)) (P 69)::
.un (.store 1 (tm 69) (tm 68))::
[]))))) (.run (.go (.bin .add 3 (tm 47) (.con (.int .i64 (.ofNat 1)))) (P 70)::
.go (.move (tm 70)) (P 47)::
[])))))))) (.seq (.run (.go (.move (tm 7)) (P 71)::
.go (.move (tm 71)) (P 4)::
[])) .ret))))))
theorem de83 : @compF Try.prog (Gl.none Try.prog) Try.f83 2=.mk d83 (mkTT 72) [(P 0),(P 1)] [.tmp (P 4)]:=by kernel_rfl
theorem dg83 : Try.prog.funcs[83]?=some Try.f83:=Try.func83
theorem do83 : okF Try.prog Try.f83=true:=by kernel_rfl
noncomputable def d54 : FCode:=(.seq (.run (.go (.move (.con (.slice none 0 0))) (P 4)::
.go (.move (.con (.int .i64 (.ofNat 0)))) (P 5)::
[])) (.seq (.block 0 (.seq (.run (.go (.move (tm 0)) (P 7)::
.go (.len 0 (tm 7)) (P 8)::
.go (.bin .gtr 3 (tm 8) (.con (.int .i64 (.ofNat 12)))) (P 9)::
.go (.move (tm 9)) (P 6)::
[])) (.cond (tm 6) (.seq (.run (.go (.move (.con (.slice none 0 0))) (P 4)::
.go (.move (.con (.int .i64 (.ofNat 3)))) (P 5)::
[])) .ret) (.seq (.run (.go (.move (tm 0)) (P 11)::
.go (.call (.con (.func (.func 79) ⟨[]⟩ ⟨[]⟩)) []) (P 12)::
.go (.makeFunc 80 [tm 12] []) (P 13)::
.go (.call (.con (.func (.func 78) ⟨[]⟩ ⟨[]⟩)) [(tm 11),(tm 13)]) (P 14)::
.go (.un .not (tm 14)) (P 15)::
.go (.move (tm 15)) (P 16)::
.gd (P 16) false (.call (.con (.func (.func 81) ⟨[]⟩ ⟨[]⟩)) []) (P 17)::
.gd (P 16) false (.move (tm 1)) (P 18)::
.gd (P 16) false (.call (.con (.func (.func 80) ⟨[]⟩ ⟨[]⟩)) [(tm 17),(tm 18)]) (P 19)::
.gd (P 16) false (.un .not (tm 19)) (P 20)::
.go (.pick (tm 16) (.con (.bool true)) (tm 20)) (P 21)::
.go (.move (tm 21)) (P 10)::
[])) (.cond (tm 10) (.seq (.run (.go (.move (.con (.slice none 0 0))) (P 4)::
.go (.move (.con (.int .i64 (.ofNat 2)))) (P 5)::
[])) .ret) (.seq (.run (.go (.move (tm 0)) (P 23)::
.go (.call (.con (.func (.func 82) ⟨[]⟩ ⟨[]⟩)) [tm 23]) (P 24)::
.go (.bin .eql 3 (tm 24) (.con (.int .i64 (.ofNat 0)))) (P 25)::
.go (.move (tm 25)) (P 22)::
[])) (.cond (tm 22) (.seq (.run (.go (.move (.con (.slice none 0 0))) (P 4)::
.go (.move (.con (.int .i64 (.ofNat 7)))) (P 5)::
[])) .ret) .skip))))))) (.seq (.run (.go (.move (tm 0)) (P 26)::
.go (.move (tm 1)) (P 27)::
.go (.call (.con (.func (.func 83) ⟨[]⟩ ⟨[]⟩)) [(tm 26),(tm 27)]) (P 28)::
.go (.move (tm 28)) (P 4)::
.go (.move (.con (.int .i64 (.ofNat 0)))) (P 5)::
[])) .ret)))
theorem de54 : @compF Try.prog (Gl.none Try.prog) Try.f54 2=.mk d54 (mkTT 29) [(P 0),(P 1)] [.tmp (P 4),.tmp (P 5)]:=by kernel_rfl
theorem dg54 : Try.prog.funcs[54]?=some Try.f54:=Try.func54
theorem do54 : okF Try.prog Try.f54=true:=by kernel_rfl
theorem f79_ok (H : Heap) : Gives Try.prog 79 [] H (.agg ⟨A2 0 10000⟩):=by
 refine F.entryL rfl dg79 do79 de79 rfl (by kernel_rfl) ?_
 simp only[sets]
 refine V.re [] (N:=2) zE zY ?_
 intro t hF hA
 refine zS ?_
 refine V.l0 ?_
 refine zS ?_
 refine V.l0 ?_
 refine zS ?_
 refine V.ret (V.rets rfl (Lv.retG (by simp +contextual (disch:=first|omega|simp only[nx];omega) only[D1,cells_alloc_at,cells_alloc_ne,cells_set_at,cells_set_ne,yres,yres1,yresL,qA,qB,qC,D5,hF,hA,↓reduceIte,qD,qE];rfl) ?_ ?_))
 ·exact zW
 ·rfl
theorem f81_ok (H : Heap) : Gives Try.prog 81 [] H (.agg ⟨A2 0 100000⟩):=by
 refine F.entryL rfl dg81 do81 de81 rfl (by kernel_rfl) ?_
 simp only[sets]
 refine V.re [] (N:=2) zE zY ?_
 intro t hF hA
 refine zS ?_
 refine V.l0 ?_
 refine zS ?_
 refine V.l0 ?_
 refine zS ?_
 refine V.ret (V.rets rfl (Lv.retG (by simp +contextual (disch:=first|omega|simp only[nx];omega) only[D1,cells_alloc_at,cells_alloc_ne,cells_set_at,cells_set_ne,yres,yres1,yresL,qA,qB,qC,D5,hF,hA,↓reduceIte,qD,qE];rfl) ?_ ?_))
 ·exact zW
 ·rfl
theorem f80_ok (a b n : Int) (H : Heap) : Gives Try.prog 80 [.agg ⟨A2 a b⟩,I n] H (.bool (decide (a≤n∧n≤b))):=by
 refine F.entryL rfl dg80 do80 de80 rfl (by kernel_rfl) ?_
 simp only[sets]
 refine V.re [(0,.agg ⟨A2 a b⟩),(1,I n)] (N:=15) zE zY ?_
 intro t hF hA
 simp only[Kn,and_true] at hA
 refine zS ?_
 refine V.l0 ?_
 refine V.heap (fun X=>Grow H X∧Bx X H.next (A2 a b) 116) ⟨?_,?_⟩ ?_
 ·exact zW
 ·exact zB
 rintro H1 ⟨g1,b1⟩
 refine zS ?_
 have zf:=b1.2
 refine V.lz ?_
 refine zS ?_
 refine V.ret (V.rets rfl (Lv.retG (by simp +contextual (disch:=first|omega|simp only[nx];omega) only[D1,cells_alloc_at,cells_alloc_ne,cells_set_at,cells_set_ne,yres,yres1,yresL,qA,qB,qC,D5,hF,hA,↓reduceIte,qD,qE];rfl) ?_ ?_))
 ·exact g1
 ·rfl
theorem f78_ok {H : Heap} {x : Value} {l : List Int} (a b : Int) (h : LS H x l) (hn : l.length≤1048576) : Gives Try.prog 78 [x,.func (.func 80) ⟨[.agg ⟨A2 a b⟩]⟩ ⟨[]⟩] H (.bool (decide (∀ v∈l,a≤v∧v≤b))):=by
 have hl:=h.len
 refine F.entryL rfl dg78 do78 de78 rfl (by kernel_rfl) ?_
 simp only[sets]
 refine V.re [(0,x),(1,.func (.func 80) ⟨[.agg ⟨A2 a b⟩]⟩ ⟨[]⟩)] (N:=18) zE zY ?_
 intro t hF hA
 simp only[Kn,and_true] at hA
 refine zS ?_
 refine V.l0 ?_
 refine zS ?_
 have zf:=@hl
 refine V.lz ?_
 refine zS ?_
 refine V.loop (fun z t m X=>∃ (k : Nat),k≤l.length∧z=l.length-k∧m=[]∧Grow H X∧(∀ v∈l.take k,a≤v∧v≤b)∧Full 18 t∧Kn [(0,x),(1,.func (.func 80) ⟨[.agg ⟨A2 a b⟩]⟩ ⟨[]⟩),(7,x),(8,I l.length),(9,I k)] t) l.length ?_ ?_
 ·exact⟨0,by omega,by omega,rfl,.refl _,by simp,zF,zK⟩
 clear hF hA
 rintro z t m X ⟨k,hk,rfl,rfl,hg,hall,hF,hA⟩
 simp only[Kn,and_true] at hA
 refine zS ?_
 refine V.l0 ?_
 refine zS ?_
 refine V.condP zP (fun hlt=>?_) (fun hlt=>?_)
 ·have hlt' : k<l.length:=by omega
  obtain⟨p,hp,hx⟩:=h.at hlt'
  have hx1:=hx X hg
  refine zS ?_
  have zf:=And.intro @hp<|@hx1
  refine V.lz ?_
  refine zS ?_
  refine V.run ?_
  refine VI.s0 2 ?_
  simp only[ds]
  refine VI.callR zA (f80_ok a b l[k] _) zA (fun v X2 ⟨hv,g2⟩=>?_)
  subst hv
  refine VI.l0 ?_
  refine zS ?_
  refine V.condP zP (fun hb=>?_) (fun hb=>?_)
  ·refine zS ?_
   refine V.l0 ?_
   refine zS ?_
   refine V.ret (V.rets rfl (Or.inr ⟨by simp,V.rets rfl (Lv.retG (by simp +contextual (disch:=first|omega|simp only[nx];omega) only[D1,cells_alloc_at,cells_alloc_ne,cells_set_at,cells_set_ne,yres,yres1,yresL,qA,qB,qC,D5,hF,hA,↓reduceIte,qD,qE];rfl) ?_ ?_)⟩))
   ·exact hg.trans g2
   ·congr 1
    exact (decide_eq_false (fun hh=>hb (hh _ (List.getElem_mem hlt')))).symm
  ·refine zS ?_
   refine V.l0 ?_
   refine V.nil (Or.inl ⟨rfl,l.length-(k+1),by omega,?_⟩)
   refine⟨k+1,hlt',rfl,rfl,hg.trans g2,?_,zF,zK⟩
   intro v hv
   rw[tk1 hlt'] at hv
   rcases List.mem_append.1 hv with hv|hv
   ·exact hall v hv
   ·rw[List.mem_singleton.1 hv];omega
 ·obtain rfl : k=l.length:=by omega
  rw[List.take_length] at hall
  refine V.exit ?_
  refine zX ?_
  refine V.nil (Or.inr ⟨by simp,?_⟩)
  refine zX ?_
  refine zS ?_
  refine V.l0 ?_
  refine zS ?_
  refine V.ret (V.rets rfl (Lv.retG (by simp +contextual (disch:=first|omega|simp only[nx];omega) only[D1,cells_alloc_at,cells_alloc_ne,cells_set_at,cells_set_ne,yres,yres1,yresL,qA,qB,qC,D5,hF,hA,↓reduceIte,qD,qE];rfl) ?_ ?_))
  ·exact hg
  ·rw[decide_eq_true hall]
theorem f82_ok {H : Heap} {x : Value} {l : List Int} (h : LS H x l) (hn : l.length≤20) (hb : ∀ v∈l,0≤v∧v≤1000000) : Gives Try.prog 82 [x] H (I (sm l)):=by
 have hl:=h.len
 refine F.entryL rfl dg82 do82 de82 rfl (by kernel_rfl) ?_
 simp only[sets]
 refine V.re [(0,x)] (N:=17) zE zY ?_
 intro t hF hA
 simp only[Kn,and_true] at hA
 refine zS ?_
 refine V.l0 ?_
 refine zS ?_
 refine V.l0 ?_
 refine zS ?_
 have zf:=@hl
 refine V.lz ?_
 refine zS ?_
 refine V.loop (fun z t m X=>∃ (k : Nat),k≤l.length∧z=l.length-k∧m=[]∧Grow H X∧Full 17 t∧Kn [(0,x),(3,I (sm (l.take k))),(6,x),(7,I l.length),(8,I k)] t) l.length ?_ ?_
 ·exact⟨0,by omega,by omega,rfl,.refl _,zF,zK⟩
 clear hF hA
 rintro z t m X ⟨k,hk,rfl,rfl,hg,hF,hA⟩
 simp only[Kn,and_true] at hA
 refine zS ?_
 refine V.l0 ?_
 refine zS ?_
 refine V.condP zP (fun hlt=>?_) (fun hlt=>?_)
 ·have hlt' : k<l.length:=by omega
  obtain⟨p,hp,hx⟩:=h.at hlt'
  have hx1:=hx X hg
  have hs:=sm_take hlt'
  have hbk:=hb _ (List.getElem_mem hlt')
  have hbt:=sm_bound (c:=1000000) (l:=l.take k) (fun v hv=>hb v (List.mem_of_mem_take hv))
  have hlk : (l.take k).length=k:=by rw[List.length_take];omega
  rw[hlk] at hbt
  refine zS ?_
  have zf:=And.intro @hp<|@hx1
  refine V.lz ?_
  refine zS ?_
  refine V.l0 ?_
  refine zS ?_
  refine V.l0 ?_
  rw[← hs]
  refine V.nil (Or.inl ⟨rfl,l.length-(k+1),by omega,?_⟩)
  exact⟨k+1,hlt',rfl,rfl,hg,zF,zK⟩
 ·obtain rfl : k=l.length:=by omega
  refine V.exit ?_
  refine zX ?_
  refine V.nil (Or.inr ⟨by simp,?_⟩)
  refine zX ?_
  rw[List.take_length] at hA
  refine zS ?_
  refine V.l0 ?_
  refine zS ?_
  refine V.ret (V.rets rfl (Lv.retG (by simp +contextual (disch:=first|omega|simp only[nx];omega) only[D1,cells_alloc_at,cells_alloc_ne,cells_set_at,cells_set_ne,yres,yres1,yresL,qA,qB,qC,D5,hF,hA,↓reduceIte,qD,qE];rfl) ?_ ?_))
  ·exact hg
  ·rfl
theorem f106_ok {H : Heap} {x : Value} {l : List Int} {k0 : Nat} (h : LS H x l) (hn : l.length≤1048576) (h0 : k0<l.length) (hf : ∀ j (hj : j<k0),l[j]≠l[k0]) : Gives Try.prog 106 [x,I l[k0]] H (I k0):=by
 have hl:=h.len
 refine F.entryL rfl dg106 do106 de106 rfl (by kernel_rfl) ?_
 simp only[sets]
 refine V.re [(0,x),(1,I l[k0])] (N:=19) zE zY ?_
 intro t hF hA
 simp only[Kn,and_true] at hA
 refine zS ?_
 refine V.l0 ?_
 refine zS ?_
 have zf:=@hl
 refine V.lz ?_
 refine zS ?_
 refine V.loop (fun z t m X=>∃ (k : Nat),k≤k0∧z=l.length-k∧m=[]∧Grow H X∧Full 19 t∧Kn [(0,x),(1,I l[k0]),(7,I l.length),(8,I k)] t) l.length ?_ ?_
 ·exact⟨0,by omega,by omega,rfl,.refl _,zF,zK⟩
 clear hF hA
 rintro z t m X ⟨k,hk,rfl,rfl,hg,hF,hA⟩
 simp only[Kn,and_true] at hA
 have hlt' : k<l.length:=by omega
 obtain⟨p,hp,hx⟩:=h.at hlt'
 have hx1:=hx X hg
 refine zS ?_
 refine V.l0 ?_
 refine zS ?_
 refine V.condP zP (fun hlt=>?_) (fun hlt=>?_)
 ·refine zS ?_
  refine V.l0 ?_
  refine zS ?_
  have zf:=And.intro @hp<|@hx1
  refine V.lz ?_
  refine zS ?_
  refine V.condP zP (fun he=>?_) (fun he=>?_)
  ·have hkk : k=k0:=by
    by_cases hh : k<k0
    ·exact absurd he.symm (hf k hh)
    ·omega
   subst hkk
   refine zS ?_
   refine V.l0 ?_
   refine zS ?_
   refine V.ret (V.rets rfl (Or.inr ⟨by simp,V.rets rfl (Lv.retG (by simp +contextual (disch:=first|omega|simp only[nx];omega) only[D1,cells_alloc_at,cells_alloc_ne,cells_set_at,cells_set_ne,yres,yres1,yresL,qA,qB,qC,D5,hF,hA,↓reduceIte,qD,qE];rfl) ?_ ?_)⟩))
   ·exact hg
   ·rfl
  ·have hkk : k≠k0:=by rintro rfl;exact he rfl
   refine zS ?_
   refine V.l0 ?_
   refine V.nil (Or.inl ⟨rfl,l.length-(k+1),by omega,?_⟩)
   exact⟨k+1,by omega,rfl,rfl,hg,zF,zK⟩
 ·omega
def lst (a : Int) : List Int→Int
 | []=>a
 | x::l=>lst (min a x) l
theorem lst_app (a : Int) : ∀ (l r : List Int),lst a (l++r)=lst (lst a l) r:=by
 intro l
 induction l generalizing a with
 | nil=>intro r;rfl
 | cons x l ih=>intro r;simp only[List.cons_append,lst,ih]
theorem lst_le (a : Int) : ∀ l : List Int,lst a l≤a∧(∀ x∈l,lst a l≤x)∧(lst a l=a∨lst a l∈l):=by
 intro l
 induction l generalizing a with
 | nil=>exact⟨Int.le_refl _,by simp,.inl rfl⟩
 | cons x l ih=>
  obtain⟨h1,h2,h3⟩:=ih (min a x)
  simp only[lst]
  refine⟨by omega,fun y hy=>?_,?_⟩
  ·rcases List.mem_cons.1 hy with rfl|hy
   ·omega
   ·exact h2 y hy
  ·rcases h3 with h3|h3
   ·by_cases hax : a≤x
    ·left;omega
    ·right;rw[h3];have : min a x=x:=by omega
     rw[this];simp
   ·right;simp[h3]
theorem f107_ok {H : Heap} {x : Value} {l : List Int} (a : Int) (h : LS H x l) (hn : l.length≤1048576) : Gives Try.prog 107 [I a,x] H (I (lst a l)):=by
 have hl:=h.len
 refine F.entryL rfl dg107 do107 de107 rfl (by kernel_rfl) ?_
 simp only[sets]
 refine V.re [(0,I a),(1,x)] (N:=18) zE zY ?_
 intro t hF hA
 simp only[Kn,and_true] at hA
 refine zS ?_
 refine V.l0 ?_
 refine zS ?_
 have zf:=@hl
 refine V.lz ?_
 refine zS ?_
 refine V.loop (fun z t m X=>∃ (k : Nat),k≤l.length∧z=l.length-k∧m=[]∧Grow H X∧Full 18 t∧Kn [(0,I (lst a (l.take k))),(7,x),(8,I l.length),(9,I k)] t) l.length ?_ ?_
 ·exact⟨0,by omega,by omega,rfl,.refl _,zF,zK⟩
 clear hF hA
 rintro z t m X ⟨k,hk,rfl,rfl,hg,hF,hA⟩
 simp only[Kn,and_true] at hA
 refine zS ?_
 refine V.l0 ?_
 refine zS ?_
 refine V.condP zP (fun hlt=>?_) (fun hlt=>?_)
 ·have hlt' : k<l.length:=by omega
  obtain⟨p,hp,hx⟩:=h.at hlt'
  have hx1:=hx X hg
  have hs : (if l[k]<lst a (l.take k) then l[k] else lst a (l.take k))=lst a (l.take (k+1)):=by
   rw[tk1 hlt',lst_app]
   simp only[lst]
   split<;>omega
  refine zS ?_
  have zf:=And.intro @hp<|@hx1
  refine V.lz ?_
  refine zS ?_
  have zf:=@hs
  refine V.lz ?_
  refine zS ?_
  refine V.l0 ?_
  refine V.nil (Or.inl ⟨rfl,l.length-(k+1),by omega,?_⟩)
  exact⟨k+1,hlt',rfl,rfl,hg,zF,zK⟩
 ·obtain rfl : k=l.length:=by omega
  refine V.exit ?_
  refine zX ?_
  refine V.nil (Or.inr ⟨by simp,?_⟩)
  refine zX ?_
  rw[List.take_length] at hA
  refine zS ?_
  refine V.l0 ?_
  refine zS ?_
  refine V.ret (V.rets rfl (Lv.retG (by simp +contextual (disch:=first|omega|simp only[nx];omega) only[D1,cells_alloc_at,cells_alloc_ne,cells_set_at,cells_set_ne,yres,yres1,yresL,qA,qB,qC,D5,hF,hA,↓reduceIte,qD,qE];rfl) ?_ ?_))
  ·exact hg
  ·rfl
abbrev OL (n0 : Nat) (col : Nat→Nat) (c : Nat) (X : Heap) (v : Value) (l : List Int) : Prop:=Oc n0 col c X 3 v l.length (Li l)
section
variable {n0 : Nat} {col : Nat→Nat} {c : Nat} {X : Heap} {v : Value} {l : List Int}
theorem OL.ow {H0 : Heap} (h : OL n0 col c X v l) (hn : H0.next≤n0) : Ow H0 X 3 v (Li l):=by
 have h' : Oc n0 col c X 3 v (Li l).length (Li l):=by rw[Li_len];exact h
 exact h'.o hn
theorem OL.ls (h : OL n0 col c X v l) : LS X v l:=⟨((OL.ow h (H0:=Heap.empty)) (Nat.zero_le _)).sl⟩
theorem OL.push (h : OL n0 col c X v l) (hn : n0≤X.next) (hl : l.length≤1048576) (x : Int) : ∃ u X',yappend 3 1 8 (X.alloc (.cells ⟨[I x]⟩ 3 true)) v (.slice (some ⟨X.next,0,none⟩) 1 1)=some (u,X')∧∃ col',OL n0 col' c X' u (l++[x])∧Xe.St n0 (·=c) col X col' X'∧Keep n0 X X'∧X.next+1≤X'.next:=by
 obtain⟨u,X',a1,a2,a3,a4,a5,_⟩:=Oc.push (bytes:=8) (w:=1) (x:=[I x]) (by decide) h hn (by rw[Li_len,Nat.mul_one]) rfl rfl (by omega) (by omega)
 refine⟨u,X',a1,_,?_,a3,a4,a5⟩
 unfold OL Li
 rw[List.map_append,List.length_append]
 exact a2
theorem OL.tail (h : OL n0 col c X v l) (hl : 0<l.length) : ∃ y,yslice Try.prog 3 1 X v (some (I 1)) none=some y∧LS X y (l.drop 1):=by
 rcases h with⟨_,h,_⟩|⟨i,h1,h2,h3,rfl,h5⟩
 ·omega
 ·by_cases h1' : l.length=1
  ·refine⟨.slice (some ⟨i,0,some 0⟩) 0 0,?_,?_⟩
   ·simp only[yslice,h5,xbound]
    rw[if_pos (by simp)]
    rw[h1']
    rfl
   ·obtain⟨a,rfl⟩:=List.length_eq_one_iff.1 h1'
    exact⟨.spot i 0 0⟩
  ·refine⟨.slice (some ⟨i,0+1*1,none⟩) (l.length-1) (l.length-1),?_,⟨.at h2 h5 (Nat.le_refl _) ?_ ?_ ?_⟩⟩
   ·simp only[yslice,h5,xbound]
    rw[if_pos (by simp),if_pos ⟨by decide,by omega⟩]
    simp only[Int.toNat_one]
    rw[if_neg h1']
   ·rw[Li_len,List.length_drop]
   ·simp[Li];omega
   ·intro k x hx
    unfold Li at hx
    rw[List.map_drop,List.getElem?_drop] at hx
    show (⟨Li l⟩ : Array Value)[0+1*1+k]?=some x
    rw[arr_get]
    exact hx
theorem OL.set (h : OL n0 col c X v l) {i : Nat} (hi : i<l.length) (x : Int) : ∃ b,v=.slice (some ⟨b,0,none⟩) l.length l.length∧n0≤b∧b<X.next∧X.cellsAt b=some (⟨Li l⟩,3,true)∧OL n0 col c (X.set b (.cells ⟨(Li l).set i (I x)⟩ 3 true)) v (l.set i x)∧Xe.St n0 (·=c) col X col (X.set b (.cells ⟨(Li l).set i (I x)⟩ 3 true)):=by
 obtain⟨b,b1,b2,b3,b4,b5,b6⟩:=Oc.set1 (i:=i) (x:=I x) h (by rw[Li_len];exact hi)
 refine⟨b,b1,b2,b3,b4,?_,b6⟩
 unfold OL
 rw[List.length_set]
 have e : Li (l.set i x)=(Li l).set i (I x):=by unfold Li;rw[List.map_set]
 rw[e]
 exact b5
end
theorem fmx_min {S : Int} {g : List Int} (hg : g≠[]) : ∃ hk : fmx g<(gap S g).length,lst ((gap S g)[0]'(by rw[gap_len];exact List.length_pos_iff.2 hg)) ((gap S g).drop 1)=(gap S g)[fmx g]'hk∧∀ j (hj : j<fmx g),(gap S g)[j]'(Nat.lt_trans hj hk)≠(gap S g)[fmx g]'hk:=by
 have hf:=fmx_ok hg
 have hk : fmx g<(gap S g).length:=by rw[gap_len];exact hf.lt
 have h0 : 0<(gap S g).length:=by rw[gap_len];exact List.length_pos_iff.2 hg
 refine⟨hk,?_,fun j hj=>?_⟩
 ·obtain⟨h1,h2,h3⟩:=lst_le ((gap S g)[0]) ((gap S g).drop 1)
  have hall : ∀ j (hj : j<(gap S g).length),lst ((gap S g)[0]) ((gap S g).drop 1)≤(gap S g)[j]:=by
   intro j hj
   cases j with
   | zero=>exact h1
   | succ j=>
    refine h2 _ ?_
    rw[List.mem_iff_getElem]
    exact⟨j,by rw[List.length_drop];omega,by rw[List.getElem_drop];congr 1;omega⟩
  have hat : ∃ j,∃ hj : j<(gap S g).length,lst ((gap S g)[0]) ((gap S g).drop 1)=(gap S g)[j]:=by
   rcases h3 with h3|h3
   ·exact⟨0,h0,h3⟩
   ·obtain⟨j,hj,e⟩:=List.mem_iff_getElem.1 h3
    rw[List.length_drop] at hj
    exact⟨1+j,by omega,by rw[← e,List.getElem_drop]⟩
  obtain⟨j,hj,e⟩:=hat
  have h4:=hall _ hk
  have h5:=hf.ge j (by rwa [gap_len] at hj)
  rw[e] at h4 ⊢
  rw[gap_at hj,gap_at hk] at h4 ⊢
  omega
 ·have:=hf.first j hj
  rw[gap_at,gap_at]
  omega
theorem f83_ok {H : Heap} {x : Value} {l : List Int} {tt : Int} (h : LS H x l) (hn : l.length≤12) (hb : ∀ v∈l,0≤v∧v≤10000) (ht : 0≤tt∧tt≤100000) (hS0 : 0<sm l) : F Try.prog 83 ⟨[x,I tt]⟩ H (fun v X=>Grow H X∧∃ col,OL H.next col 0 X v (dv l tt)):=by
 have hl:=h.len
 have hSb:=(sm_bound hb).2
 have hS : 0<sm l∧sm l≤120000:=⟨hS0,by have : (l.length : Int)*10000≤12*10000:=Int.mul_le_mul_of_nonneg_right (by omega) (by decide);omega⟩
 obtain⟨rb1,rb2⟩:=rst_bound ht.1 (fun w hw=>(hb w hw).1) hS0
 have hdv : dvn (sm l) (rst tt (sm l) l).toNat (par tt (sm l) l) (lak tt (sm l) l)=dv l tt:=rfl
 refine F.entryL rfl dg83 do83 de83 rfl (by kernel_rfl) ?_
 simp only[sets]
 refine V.re [(0,x),(1,I tt)] (N:=72) zE zY ?_
 intro t hF hA
 simp only[Kn,and_true] at hA
 refine zS ?_
 refine V.l0 ?_
 refine zS ?_
 refine V.run ?_
 refine VI.s0 1 ?_
 simp only[ds]
 refine VI.callA rfl (f82_ok h (by omega) (fun v hv=>by have:=hb v hv;omega)) zA (fun H2 g2=>?_)
 refine VI.l0 ?_
 refine zS ?_
 refine V.l0 ?_
 refine zS ?_
 have zf:=@hl
 refine V.lz ?_
 refine zS ?_
 generalize hSe : sm l=S at *
 have hSn : ¬ S=0:=by omega
 refine V.loop (fun z t m X=>∃ (k : Nat) (col : Nat→Nat) (vp vg : Value),k≤l.length∧z=l.length-k∧m=[]∧Grow H X∧OL H.next col 0 X vp (par tt S (l.take k))∧OL H.next col 1 X vg (gap S (lak tt S (l.take k)))∧Full 72 t∧Kn [(0,x),(1,I tt),(5,I S),(6,I (tt-sm (par tt S (l.take k)))),(7,vp),(8,vg),(16,x),(17,I l.length),(18,I k)] t) l.length ?_ ?_
 ·exact⟨0,fun _=>0,.slice none 0 0,.slice none 0 0,by omega,by omega,rfl,g2,.nil,.nil,by
   refine⟨zF,?_⟩
   have e0 : tt-sm (par tt S (l.take 0))=tt:=by simp[par,sm]
   rw[e0]
   exact zK⟩
 clear hF hA
 rintro z t m X ⟨k,col,vp,vg,hk,rfl,rfl,hg,op,og,hF,hA⟩
 simp only[Kn,and_true] at hA
 refine zS ?_
 refine V.l0 ?_
 refine zS ?_
 refine V.condP zP (fun hlt=>?_) (fun hlt=>?_)
 ·have hlt' : k<l.length:=by omega
  obtain⟨p,hp,hx⟩:=h.at hlt'
  have hx1:=hx X hg
  have hwk:=hb _ (List.getElem_mem hlt')
  obtain⟨⟨e1,e2⟩,⟨e3,e4⟩,⟨e5,e6⟩,_,e7⟩:=prod_bound ht hwk hS
  have hsp : sm (par tt S (l.take (k+1)))=sm (par tt S (l.take k))+(tt*l[k]).tdiv S:=by rw[par_take hlt',sm_app];simp[sm]
  have hpb : 0≤sm (par tt S (l.take k))∧sm (par tt S (l.take k))≤12000000000:=by
   have hlk : (par tt S (l.take k)).length=k:=by rw[par_len,List.length_take];omega
   obtain⟨q1,q2⟩:=sm_bound (c:=1000000000) (l:=par tt S (l.take k)) (fun y hy=>by
    obtain⟨w,hw,rfl⟩:=List.mem_map.1 hy
    obtain⟨_,q,_⟩:=prod_bound ht (hb w (List.mem_of_mem_take hw)) hS
    exact q)
   rw[hlk] at q2
   have : (k : Int)*1000000000≤12*1000000000:=Int.mul_le_mul_of_nonneg_right (by omega) (by decide)
   omega
  have hn1:=hg.1
  have lp : (par tt S (l.take k)).length≤1048576:=by rw[par_len,List.length_take];omega
  obtain⟨u,X1,a1,col1,a2,a3,a4,a5⟩:=OL.push op hn1 lp ((tt*l[k]).tdiv S)
  have og1:=Oc.st og a3 (by decide)
  have hn2 : H.next≤X1.next:=by omega
  have lg : (gap S (lak tt S (l.take k))).length≤1048576:=by rw[gap_len,lak_len,List.length_take];omega
  obtain⟨u',X2,c1,col2,c2,c3,c4,c5⟩:=OL.push (l:=gap S (lak tt S (l.take k))) og1 hn2 lg (((tt*l[k]).tdiv S+1)*S-tt*l[k])
  have op2:=Oc.st a2 c3 (by decide)
  have eg : gap S (lak tt S (l.take k))++[((tt*l[k]).tdiv S+1)*S-tt*l[k]]=gap S (lak tt S (l.take (k+1))):=by
   rw[lak_take hlt',e7];unfold gap;rw[List.map_append];rfl
  rw[eg] at c2
  rw[← par_take hlt'] at op2
  refine zS ?_
  have zf:=And.intro @hp<|@hx1
  refine V.lz ?_
  refine zS ?_
  have zf:=@hSn
  refine V.lz ?_
  refine zS ?_
  refine V.l0 ?_
  refine zS ?_
  have zf:=@a1
  refine V.lz ?_
  refine zS ?_
  have zf:=@c1
  refine V.lz ?_
  refine zS ?_
  refine V.l0 ?_
  refine V.nil (Or.inl ⟨rfl,l.length-(k+1),by omega,?_⟩)
  have e6' : tt-sm (par tt S (l.take (k+1)))=tt-sm (par tt S (l.take k))-(tt*l[k]).tdiv S:=by omega
  refine⟨k+1,col2,u,u',hlt',rfl,rfl,c4.grow (a4.grow hg (Nat.le_refl _)) (Nat.le_refl _),op2,c2,?_⟩
  rw[e6']
  exact⟨zF,zK⟩
 ·obtain rfl : k=l.length:=by omega
  rw[List.take_length] at op og hA
  refine V.exit ?_
  refine zX ?_
  refine V.nil (Or.inr ⟨by simp,?_⟩)
  refine zX ?_
  have hl0 : 0<l.length:=by
   apply Nat.pos_of_ne_zero
   intro h0
   have : l=[]:=List.length_eq_zero_iff.1 h0
   subst this
   simp[sm] at hSe
   omega
  obtain⟨R,hR⟩ : ∃ R : Nat,tt-sm (par tt S l)=(R : Int):=⟨(rst tt S l).toNat,by unfold rst at rb1 ⊢;omega⟩
  have hR2 : (rst tt S l).toNat=R:=by unfold rst;omega
  have hRl : R<l.length:=by unfold rst at rb2;omega
  rw[hR2] at hdv
  rw[hR] at hA
  refine zS ?_
  refine V.l0 ?_
  refine zS ?_
  have ob : ∀ y∈par tt S l,0≤y∧y≤1000000000:=fun y hy=>by
   obtain⟨w,hw,rfl⟩:=List.mem_map.1 hy
   obtain⟨_,q,_⟩:=prod_bound ht (hb w hw) hS
   exact q
  have gb : ∀ y∈lak tt S l,0≤y∧y≤120000:=fun y hy=>by
   obtain⟨w,hw,rfl⟩:=List.mem_map.1 hy
   have:=lak_at ht.1 (hb w hw).1 hS.1
   omega
  refine V.loop (fun z t m X=>∃ (j : Nat) (col : Nat→Nat) (vp vg : Value) (o g : List Int),j≤R∧z=R-j∧m=[]∧Grow H X∧OL H.next col 0 X vp o∧OL H.next col 1 X vg (gap S g)∧o.length=l.length∧g.length=l.length∧dvn S (R-j) o g=dv l tt∧(∀ y∈o,0≤y∧y≤1000000000+(j : Int))∧(∀ y∈g,-(200000*(j : Int))≤y∧y≤200000)∧Full 72 t∧Kn [(5,I S),(7,vp),(8,vg),(46,I R),(47,I j)] t) R ?_ ?_
  ·refine⟨0,col,vp,vg,_,_,by omega,by omega,rfl,hg,op,og,par_len _ _ _,lak_len _ _ _,hdv,fun y hy=>by have:=ob y hy;omega,fun y hy=>by have:=gb y hy;omega,?_⟩
   exact⟨zF,zK⟩
  clear hF hA
  rintro z t m X ⟨j,col,vp,vg,o,g,hj,rfl,rfl,hg,op,og,ol,gl,hd,ob,gb,hF,hA⟩
  simp only[Kn,and_true] at hA
  refine zS ?_
  refine V.l0 ?_
  refine zS ?_
  refine V.condP zP (fun hlt2=>?_) (fun hlt2=>?_)
  ·have hj' : j<R:=by omega
   have hgl : (gap S g).length=l.length:=by rw[gap_len];exact gl
   have hgn : g≠[]:=fun h0=>by rw[h0] at gl;simp at gl;omega
   have hG0 : 0<(gap S g).length:=by omega
   obtain⟨p,hp,hx⟩:=og.ls.at hG0
   have hp0 : yindexAddr none 1 vg (I 0)=some p:=hp
   have hx0:=hx X (.refl _)
   obtain⟨y,hy1,hy2⟩:=OL.tail og hG0
   obtain⟨hk,hm1,hm2⟩:=fmx_min (S:=S) hgn
   have hfl : fmx g<l.length:=by omega
   refine zS ?_
   refine V.draw ?_
   refine VD.dins 6 (by simp +contextual (disch:=first|omega|simp only[nx];omega) only[D4,qF,qG,qA,qB,qC,D5,hF,hA,↓reduceIte,qD,qE,hp0,hx0,hy1,Option.map_some,Option.map_none];with_reducible rfl) ?_
   simp only[ds]
   refine VD.callA zA (f107_ok (gap S g)[0] hy2 (by rw[List.length_drop];omega)) zA (fun Z1 gz1=>?_)
   rw[hm1]
   refine VD.callA zA (f106_ok (og.ls.grow gz1) (by omega) hk hm2) zA (fun Z2 gz2=>?_)
   have gz:=gz1.trans gz2
   have m1:=gz1.1
   have m2:=gz2.1
   refine VD.d0 ?_ ?_ rfl ?_
   ·exact zM
   ·simp only[dcAll,dcOk,wantD,List.cons_append,List.nil_append,true_and,and_true]
   have hgZ:=hg.trans gz
   have opz:=Oc.grow op gz
   have ogz:=Oc.grow og gz
   have hoi:=ob _ (getD_mem (l:=o) (i:=fmx g) (by omega))
   have hgi:=gb _ (getD_mem (l:=g) (i:=fmx g) (by omega))
   obtain⟨b,rfl,b1,b2,b3,b4,b5⟩:=OL.set opz (i:=fmx g) (by omega) (o.getD (fmx g) 0+1)
   have og1:=Oc.st ogz b5 (by decide)
   obtain⟨b',rfl,b1',b2',b3',b4',b5'⟩:=OL.set (l:=gap S g) og1 (i:=fmx g) (by omega) (S-g.getD (fmx g) 0+S)
   have op1:=Oc.st b4 b5' (by decide)
   have ix : yindexAddr none 1 (.slice (some ⟨b,0,none⟩) o.length o.length) (I (fmx g : Nat))=some (.pointer (some ⟨b,fmx g,none⟩)):=own_idx (by omega)
   have ix' : yindexAddr none 1 (.slice (some ⟨b',0,none⟩) (gap S g).length (gap S g).length) (I (fmx g : Nat))=some (.pointer (some ⟨b',fmx g,none⟩)):=own_idx (by omega)
   have lo : (Li o)[fmx g]?=some (I (o.getD (fmx g) 0)):=by
    rw[Li_at (by omega)];congr 2;rw[List.getD_eq_getElem?_getD,List.getElem?_eq_getElem (by omega)];rfl
   have lg : (Li (gap S g))[fmx g]?=some (I (S-g.getD (fmx g) 0)):=by rw[Li_at hk,gap_at]
   have lol : fmx g<(Li o).length:=by rw[Li_len];omega
   have lgl : fmx g<(Li (gap S g)).length:=by rw[Li_len];omega
   refine zS ?_
   have zf:=And.intro @ix<|And.intro @b3<|And.intro @lo<|And.intro @lol<|@arr_get
   refine V.lz ?_
   refine zS ?_
   have zf:=And.intro @ix'<|And.intro @b3'<|And.intro @lg<|And.intro @lgl<|@arr_get
   refine V.lz ?_
   refine zS ?_
   refine V.l0 ?_
   refine V.nil (Or.inl ⟨rfl,R-(j+1),by omega,?_⟩)
   have es : (gap S g).set (fmx g) (S-g.getD (fmx g) 0+S)=gap S (g.set (fmx g) (g.getD (fmx g) 0-S)):=by
    rw[← gap_set];congr 1;omega
   rw[es] at b4'
   refine⟨j+1,col,_,_,o.set (fmx g) (o.getD (fmx g) 0+1),g.set (fmx g) (g.getD (fmx g) 0-S),hj',rfl,rfl,(hgZ.set b1 _).set b1' _,op1,b4',by rw[List.length_set];exact ol,by rw[List.length_set];exact gl,?_,?_,?_,?_⟩
   ·rw[← hd]
    have : R-j=(R-(j+1))+1:=by omega
    rw[this];rfl
   ·intro y hy
    rcases mem_set hy with hy|rfl
    ·have:=ob y hy;omega
    ·omega
   ·intro y hy
    rcases mem_set hy with hy|rfl
    ·have:=gb y hy;omega
    ·omega
   ·have e1 : o.length=(o.set (fmx g) (o.getD (fmx g) 0+1)).length:=by rw[List.length_set]
    exact⟨zF,zK⟩
  ·obtain rfl : j=R:=by omega
   rw[Nat.sub_self] at hd
   have hd : o=dv l tt:=hd
   subst hd
   refine V.exit ?_
   refine zX ?_
   refine V.nil (Or.inr ⟨by simp,?_⟩)
   refine zX ?_
   refine zS ?_
   refine V.l0 ?_
   refine zS ?_
   refine V.ret (V.rets rfl (Lv.retF (by simp +contextual (disch:=first|omega|simp only[nx];omega) only[D1,cells_alloc_at,cells_alloc_ne,cells_set_at,cells_set_ne,yres,yres1,yresL,qA,qB,qC,D5,hF,hA,↓reduceIte,qD,qE];rfl) ?_))
   exact⟨hg,col,op⟩
def de (l : List Int) (tt : Int) : Int:=if 12<l.length then 3 else if ¬ (∀ v∈l,0≤v∧v≤10000)∨¬ (0≤tt∧tt≤100000) then 2 else if sm l=0 then 7 else 0
theorem de_0 {l : List Int} {tt : Int} : de l tt=0↔l.length≤12∧(∀ v∈l,0≤v∧v≤10000)∧(0≤tt∧tt≤100000)∧0<sm l:=by
 unfold de
 by_cases h1 : 12<l.length
 ·rw[if_pos h1];constructor<;>intro h<;>omega
 ·rw[if_neg h1]
  by_cases h2 : ¬ (∀ v∈l,0≤v∧v≤10000)∨¬ (0≤tt∧tt≤100000)
  ·rw[if_pos h2]
   refine⟨fun h=>by omega,fun ⟨_,h3,h4,_⟩=>?_⟩
   rcases h2 with h2|h2
   ·exact absurd h3 h2
   ·exact absurd h4 h2
  ·rw[if_neg h2]
   have h3 : ∀ v∈l,0≤v∧v≤10000:=Decidable.not_not.1 (fun h=>h2 (.inl h))
   have h4 : 0≤tt∧tt≤100000:=Decidable.not_not.1 (fun h=>h2 (.inr h))
   have h5:=(sm_bound h3).1
   by_cases h6 : sm l=0
   ·rw[if_pos h6];constructor<;>intro h<;>omega
   ·rw[if_neg h6];exact⟨fun _=>⟨by omega,h3,h4,by omega⟩,fun _=>rfl⟩
theorem f54_ok {H : Heap} {x : Value} {l : List Int} (tt : Int) (h : LS H x l) (hn : l.length≤1048576) : F Try.prog 54 ⟨[x,I tt]⟩ H (fun w X=>Grow H X∧((de l tt≠0∧w=.tuple ⟨[.slice none 0 0,I (de l tt)]⟩)∨(de l tt=0∧∃ v,w=.tuple ⟨[v,I 0]⟩∧Ow H X 3 v (Li (dv l tt))))):=by
 have hl:=h.len
 refine F.entryL rfl dg54 do54 de54 rfl (by kernel_rfl) ?_
 simp only[sets]
 refine V.re [(0,x),(1,I tt)] (N:=29) zE zY ?_
 intro t hF hA
 simp only[Kn,and_true] at hA
 refine zS ?_
 refine V.l0 ?_
 refine zS ?_
 have zf:=@hl
 refine V.lz ?_
 refine zS ?_
 refine V.condP zP (fun h1=>?_) (fun h1=>?_)
 ·have e1 : de l tt=3:=by unfold de;rw[if_pos (by omega)]
  refine zS ?_
  refine V.l0 ?_
  refine zS ?_
  refine V.ret (V.rets rfl (Lv.retF (by simp +contextual (disch:=first|omega|simp only[nx];omega) only[D1,cells_alloc_at,cells_alloc_ne,cells_set_at,cells_set_ne,yres,yres1,yresL,qA,qB,qC,D5,hF,hA,↓reduceIte,qD,qE];rfl) ?_))
  exact⟨.refl _,.inl ⟨by omega,by rw[e1]⟩⟩
 ·refine zS ?_
  refine V.run ?_
  refine VI.s0 1 ?_
  simp only[ds]
  refine VI.callA rfl (f79_ok _) zA (fun H2 g2=>?_)
  refine VI.s0 1 ?_
  simp only[ds]
  refine VI.callA rfl (f78_ok 0 10000 (h.grow g2) hn) zA (fun H3 g3=>?_)
  refine VI.s0 2 ?_
  simp only[ds]
  first|refine VI.callGt zG (fun hc=>zI) (fun hc=>f81_ok _) (fun hc=>zI) (fun H4 g4=>?_)|refine VI.callGf zG (fun hc=>zI) (fun hc=>f81_ok _) (fun hc=>zI) (fun H4 g4=>?_)
  refine VI.s0 1 ?_
  simp only[ds]
  first|refine VI.callGt zG (fun hc=>zI) (fun hc=>f80_ok 0 100000 tt _) (fun hc=>zI) (fun H5 g5=>?_)|refine VI.callGf zG (fun hc=>zI) (fun hc=>f80_ok 0 100000 tt _) (fun hc=>zI) (fun H5 g5=>?_)
  refine VI.l0 ?_
  have g5:=((g2.trans g3).trans g4).trans g5
  refine zS ?_
  refine V.condP zP (fun h2=>?_) (fun h2=>?_)
  ·have e1 : de l tt=2:=by
    unfold de
    rw[if_neg (by omega),if_pos]
    rcases h2 with h2|h2
    ·exact .inl h2
    ·exact .inr h2
   refine zS ?_
   refine V.l0 ?_
   refine zS ?_
   refine V.ret (V.rets rfl (Lv.retF (by simp +contextual (disch:=first|omega|simp only[nx];omega) only[D1,cells_alloc_at,cells_alloc_ne,cells_set_at,cells_set_ne,yres,yres1,yresL,qA,qB,qC,D5,hF,hA,↓reduceIte,qD,qE];rfl) ?_))
   exact⟨g5,.inl ⟨by omega,by rw[e1]⟩⟩
  ·have h3 : ∀ v∈l,0≤v∧v≤10000:=Decidable.not_not.1 (fun hh=>h2 (.inl hh))
   have h4 : 0≤tt∧tt≤100000:=Decidable.not_not.1 (fun hh=>h2 (.inr hh))
   refine zS ?_
   refine V.run ?_
   refine VI.s0 1 ?_
   simp only[ds]
   refine VI.callA rfl (f82_ok (h.grow g5) (by omega) (fun v hv=>by have:=h3 v hv;omega)) zA (fun H6 g6=>?_)
   refine VI.l0 ?_
   have g6:=g5.trans g6
   refine zS ?_
   refine V.condP zP (fun h5=>?_) (fun h5=>?_)
   ·have e1 : de l tt=7:=by
     unfold de
     rw[if_neg (by omega),if_neg (by rintro (hh|hh);exact hh h3;exact hh h4),if_pos h5]
    refine zS ?_
    refine V.l0 ?_
    refine zS ?_
    refine V.ret (V.rets rfl (Lv.retF (by simp +contextual (disch:=first|omega|simp only[nx];omega) only[D1,cells_alloc_at,cells_alloc_ne,cells_set_at,cells_set_ne,yres,yres1,yresL,qA,qB,qC,D5,hF,hA,↓reduceIte,qD,qE];rfl) ?_))
    exact⟨g6,.inl ⟨by omega,by rw[e1]⟩⟩
   ·have h6:=(sm_bound h3).1
    have e1 : de l tt=0:=de_0.2 ⟨by omega,h3,h4,by omega⟩
    refine zS ?_
    refine V.run ?_
    refine VI.s0 2 ?_
    simp only[ds]
    refine VI.callR zA (f83_ok (h.grow g6) (by omega) h3 h4 (by omega)) zA (fun v X ⟨g7,col,ho⟩=>?_)
    obtain⟨p,n,c,rfl⟩:=Oc.slice ho
    refine VI.l0 ?_
    refine zS ?_
    refine V.ret (V.rets rfl (Lv.retF (by simp +contextual (disch:=first|omega|simp only[nx];omega) only[D1,cells_alloc_at,cells_alloc_ne,cells_set_at,cells_set_ne,yres,yres1,yresL,qA,qB,qC,D5,hF,hA,↓reduceIte,qD,qE];rfl) ?_))
    exact⟨g6.trans g7,.inr ⟨e1,_,rfl,ho.ow g6.1⟩⟩
end Go.Xe.TBX
