/- What the functions of the layer round come to: ranges of numbers, and what a reader learns. Conditions: none. -/
import Derived.Test.YthgjooibimphiaaWa
import Derived.Test.YthgjooibimphiaaZy
import Derived.Test.YthgjooibimphiaaTRO
-- MOD TR
namespace Go.Xe.TRX
open Go Go.Xe Go.Proofs
open Nat renaming reduceLeDiff → qA, reduceSub → qB, reduceAdd → qC, reduceEqDiff → qD, reduceLT → qE
open Int renaming reduceNegSucc → qF, reduceEq → qG
open Go.Xe.V renaming seq → sA, block → sB, scope → sC, skip → sD, close → sE
open Go.Xe renaming pth → P
set_option maxRecDepth 100000
set_option maxHeartbeats 3200000
set_option linter.unusedSimpArgs false
noncomputable def d25 : FCode:=(.seq (.run (.go (.move (.con (.bool false))) (P 6)::
[])) (.seq (.run (.go (.move (tm 0)) (P 7)::
.go (.move (tm 1)) (P 8)::
.go (.bin .geq 3 (tm 7) (tm 8)) (P 9)::
.go (.move (tm 9)) (P 10)::
.gd (P 10) true (.move (tm 0)) (P 11)::
.gd (P 10) true (.move (tm 2)) (P 12)::
.gd (P 10) true (.bin .leq 3 (tm 11) (tm 12)) (P 13)::
.go (.pick (tm 10) (tm 13) (.con (.bool false))) (P 14)::
.go (.move (tm 14)) (P 6)::
[])) .ret))
theorem de25 : @compF Try.prog (Gl.none Try.prog) Try.f25 3=.mk d25 (mkTT 15) [(P 0),(P 1),(P 2)] [.tmp (P 6)]:=by kernel_rfl
theorem dg25 : Try.prog.funcs[25]?=some Try.f25:=Try.func25
theorem do25 : okF Try.prog Try.f25=true:=by kernel_rfl
noncomputable def d34 : FCode:=(.seq (.run (.go (.alloc 59 [(.int .i64 (.ofNat 0)),(.int .i64 (.ofNat 0))]) (P 4)::
[])) (.seq (.run (.go (.move (tm 0)) (P 5)::
.go (.move (tm 1)) (P 6)::
.go (.build [(.int .i64 (.ofNat 0)),(.int .i64 (.ofNat 0))] [(0,1,(tm 5)),(1,1,(tm 6))]) (P 7)::
.un (.store 2 (tm 4) (tm 7))::
[])) .ret))
theorem de34 : @compF Try.prog (Gl.none Try.prog) Try.f34 2=.mk d34 (mkTT 8) [(P 0),(P 1)] [.many (P 4) 2]:=by kernel_rfl
theorem dg34 : Try.prog.funcs[34]?=some Try.f34:=Try.func34
theorem do34 : okF Try.prog Try.f34=true:=by kernel_rfl
noncomputable def d58 : FCode:=(.seq (.run (.go (.alloc 59 [(.int .i64 (.ofNat 0)),(.int .i64 (.ofNat 0))]) (P 0)::
[])) (.seq (.run (.go (.build [(.int .i64 (.ofNat 0)),(.int .i64 (.ofNat 0))] [(0,1,(.con (.int .i64 (.ofNat 2)))),(1,1,(.con (.int .i64 (.ofNat 100))))]) (P 1)::
.un (.store 2 (tm 0) (tm 1))::
[])) .ret))
theorem de58 : @compF Try.prog (Gl.none Try.prog) Try.f58 0=.mk d58 (mkTT 2) [] [.many (P 0) 2]:=by kernel_rfl
theorem dg58 : Try.prog.funcs[58]?=some Try.f58:=Try.func58
theorem do58 : okF Try.prog Try.f58=true:=by kernel_rfl
noncomputable def d60 : FCode:=(.seq (.run (.go (.alloc 59 [(.int .i64 (.ofNat 0)),(.int .i64 (.ofNat 0))]) (P 0)::
[])) (.seq (.run (.go (.build [(.int .i64 (.ofNat 0)),(.int .i64 (.ofNat 0))] [(0,1,(.con (.int .i64 (.ofNat 0)))),(1,1,(.con (.int .i64 (.ofNat 10100))))]) (P 1)::
.un (.store 2 (tm 0) (tm 1))::
[])) .ret))
theorem de60 : @compF Try.prog (Gl.none Try.prog) Try.f60 0=.mk d60 (mkTT 2) [] [.many (P 0) 2]:=by kernel_rfl
theorem dg60 : Try.prog.funcs[60]?=some Try.f60:=Try.func60
theorem do60 : okF Try.prog Try.f60=true:=by kernel_rfl
noncomputable def d59 : FCode:=(.seq (.run (.go (.box 59 (tm 0)) (P 2)::
.go (.move (.con (.bool false))) (P 4)::
[])) (.seq (.run (.go (.fieldAddr 0 (tm 2)) (P 5)::
.go (.load1 (tm 5)) (P 6)::
.go (.move (tm 1)) (P 7)::
.go (.bin .leq 3 (tm 6) (tm 7)) (P 8)::
.go (.move (tm 8)) (P 9)::
.gd (P 9) true (.move (tm 1)) (P 10)::
.gd (P 9) true (.fieldAddr 1 (tm 2)) (P 11)::
.gd (P 9) true (.load1 (tm 11)) (P 12)::
.gd (P 9) true (.bin .leq 3 (tm 10) (tm 12)) (P 13)::
.go (.pick (tm 9) (tm 13) (.con (.bool false))) (P 14)::
.go (.move (tm 14)) (P 4)::
[])) .ret))
theorem de59 : @compF Try.prog (Gl.none Try.prog) Try.f59 2=.mk d59 (mkTT 15) [(P 0),(P 1)] [.tmp (P 4)]:=by kernel_rfl
theorem dg59 : Try.prog.funcs[59]?=some Try.f59:=Try.func59
theorem do59 : okF Try.prog Try.f59=true:=by kernel_rfl
noncomputable def d36 : FCode:=(.seq (.run (.go (.move (.con (.bool false))) (P 6)::
[])) (.seq (.run (.go (.move (tm 1)) (P 7)::
.go (.move (tm 0)) (P 8)::
.go (.bin .rem 3 (tm 7) (tm 8)) (P 9)::
.go (.bin .eql 3 (tm 9) (.con (.int .i64 (.ofNat 0)))) (P 10)::
.go (.move (tm 10)) (P 11)::
.gd (P 11) true (.move (tm 1)) (P 12)::
.gd (P 11) true (.move (tm 2)) (P 13)::
.gd (P 11) true (.bin .sub 3 (tm 12) (tm 13)) (P 14)::
.gd (P 11) true (.move (tm 0)) (P 15)::
.gd (P 11) true (.bin .sub 3 (.con (.int .i64 (.ofNat 1))) (tm 15)) (P 16)::
.gd (P 11) true (.move (tm 0)) (P 17)::
.gd (P 11) true (.bin .sub 3 (tm 17) (.con (.int .i64 (.ofNat 1)))) (P 18)::
.gd (P 11) true (.call (.con (.func (.func 25) ⟨[]⟩ ⟨[]⟩)) [(tm 14),(tm 16),(tm 18)]) (P 19)::
.go (.pick (tm 11) (tm 19) (.con (.bool false))) (P 20)::
.go (.move (tm 20)) (P 6)::
[])) .ret))
theorem de36 : @compF Try.prog (Gl.none Try.prog) Try.f36 3=.mk d36 (mkTT 21) [(P 0),(P 1),(P 2)] [.tmp (P 6)]:=by kernel_rfl
theorem dg36 : Try.prog.funcs[36]?=some Try.f36:=Try.func36
theorem do36 : okF Try.prog Try.f36=true:=by kernel_rfl
noncomputable def d35 : FCode:=(.seq (.run (.go (.alloc 59 [(.int .i64 (.ofNat 0)),(.int .i64 (.ofNat 0))]) (P 4)::
.go (.move (.con (.int .i64 (.ofNat 0)))) (P 5)::
[])) (.seq (.block 0 (.seq (.run (.go (.call (.con (.func (.func 58) ⟨[]⟩ ⟨[]⟩)) []) (P 7)::
.go (.move (tm 0)) (P 8)::
.go (.call (.con (.func (.func 59) ⟨[]⟩ ⟨[]⟩)) [(tm 7),(tm 8)]) (P 9)::
.go (.un .not (tm 9)) (P 10)::
.go (.move (tm 10)) (P 6)::
[])) (.cond (tm 6) (.seq (.run (.go (.build [(.int .i64 (.ofNat 0)),(.int .i64 (.ofNat 0))] []) (P 11)::
.un (.store 2 (tm 4) (tm 11))::
.go (.move (.con (.int .i64 (.ofNat 1)))) (P 5)::
[])) .ret) (.seq (.run (.go (.call (.con (.func (.func 60) ⟨[]⟩ ⟨[]⟩)) []) (P 13)::
.go (.move (tm 1)) (P 14)::
.go (.call (.con (.func (.func 59) ⟨[]⟩ ⟨[]⟩)) [(tm 13),(tm 14)]) (P 15)::
.go (.un .not (tm 15)) (P 16)::
.go (.move (tm 16)) (P 17)::
.gd (P 17) false (.move (tm 1)) (P 18)::
.gd (P 17) false (.move (tm 0)) (P 19)::
.gd (P 17) false (.bin .rem 3 (tm 18) (tm 19)) (P 20)::
.gd (P 17) false (.bin .neq 3 (tm 20) (.con (.int .i64 (.ofNat 0)))) (P 21)::
.go (.pick (tm 17) (.con (.bool true)) (tm 21)) (P 22)::
.go (.move (tm 22)) (P 12)::
[])) (.cond (tm 12) (.seq (.run (.go (.build [(.int .i64 (.ofNat 0)),(.int .i64 (.ofNat 0))] []) (P 23)::
.un (.store 2 (tm 4) (tm 23))::
.go (.move (.con (.int .i64 (.ofNat 2)))) (P 5)::
[])) .ret) .skip))))) (.seq (.run (.go (.move (tm 1)) (P 24)::
.go (.move (tm 0)) (P 25)::
.go (.bin .sub 3 (tm 24) (tm 25)) (P 26)::
.go (.bin .add 3 (tm 26) (.con (.int .i64 (.ofNat 1)))) (P 27)::
.go (.mm true [(.con (.int .i64 (.ofNat 0))),(tm 27)]) (P 28)::
.go (.move (tm 1)) (P 29)::
.go (.move (tm 0)) (P 30)::
.go (.bin .add 3 (tm 29) (tm 30)) (P 31)::
.go (.bin .sub 3 (tm 31) (.con (.int .i64 (.ofNat 1)))) (P 32)::
.go (.build [(.int .i64 (.ofNat 0)),(.int .i64 (.ofNat 0))] [(0,1,(tm 28)),(1,1,(tm 32))]) (P 33)::
.un (.store 2 (tm 4) (tm 33))::
.go (.move (.con (.int .i64 (.ofNat 0)))) (P 5)::
[])) .ret)))
theorem de35 : @compF Try.prog (Gl.none Try.prog) Try.f35 2=.mk d35 (mkTT 34) [(P 0),(P 1)] [.many (P 4) 2,.tmp (P 5)]:=by kernel_rfl
theorem dg35 : Try.prog.funcs[35]?=some Try.f35:=Try.func35
theorem do35 : okF Try.prog Try.f35=true:=by kernel_rfl
@[reducible] instance gl : Gl Try.prog:=Gl.none Try.prog
@[reducible] instance orc : Orc Try.prog:=TRO.orc
abbrev I (n : Int) : Value:=.int .i64 n
abbrev U : Value:=undef
abbrev A2 (a b : Int) : List Value:=[I a,I b]
theorem f17_ok (H : Heap) : Gives Try.prog 17 [] H (.bool true):=.orc rfl
theorem f25_ok (n a b : Int) (H : Heap) : Gives Try.prog 25 [I n,I a,I b] H (.bool (decide (a≤n∧n≤b))):=by
 refine F.entryL rfl dg25 do25 de25 rfl (by kernel_rfl) ?_
 simp only[sets]
 refine V.re [(0,I n),(1,I a),(2,I b)] (N:=15) zE zY ?_
 intro t hF hA
 simp only[Kn,and_true] at hA
 refine zS ?_
 refine V.l0 ?_
 refine zS ?_
 refine V.l0 ?_
 refine zS ?_
 refine V.ret (V.rets rfl (Lv.retG (by simp +contextual (disch:=first|omega|simp only[nx];omega) only[D1,cells_alloc_at,cells_alloc_ne,cells_set_at,cells_set_ne,yres,yres1,yresL,qA,qB,qC,D5,hF,hA,↓reduceIte,qD,qE];rfl) ?_ ?_))
 ·exact zW
 ·rfl
theorem f34_ok (a b : Int) (H : Heap) : Gives Try.prog 34 [I a,I b] H (.agg ⟨A2 a b⟩):=by
 refine F.entryL rfl dg34 do34 de34 rfl (by kernel_rfl) ?_
 simp only[sets]
 refine V.re [(0,I a),(1,I b)] (N:=8) zE zY ?_
 intro t hF hA
 simp only[Kn,and_true] at hA
 refine zS ?_
 refine V.l0 ?_
 refine zS ?_
 refine V.l0 ?_
 refine zS ?_
 refine V.ret (V.rets rfl (Lv.retG (by simp +contextual (disch:=first|omega|simp only[nx];omega) only[D1,cells_alloc_at,cells_alloc_ne,cells_set_at,cells_set_ne,yres,yres1,yresL,qA,qB,qC,D5,hF,hA,↓reduceIte,qD,qE];rfl) ?_ ?_))
 ·exact zW
 ·rfl
theorem f58_ok (H : Heap) : Gives Try.prog 58 [] H (.agg ⟨A2 2 100⟩):=by
 refine F.entryL rfl dg58 do58 de58 rfl (by kernel_rfl) ?_
 simp only[sets]
 refine V.re [] (N:=2) zE zY ?_
 intro t hF hA
 refine zS ?_
 refine V.l0 ?_
 refine zS ?_
 refine V.l0 ?_
 refine zS ?_
 refine V.ret (V.rets rfl (Lv.retG (by simp +contextual (disch:=first|omega|simp only[nx];omega) only[D1,cells_alloc_at,cells_alloc_ne,cells_set_at,cells_set_ne,yres,yres1,yresL,qA,qB,qC,D5,hF,hA,↓reduceIte,qD,qE];rfl) ?_ ?_))
 ·exact zW
 ·rfl
theorem f60_ok (H : Heap) : Gives Try.prog 60 [] H (.agg ⟨A2 0 10100⟩):=by
 refine F.entryL rfl dg60 do60 de60 rfl (by kernel_rfl) ?_
 simp only[sets]
 refine V.re [] (N:=2) zE zY ?_
 intro t hF hA
 refine zS ?_
 refine V.l0 ?_
 refine zS ?_
 refine V.l0 ?_
 refine zS ?_
 refine V.ret (V.rets rfl (Lv.retG (by simp +contextual (disch:=first|omega|simp only[nx];omega) only[D1,cells_alloc_at,cells_alloc_ne,cells_set_at,cells_set_ne,yres,yres1,yresL,qA,qB,qC,D5,hF,hA,↓reduceIte,qD,qE];rfl) ?_ ?_))
 ·exact zW
 ·rfl
theorem f59_ok (a b n : Int) (H : Heap) : Gives Try.prog 59 [.agg ⟨A2 a b⟩,I n] H (.bool (decide (a≤n∧n≤b))):=by
 refine F.entryL rfl dg59 do59 de59 rfl (by kernel_rfl) ?_
 simp only[sets]
 refine V.re [(0,.agg ⟨A2 a b⟩),(1,I n)] (N:=15) zE zY ?_
 intro t hF hA
 simp only[Kn,and_true] at hA
 refine zS ?_
 refine V.l0 ?_
 refine V.heap (fun X=>Grow H X∧Bx X H.next (A2 a b) 59) ⟨?_,?_⟩ ?_
 ·exact zW
 ·exact zB
 rintro H1 ⟨g1,b1⟩
 refine zS ?_
 have zf:=b1.2
 refine V.lz ?_
 refine zS ?_
 refine V.ret (V.rets rfl (Lv.retG (by simp +contextual (disch:=first|omega|simp only[nx];omega) only[D1,cells_alloc_at,cells_alloc_ne,cells_set_at,cells_set_ne,yres,yres1,yresL,qA,qB,qC,D5,hF,hA,↓reduceIte,qD,qE];rfl) ?_ ?_))
 ·exact g1
 ·rfl
theorem f36_ok {b n o : Int} (hb : 2≤b∧b≤100) (hn : 0≤n∧n≤10100) (ho : -100000≤o∧o≤100000) (H : Heap) : Gives Try.prog 36 [I b,I n,I o] H (.bool (decide (n.tmod b=0∧1-b≤n-o∧n-o≤b-1))):=by
 have hb0 : ¬ b=0:=by omega
 refine F.entryL rfl dg36 do36 de36 rfl (by kernel_rfl) ?_
 simp only[sets]
 refine V.re [(0,I b),(1,I n),(2,I o)] (N:=21) zE zY ?_
 intro t hF hA
 simp only[Kn,and_true] at hA
 refine zS ?_
 refine V.l0 ?_
 refine zS ?_
 refine V.run ?_
 have zf:=@hb0
 refine VI.sz 9 ?_
 simp only[ds]
 have zf:=@hb0
 refine VI.sz 3 ?_
 simp only[ds]
 first|refine VI.callGt zG (fun hc=>zI) (fun hc=>f25_ok (n-o) (1-b) (b-1) _) (fun hc=>zI) (fun H2 g2=>?_)|refine VI.callGf zG (fun hc=>zI) (fun hc=>f25_ok (n-o) (1-b) (b-1) _) (fun hc=>zI) (fun H2 g2=>?_)
 refine VI.l0 ?_
 refine zS ?_
 refine V.ret (V.rets rfl (Lv.retG (by simp +contextual (disch:=first|omega|simp only[nx];omega) only[D1,cells_alloc_at,cells_alloc_ne,cells_set_at,cells_set_ne,yres,yres1,yresL,qA,qB,qC,D5,hF,hA,↓reduceIte,qD,qE];rfl) ?_ ?_))
 ·exact g2
 ·rfl
def LV (b n : Int) : Value:=if ¬ (2≤b∧b≤100) then .tuple ⟨[.agg ⟨A2 0 0⟩,I 1]⟩ else if ¬ (0≤n∧n≤10100)∨n.tmod b≠0 then .tuple ⟨[.agg ⟨A2 0 0⟩,I 2]⟩ else .tuple ⟨[.agg ⟨A2 (max 0 (n-b+1)) (n+b-1)⟩,I 0]⟩
theorem f35_ok (b n : Int) (H : Heap) : Gives Try.prog 35 [I b,I n] H (LV b n):=by
 refine F.entryL rfl dg35 do35 de35 rfl (by kernel_rfl) ?_
 simp only[sets]
 refine V.re [(0,I b),(1,I n)] (N:=34) zE zY ?_
 intro t hF hA
 simp only[Kn,and_true] at hA
 refine zS ?_
 refine V.l0 ?_
 refine V.heap (fun X=>Grow H X∧Bx X H.next (A2 0 0) 59) ⟨?_,?_⟩ ?_
 ·exact zW
 ·exact zB
 rintro H1 ⟨g1,b1⟩
 refine zS ?_
 refine V.run ?_
 refine VI.callA rfl (f58_ok _) zA (fun H2 g2=>?_)
 refine VI.s0 1 ?_
 simp only[ds]
 refine VI.callA rfl (f59_ok 2 100 b _) zA (fun H3 g3=>?_)
 refine VI.l0 ?_
 have g3:=g1.trans (g2.trans g3)
 have b3:=b1.grow (g2.trans ‹Grow H2 H3›)
 refine zS ?_
 refine V.condP zP (fun h1=>?_) (fun h1=>?_)
 ·refine zS ?_
  have zf:=b3.2
  refine V.lz ?_
  refine zS ?_
  refine V.ret (V.rets rfl (Lv.retG (by simp +contextual (disch:=first|omega|simp only[nx];omega) only[D1,cells_alloc_at,cells_alloc_ne,cells_set_at,cells_set_ne,yres,yres1,yresL,qA,qB,qC,D5,hF,hA,↓reduceIte,qD,qE];rfl) ?_ ?_))
  ·exact g3.set (Nat.le_refl _) _
  ·unfold LV;rw[if_pos h1]
 ·have hb : 2≤b∧b≤100:=by omega
  have hb0 : ¬ b=0:=by omega
  refine zS ?_
  refine V.run ?_
  refine VI.callA rfl (f60_ok _) zA (fun H4 g4=>?_)
  refine VI.s0 1 ?_
  simp only[ds]
  refine VI.callA rfl (f59_ok 0 10100 n _) zA (fun H5 g5=>?_)
  have zf:=@hb0
  refine VI.lz ?_
  have b5:=b3.grow (g4.trans g5)
  have g5:=g3.trans (g4.trans g5)
  refine zS ?_
  refine V.condP zP (fun h2=>?_) (fun h2=>?_)
  ·refine zS ?_
   have zf:=b5.2
   refine V.lz ?_
   refine zS ?_
   refine V.ret (V.rets rfl (Lv.retG (by simp +contextual (disch:=first|omega|simp only[nx];omega) only[D1,cells_alloc_at,cells_alloc_ne,cells_set_at,cells_set_ne,yres,yres1,yresL,qA,qB,qC,D5,hF,hA,↓reduceIte,qD,qE];rfl) ?_ ?_))
   ·exact g5.set (Nat.le_refl _) _
   ·unfold LV;rw[if_neg h1,if_pos h2]
  ·have hn : 0≤n∧n≤10100:=by omega
   refine zS ?_
   have zf:=b5.2
   refine V.lz ?_
   refine zS ?_
   refine V.ret (V.rets rfl (Lv.retG (by simp +contextual (disch:=first|omega|simp only[nx];omega) only[D1,cells_alloc_at,cells_alloc_ne,cells_set_at,cells_set_ne,yres,yres1,yresL,qA,qB,qC,D5,hF,hA,↓reduceIte,qD,qE];rfl) ?_ ?_))
   ·exact g5.set (Nat.le_refl _) _
   ·unfold LV
    rw[if_neg h1,if_neg h2]
    have e : (if n-b+1 > 0 then n-b+1 else 0)=max 0 (n-b+1):=by split<;>omega
    rw[e]
end Go.Xe.TRX
