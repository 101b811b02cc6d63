/- The states between the pieces of function 17: its temporaries, and what its memory holds. Conditions: none. -/
import Derived.Test.YtimnlnfpblomnaaTR
import Derived.Test.YtimnlnfpblomnaaWa
import Derived.Test.YtimnlnfpblomnaaZt
noncomputable section
namespace Go.Xe.TRS17
open Go Go.Xe Go.Proofs
set_option maxRecDepth 1000000
abbrev U : Value:=.tuple ⟨[]⟩
def t1 : TT:=(.n (.bool false) (.n (.slice (some ⟨1038,0,none⟩) 2 2) (.n (.int .i64 (.ofNat 0)) (.n U (.n (.slice (some ⟨1038,0,none⟩) 2 2) (.n U (.n U .e .e) (.n U .e .e)) (.n U (.n U .e .e) .e)) (.n U (.n U (.n U .e .e) .e) (.n U (.n U .e .e) .e))) (.n U (.n (.agg ⟨[(.int .i64 (.ofNat 5)),(.slice (some ⟨1045,0,none⟩) 2 2),(.slice none 0 0)]⟩) (.n U (.n U .e .e) (.n U .e .e)) (.n U (.n U .e .e) .e)) (.n U (.n U (.n U .e .e) .e) (.n U (.n U .e .e) .e)))) (.n (.int .i64 (.ofNat 0)) (.n U (.n (.int .i64 (.ofNat 0)) (.n U (.n U .e .e) (.n U .e .e)) (.n U (.n U .e .e) .e)) (.n U (.n U (.n U .e .e) .e) (.n U (.n U .e .e) .e))) (.n (.agg ⟨[(.int .i64 (.ofNat 5)),(.slice (some ⟨3,0,none⟩) 2 2),(.slice none 0 0)]⟩) (.n (.int .i64 (.ofNat 4)) (.n U (.n U .e .e) .e) (.n U (.n U .e .e) .e)) (.n U (.n U (.n U .e .e) .e) (.n U (.n U .e .e) .e))))) (.n (.int .i64 (.ofNat 6)) (.n (.int .i64 (.ofNat 4)) (.n U (.n (.int .i64 (.ofNat 6)) (.n U (.n U .e .e) (.n U .e .e)) (.n U (.n U .e .e) .e)) (.n U (.n U (.n U .e .e) .e) (.n U (.n U .e .e) .e))) (.n (.tuple ⟨[(.slice (some ⟨1038,0,none⟩) 2 2),(.int .i64 (.ofNat 6)),(.int .i64 (.ofNat 0))]⟩) (.n (.tuple ⟨[(.int .i64 (.ofNat 4)),(.int .i64 (.ofNat 0))]⟩) (.n U (.n U .e .e) (.n U .e .e)) (.n U (.n U .e .e) .e)) (.n U (.n U (.n U .e .e) .e) (.n U (.n U .e .e) .e)))) (.n U (.n U (.n (.tuple ⟨[(.int .i64 (.ofNat 4)),(.int .i64 (.ofNat 0))]⟩) (.n U (.n U .e .e) (.n U .e .e)) (.n U (.n U .e .e) .e)) (.n U (.n U (.n U .e .e) .e) (.n U (.n U .e .e) .e))) (.n (.tuple ⟨[(.slice (some ⟨1038,0,none⟩) 2 2),(.int .i64 (.ofNat 6)),(.int .i64 (.ofNat 0))]⟩) (.n (.int .i64 (.ofNat 0)) (.n U (.n U .e .e) .e) (.n U (.n U .e .e) .e)) (.n U (.n U (.n U .e .e) .e) (.n U (.n U .e .e) .e))))))
def i1 : List Nat:=[1,2,3,757,811,1038,1043,1044,1045]
def E1 : HT:=(.n (.cells [(.int .i64 (.ofNat 3)),(.int .i64 (.ofNat 4))] 3 true) .e (.n (.cells [(.int .i64 (.ofNat 6)),(.int .i64 (.ofNat 2))] 3 true) .e (.n (.cells [(.slice (some ⟨1,0,none⟩) 2 2),(.slice (some ⟨2,0,none⟩) 2 2)] 41 true) .e (.n (.cells [(.int .i64 (.ofNat 5)),(.int .i64 (.ofNat 5))] 3 true) .e (.n (.cells [(.int .i64 (.ofNat 5)),(.int .i64 (.ofNat 0))] 3 true) .e (.n (.cells [(.slice (some ⟨757,0,none⟩) 2 2),(.slice (some ⟨811,0,none⟩) 2 2)] 41 true) .e (.n (.cells [(.int .i64 (.ofNat 3)),(.int .i64 (.ofNat 4))] 3 true) .e (.n (.cells [(.int .i64 (.ofNat 6)),(.int .i64 (.ofNat 2))] 3 true) .e (.n (.cells [(.slice (some ⟨1043,0,none⟩) 2 2),(.slice (some ⟨1044,0,none⟩) 2 2)] 41 true) .e .e)))))))))
end Go.Xe.TRS17
namespace Go.Xe.TRP17x0
open Go Go.Xe Go.Proofs
set_option maxRecDepth 1000000
theorem run : startL [] .e (pd 17) (λT=>segF Try.prog TR.F0 4997 (fstake 3 (fsdrop 0 TR.c17)) (mkTT 101) [] (.mk 0 T) (outR TRS17.i1))=.nx TRS17.t1 [] (.mk 2084 TRS17.E1):=by kernel_rfl
theorem len : (fstake 3 (fsdrop 0 TR.c17)).length=3:=by kernel_rfl
end Go.Xe.TRP17x0
namespace Go.Xe.TRP17x1
open Go Go.Xe Go.Proofs
set_option maxRecDepth 1000000
theorem run : startL TRS17.i1 TRS17.E1 (pd 17) (λT=>afterF (execF Try.prog TR.F0 4997 (fsdrop 3 TR.c17) none [] TRS17.t1 (.mk 2084 T)) [.tmp .o] endT)=.rt .e [] (.mk 0 .e):=by kernel_rfl
end Go.Xe.TRP17x1
namespace Go.Xe.TRB17
open Go Go.Xe Go.Proofs
set_option maxRecDepth 1000000
theorem mixed : Try.prog.follows .mixedOrders=true:=by kernel_rfl
def body : Code:=match Try.f17.body with|some c=>c|none=>.skip
theorem hb : Try.f17.body=some body:=by kernel_rfl
theorem hn : Try.f17.ntmps=101:=by kernel_rfl
theorem call : (∀ (w : World) (r : Option Nat) (n : Nat), CallsIn (FW r) n Try.prog 17 #[] w (Quiet (.bool true) w)) ∧ ∃ fn, Try.prog.funcs[(17 : Nat)]? = some fn ∧ fn.body.isSome = true ∧ (fn.name == "runtime.NumGoroutine") = false := by
 letI:=(Gl.none Try.prog)
 letI:=(Orc.none Try.prog)
 have hF:=TR.ok0 (Orc.none Try.prog) rfl
 obtain⟨hc,hres⟩:=of_entry hb TR.e17
 obtain⟨tm0,H0,x0,s0⟩:=piece hF hc 0 3 4997 TRP17x0.len TRP17x0.run stOk_start
 obtain⟨e,a,Hz,y1,y2,y3,y4⟩:=piece_last hF hc 3 4997 TR.o17 hres TRP17x1.run s0
 have hx : exec Try.prog 5000 none body ⟨Array.replicate Try.f17.ntmps undef,[],Heap.empty⟩=some (e,a):=by rw[hn];exact x0.trans (y1)
 obtain⟨z1,z2⟩:=xcall_of rfl TR.g17 hb TR.o17 hx y2 y3 y4
 obtain⟨k1,k2⟩:=closed_x (Orc.none Try.prog) mixed (start_x (Orc.none Try.prog) rfl) z1 z2
 exact⟨λw r n=>k1 w r n (Nat.zero_le _) trivial,k2⟩
end Go.Xe.TRB17
namespace Go.Xe.TRO
open Go Go.Xe Go.Proofs
set_option maxRecDepth 1000000
@[reducible] def orc : Orc Try.prog:=⟨0,λ_=>True,λ_ _ _ _=>trivial,TR.orcs1,λg b h=>by
 unfold TR.orcs1 at h
 split at h
 ·rename_i hg
  cases h
  subst hg
  exact⟨λw r n _ _=>TRB17.call.1 w r n,TRB17.call.2⟩
 ·cases h⟩
end Go.Xe.TRO
-- MOD TR
namespace Go.Xe.TRX
open Go Go.Xe Go.Proofs
open Nat renaming reduceLeDiff ->qA, reduceSub ->qB, reduceAdd ->qC, reduceEqDiff ->qD, reduceLT ->qE
open Int renaming reduceNegSucc ->qF, reduceEq ->qG
open Go.Xe.V renaming seq ->sA, block ->sB, scope ->sC, skip ->sD, close ->sE
open Go.Xe renaming pth ->P
set_option maxRecDepth 100000
set_option maxHeartbeats 3200000
set_option linter.unusedSimpArgs false
def d25 : FCode:=(.seq (.run (.go (.move (.con (.bool false))) (P 6)::
[])) (.seq (.run (.go (.move (tm 0)) (P 7)::
.go (.move (tm 1)) (P 8)::
.go (.bin .geq 3 (tm 7) (tm 8)) (P 9)::
.go (.move (tm 9)) (P 10)::
.gd (P 10) true (.move (tm 0)) (P 11)::
.gd (P 10) true (.move (tm 2)) (P 12)::
.gd (P 10) true (.bin .leq 3 (tm 11) (tm 12)) (P 13)::
.go (.pick (tm 10) (tm 13) (.con (.bool false))) (P 14)::
.go (.move (tm 14)) (P 6)::
[])) .ret))
theorem de25 : @compF Try.prog (Gl.none Try.prog) Try.f25 3=.mk d25 (mkTT 15) [(P 0),(P 1),(P 2)] [.tmp (P 6)]:=by kernel_rfl
theorem dg25 : Try.prog.funcs[25]?=some Try.f25:=Try.func25
theorem do25 : okF Try.prog Try.f25=true:=by kernel_rfl
def d34 : FCode:=(.seq (.run (.go (.alloc 59 [(.int .i64 (.ofNat 0)),(.int .i64 (.ofNat 0))]) (P 4)::
[])) (.seq (.run (.go (.move (tm 0)) (P 5)::
.go (.move (tm 1)) (P 6)::
.go (.build [(.int .i64 (.ofNat 0)),(.int .i64 (.ofNat 0))] [(0,1,(tm 5)),(1,1,(tm 6))]) (P 7)::
.un (.store 2 (tm 4) (tm 7))::
[])) .ret))
theorem de34 : @compF Try.prog (Gl.none Try.prog) Try.f34 2=.mk d34 (mkTT 8) [(P 0),(P 1)] [.many (P 4) 2]:=by kernel_rfl
theorem dg34 : Try.prog.funcs[34]?=some Try.f34:=Try.func34
theorem do34 : okF Try.prog Try.f34=true:=by kernel_rfl
def d58 : FCode:=(.seq (.run (.go (.alloc 59 [(.int .i64 (.ofNat 0)),(.int .i64 (.ofNat 0))]) (P 0)::
[])) (.seq (.run (.go (.build [(.int .i64 (.ofNat 0)),(.int .i64 (.ofNat 0))] [(0,1,(.con (.int .i64 (.ofNat 2)))),(1,1,(.con (.int .i64 (.ofNat 100))))]) (P 1)::
.un (.store 2 (tm 0) (tm 1))::
[])) .ret))
theorem de58 : @compF Try.prog (Gl.none Try.prog) Try.f58 0=.mk d58 (mkTT 2) [] [.many (P 0) 2]:=by kernel_rfl
theorem dg58 : Try.prog.funcs[58]?=some Try.f58:=Try.func58
theorem do58 : okF Try.prog Try.f58=true:=by kernel_rfl
def d60 : FCode:=(.seq (.run (.go (.alloc 59 [(.int .i64 (.ofNat 0)),(.int .i64 (.ofNat 0))]) (P 0)::
[])) (.seq (.run (.go (.build [(.int .i64 (.ofNat 0)),(.int .i64 (.ofNat 0))] [(0,1,(.con (.int .i64 (.ofNat 0)))),(1,1,(.con (.int .i64 (.ofNat 10100))))]) (P 1)::
.un (.store 2 (tm 0) (tm 1))::
[])) .ret))
theorem de60 : @compF Try.prog (Gl.none Try.prog) Try.f60 0=.mk d60 (mkTT 2) [] [.many (P 0) 2]:=by kernel_rfl
theorem dg60 : Try.prog.funcs[60]?=some Try.f60:=Try.func60
theorem do60 : okF Try.prog Try.f60=true:=by kernel_rfl
def d62 : FCode:=(.seq (.run (.go (.alloc 59 [(.int .i64 (.ofNat 0)),(.int .i64 (.ofNat 0))]) (P 0)::
[])) (.seq (.run (.go (.build [(.int .i64 (.ofNat 0)),(.int .i64 (.ofNat 0))] [(0,1,(.con (.int .i64 (.ofNat 0)))),(1,1,(.con (.int .i64 (.ofNat 10000))))]) (P 1)::
.un (.store 2 (tm 0) (tm 1))::
[])) .ret))
theorem de62 : @compF Try.prog (Gl.none Try.prog) Try.f62 0=.mk d62 (mkTT 2) [] [.many (P 0) 2]:=by kernel_rfl
theorem dg62 : Try.prog.funcs[62]?=some Try.f62:=Try.func62
theorem do62 : okF Try.prog Try.f62=true:=by kernel_rfl
def d59 : FCode:=(.seq (.run (.go (.box 59 (tm 0)) (P 2)::
.go (.move (.con (.bool false))) (P 4)::
[])) (.seq (.run (.go (.fieldAddr 0 (tm 2)) (P 5)::
.go (.load1 (tm 5)) (P 6)::
.go (.move (tm 1)) (P 7)::
.go (.bin .leq 3 (tm 6) (tm 7)) (P 8)::
.go (.move (tm 8)) (P 9)::
.gd (P 9) true (.move (tm 1)) (P 10)::
.gd (P 9) true (.fieldAddr 1 (tm 2)) (P 11)::
.gd (P 9) true (.load1 (tm 11)) (P 12)::
.gd (P 9) true (.bin .leq 3 (tm 10) (tm 12)) (P 13)::
.go (.pick (tm 9) (tm 13) (.con (.bool false))) (P 14)::
.go (.move (tm 14)) (P 4)::
[])) .ret))
theorem de59 : @compF Try.prog (Gl.none Try.prog) Try.f59 2=.mk d59 (mkTT 15) [(P 0),(P 1)] [.tmp (P 4)]:=by kernel_rfl
theorem dg59 : Try.prog.funcs[59]?=some Try.f59:=Try.func59
theorem do59 : okF Try.prog Try.f59=true:=by kernel_rfl
def d36 : FCode:=(.seq (.run (.go (.move (.con (.bool false))) (P 6)::
[])) (.seq (.run (.go (.move (tm 1)) (P 7)::
.go (.move (tm 0)) (P 8)::
.go (.bin .rem 3 (tm 7) (tm 8)) (P 9)::
.go (.bin .eql 3 (tm 9) (.con (.int .i64 (.ofNat 0)))) (P 10)::
.go (.move (tm 10)) (P 11)::
.gd (P 11) true (.move (tm 1)) (P 12)::
.gd (P 11) true (.move (tm 2)) (P 13)::
.gd (P 11) true (.bin .sub 3 (tm 12) (tm 13)) (P 14)::
.gd (P 11) true (.move (tm 0)) (P 15)::
.gd (P 11) true (.bin .sub 3 (.con (.int .i64 (.ofNat 1))) (tm 15)) (P 16)::
.gd (P 11) true (.move (tm 0)) (P 17)::
.gd (P 11) true (.bin .sub 3 (tm 17) (.con (.int .i64 (.ofNat 1)))) (P 18)::
.gd (P 11) true (.call (.con (.func (.func 25) ⟨[]⟩ ⟨[]⟩)) [(tm 14),(tm 16),(tm 18)]) (P 19)::
.go (.pick (tm 11) (tm 19) (.con (.bool false))) (P 20)::
.go (.move (tm 20)) (P 6)::
[])) .ret))
theorem de36 : @compF Try.prog (Gl.none Try.prog) Try.f36 3=.mk d36 (mkTT 21) [(P 0),(P 1),(P 2)] [.tmp (P 6)]:=by kernel_rfl
theorem dg36 : Try.prog.funcs[36]?=some Try.f36:=Try.func36
theorem do36 : okF Try.prog Try.f36=true:=by kernel_rfl
@[reducible] instance gl : Gl Try.prog:=Gl.none Try.prog
@[reducible] instance orc : Orc Try.prog:=TRO.orc
abbrev I (n : Int) : Value:=.int .i64 n
abbrev A2 (a b : Int) : List Value:=[I a,I b]
theorem f17_ok (H : Heap) : Gives Try.prog 17 [] H (.bool true):=.orc rfl
theorem f25_ok (n a b : Int) (H : Heap) : Gives Try.prog 25 [I n,I a,I b] H (.bool (decide (a<=n/\n<=b))):=by
 refine F.entryL rfl dg25 do25 de25 rfl (by kernel_rfl) ?_
 simp only[sets]
 refine V.re [(0,I n),(1,I a),(2,I b)] (N:=15) zE zY ?_
 intro t hF hA
 simp only[Kn,and_true] at hA
 refine zS ?_
 refine V.l0 ?_
 refine zS ?_
 refine V.l0 ?_
 refine zS ?_
 refine V.ret (V.rets rfl (Lv.retG (by simp +contextual (disch:=first|omega|simp only[nx];omega) only[D1,cells_alloc_at,cells_alloc_ne,cells_set_at,cells_set_ne,yres,yres1,yresL,qA,qB,qC,D5,hF,hA,↓reduceIte,qD,qE];rfl) ?_ ?_))
 ·exact zW
 ·rfl
theorem f34_ok (a b : Int) (H : Heap) : Gives Try.prog 34 [I a,I b] H (.agg ⟨A2 a b⟩):=by
 refine F.entryL rfl dg34 do34 de34 rfl (by kernel_rfl) ?_
 simp only[sets]
 refine V.re [(0,I a),(1,I b)] (N:=8) zE zY ?_
 intro t hF hA
 simp only[Kn,and_true] at hA
 refine zS ?_
 refine V.l0 ?_
 refine zS ?_
 refine V.l0 ?_
 refine zS ?_
 refine V.ret (V.rets rfl (Lv.retG (by simp +contextual (disch:=first|omega|simp only[nx];omega) only[D1,cells_alloc_at,cells_alloc_ne,cells_set_at,cells_set_ne,yres,yres1,yresL,qA,qB,qC,D5,hF,hA,↓reduceIte,qD,qE];rfl) ?_ ?_))
 ·exact zW
 ·rfl
theorem f58_ok (H : Heap) : Gives Try.prog 58 [] H (.agg ⟨A2 2 100⟩):=by
 refine F.entryL rfl dg58 do58 de58 rfl (by kernel_rfl) ?_
 simp only[sets]
 refine V.re [] (N:=2) zE zY ?_
 intro t hF hA
 refine zS ?_
 refine V.l0 ?_
 refine zS ?_
 refine V.l0 ?_
 refine zS ?_
 refine V.ret (V.rets rfl (Lv.retG (by simp +contextual (disch:=first|omega|simp only[nx];omega) only[D1,cells_alloc_at,cells_alloc_ne,cells_set_at,cells_set_ne,yres,yres1,yresL,qA,qB,qC,D5,hF,hA,↓reduceIte,qD,qE];rfl) ?_ ?_))
 ·exact zW
 ·rfl
theorem f60_ok (H : Heap) : Gives Try.prog 60 [] H (.agg ⟨A2 0 10100⟩):=by
 refine F.entryL rfl dg60 do60 de60 rfl (by kernel_rfl) ?_
 simp only[sets]
 refine V.re [] (N:=2) zE zY ?_
 intro t hF hA
 refine zS ?_
 refine V.l0 ?_
 refine zS ?_
 refine V.l0 ?_
 refine zS ?_
 refine V.ret (V.rets rfl (Lv.retG (by simp +contextual (disch:=first|omega|simp only[nx];omega) only[D1,cells_alloc_at,cells_alloc_ne,cells_set_at,cells_set_ne,yres,yres1,yresL,qA,qB,qC,D5,hF,hA,↓reduceIte,qD,qE];rfl) ?_ ?_))
 ·exact zW
 ·rfl
theorem f62_ok (H : Heap) : Gives Try.prog 62 [] H (.agg ⟨A2 0 10000⟩):=by
 refine F.entryL rfl dg62 do62 de62 rfl (by kernel_rfl) ?_
 simp only[sets]
 refine V.re [] (N:=2) zE zY ?_
 intro t hF hA
 refine zS ?_
 refine V.l0 ?_
 refine zS ?_
 refine V.l0 ?_
 refine zS ?_
 refine V.ret (V.rets rfl (Lv.retG (by simp +contextual (disch:=first|omega|simp only[nx];omega) only[D1,cells_alloc_at,cells_alloc_ne,cells_set_at,cells_set_ne,yres,yres1,yresL,qA,qB,qC,D5,hF,hA,↓reduceIte,qD,qE];rfl) ?_ ?_))
 ·exact zW
 ·rfl
theorem f59_ok (a b n : Int) (H : Heap) : Gives Try.prog 59 [.agg ⟨A2 a b⟩,I n] H (.bool (decide (a<=n/\n<=b))):=by
 refine F.entryL rfl dg59 do59 de59 rfl (by kernel_rfl) ?_
 simp only[sets]
 refine V.re [(0,.agg ⟨A2 a b⟩),(1,I n)] (N:=15) zE zY ?_
 intro t hF hA
 simp only[Kn,and_true] at hA
 refine zS ?_
 refine V.l0 ?_
 refine V.heap (λX=>Grow H X/\Bx X H.next (A2 a b) 59) ⟨?_,?_⟩ ?_
 ·exact zW
 ·exact zB
 rintro H1 ⟨g1,b1⟩
 refine zS ?_
 have zf:=b1.2
 refine V.lz ?_
 refine zS ?_
 refine V.ret (V.rets rfl (Lv.retG (by simp +contextual (disch:=first|omega|simp only[nx];omega) only[D1,cells_alloc_at,cells_alloc_ne,cells_set_at,cells_set_ne,yres,yres1,yresL,qA,qB,qC,D5,hF,hA,↓reduceIte,qD,qE];rfl) ?_ ?_))
 ·exact g1
 ·rfl
theorem f36_ok {b n o : Int} (hb : 2<=b/\b<=100) (hn : -1000000<=n/\n<=1000000) (ho : -1000000<=o/\o<=1000000) (H : Heap) : Gives Try.prog 36 [I b,I n,I o] H (.bool (decide (n.tmod b=0/\1-b<=n-o/\n-o<=b-1))):=by
 have hb0 : ¬ b=0:=by omega
 refine F.entryL rfl dg36 do36 de36 rfl (by kernel_rfl) ?_
 simp only[sets]
 refine V.re [(0,I b),(1,I n),(2,I o)] (N:=21) zE zY ?_
 intro t hF hA
 simp only[Kn,and_true] at hA
 refine zS ?_
 refine V.l0 ?_
 refine zS ?_
 refine V.run ?_
 have zf:=@hb0
 refine VI.sz 9 ?_
 simp only[ds]
 have zf:=@hb0
 refine VI.sz 3 ?_
 simp only[ds]
 first|refine VI.callGt zG (λhc=>zI) (λhc=>f25_ok (n-o) (1-b) (b-1) _) (λhc=>zI) (λH2 g2=>?_)|refine VI.callGf zG (λhc=>zI) (λhc=>f25_ok (n-o) (1-b) (b-1) _) (λhc=>zI) (λH2 g2=>?_)
 refine VI.l0 ?_
 refine zS ?_
 refine V.ret (V.rets rfl (Lv.retG (by simp +contextual (disch:=first|omega|simp only[nx];omega) only[D1,cells_alloc_at,cells_alloc_ne,cells_set_at,cells_set_ne,yres,yres1,yresL,qA,qB,qC,D5,hF,hA,↓reduceIte,qD,qE];rfl) ?_ ?_))
 ·exact g2
 ·rfl
end Go.Xe.TRX
-- MOD TR
namespace Go.Xe.TRX
open Go Go.Xe Go.Proofs
open Nat renaming reduceLeDiff ->qA, reduceSub ->qB, reduceAdd ->qC, reduceEqDiff ->qD, reduceLT ->qE
open Int renaming reduceNegSucc ->qF, reduceEq ->qG
open Go.Xe.V renaming seq ->sA, block ->sB, scope ->sC, skip ->sD, close ->sE
open Go.Xe renaming pth ->P
set_option maxRecDepth 100000
set_option maxHeartbeats 3200000
set_option linter.unusedSimpArgs false
def d5 : FCode:=(.seq (.run (.go (.move (.con (.bool false))) (P 4)::
[])) (.seq (.run (.go (.move (tm 0)) (P 11)::
.go (.move (tm 1)) (P 12)::
.go (.call (.con (.func (.func 35) ⟨[]⟩ ⟨[]⟩)) [(tm 11),(tm 12)]) (P 13)::
.go (.move (tm 13)) (P 10)::
.go (.extract (tm 10) 0) (P 14)::
.go (.extract (tm 10) 1) (P 15)::
.go (.alloc 59 [(.int .i64 (.ofNat 0)),(.int .i64 (.ofNat 0))]) (P 5)::
.un (.store 2 (tm 5) (tm 14))::
.go (.move (tm 15)) (P 6)::
[])) (.seq (.run (.go (.move (.con (.int .i64 (.ofNat 0)))) (P 7)::
[])) (.seq (.block 0 (.seq (.run (.go (.move (tm 0)) (P 17)::
.go (.call (.con (.func (.func 25) ⟨[]⟩ ⟨[]⟩)) [(tm 17),(.con (.int .i64 (.ofNat 2))),(.con (.int .i64 (.ofNat 100)))]) (P 18)::
.go (.un .not (tm 18)) (P 19)::
.go (.move (tm 19)) (P 16)::
[])) (.cond (tm 16) (.run (.go (.move (.con (.int .i64 (.ofNat 1)))) (P 7)::
[])) (.seq (.run (.go (.move (tm 1)) (P 21)::
.go (.call (.con (.func (.func 25) ⟨[]⟩ ⟨[]⟩)) [(tm 21),(.con (.int .i64 (.ofNat 0))),(.con (.int .i64 (.ofNat 10100)))]) (P 22)::
.go (.un .not (tm 22)) (P 23)::
.go (.move (tm 23)) (P 24)::
.gd (P 24) false (.move (tm 1)) (P 25)::
.gd (P 24) false (.move (tm 0)) (P 26)::
.gd (P 24) false (.bin .rem 3 (tm 25) (tm 26)) (P 27)::
.gd (P 24) false (.bin .neq 3 (tm 27) (.con (.int .i64 (.ofNat 0)))) (P 28)::
.go (.pick (tm 24) (.con (.bool true)) (tm 28)) (P 29)::
.go (.move (tm 29)) (P 20)::
[])) (.cond (tm 20) (.run (.go (.move (.con (.int .i64 (.ofNat 2)))) (P 7)::
[])) .skip))))) (.seq (.seq (.run (.go (.move (tm 7)) (P 30)::
.go (.bin .neq 29 (tm 30) (.con (.int .i64 (.ofNat 0)))) (P 31)::
[])) (.cond (tm 31) (.seq (.run (.go (.move (tm 6)) (P 32)::
.go (.move (tm 7)) (P 33)::
.go (.bin .eql 29 (tm 32) (tm 33)) (P 34)::
.go (.move (tm 34)) (P 35)::
.gd (P 35) true (.loadN 2 (tm 5)) (P 36)::
.gd (P 35) true (.build [(.int .i64 (.ofNat 0)),(.int .i64 (.ofNat 0))] []) (P 37)::
.gd (P 35) true (.bin .eql 59 (tm 36) (tm 37)) (P 38)::
.go (.pick (tm 35) (tm 38) (.con (.bool false))) (P 39)::
.go (.move (tm 39)) (P 40)::
.gd (P 40) true (.call (.con (.func (.func 17) ⟨[]⟩ ⟨[]⟩)) []) (P 41)::
.go (.pick (tm 40) (tm 41) (.con (.bool false))) (P 42)::
.go (.move (tm 42)) (P 4)::
[])) .ret) .skip)) (.seq (.run (.go (.move (tm 1)) (P 43)::
.go (.move (tm 1)) (P 44)::
.go (.move (tm 43)) (P 8)::
.go (.move (tm 44)) (P 9)::
[])) (.seq (.block 1 (.loop (.seq (.seq (.run (.go (.move (tm 8)) (P 45)::
.go (.bin .gtr 3 (tm 45) (.con (.int .i64 (.ofNat 0)))) (P 46)::
.go (.move (tm 46)) (P 47)::
.gd (P 47) true (.move (tm 0)) (P 48)::
.gd (P 47) true (.move (tm 1)) (P 49)::
.gd (P 47) true (.move (tm 8)) (P 50)::
.gd (P 47) true (.bin .sub 3 (tm 50) (.con (.int .i64 (.ofNat 1)))) (P 51)::
.gd (P 47) true (.call (.con (.func (.func 36) ⟨[]⟩ ⟨[]⟩)) [(tm 48),(tm 49),(tm 51)]) (P 52)::
.go (.pick (tm 47) (tm 52) (.con (.bool false))) (P 53)::
[])) (.cond (tm 53) .skip (.exit 1))) (.block 2 (.run (.go (.move (tm 8)) (P 54)::
.go (.bin .sub 3 (tm 54) (.con (.int .i64 (.ofNat 1)))) (P 55)::
.go (.move (tm 55)) (P 8)::
[])))))) (.seq (.block 3 (.loop (.seq (.seq (.run (.go (.move (tm 0)) (P 56)::
.go (.move (tm 1)) (P 57)::
.go (.move (tm 9)) (P 58)::
.go (.bin .add 3 (tm 58) (.con (.int .i64 (.ofNat 1)))) (P 59)::
.go (.call (.con (.func (.func 36) ⟨[]⟩ ⟨[]⟩)) [(tm 56),(tm 57),(tm 59)]) (P 60)::
[])) (.cond (tm 60) .skip (.exit 3))) (.block 4 (.run (.go (.move (tm 9)) (P 61)::
.go (.bin .add 3 (tm 61) (.con (.int .i64 (.ofNat 1)))) (P 62)::
.go (.move (tm 62)) (P 9)::
[])))))) (.seq (.draw 13 (.go (.move (tm 6)) (P 63)::
.go (.bin .eql 29 (tm 63) (.con (.int .i64 (.ofNat 0)))) (P 64)::
.go (.move (tm 64)) (P 65)::
.gd (P 65) true (.loadN 2 (tm 5)) (P 66)::
.gd (P 65) true (.move (tm 8)) (P 67)::
.gd (P 65) true (.move (tm 9)) (P 68)::
.gd (P 65) true (.call (.con (.func (.func 34) ⟨[]⟩ ⟨[]⟩)) [(tm 67),(tm 68)]) (P 69)::
.gd (P 65) true (.bin .eql 59 (tm 66) (tm 69)) (P 70)::
.go (.pick (tm 65) (tm 70) (.con (.bool false))) (P 71)::
.go (.move (tm 71)) (P 72)::
.gd (P 72) true (.call (.con (.func (.func 17) ⟨[]⟩ ⟨[]⟩)) []) (P 73)::
.go (.pick (tm 72) (tm 73) (.con (.bool false))) (P 74)::
.go (.move (tm 74)) (P 4)::
[]) [.ok,.ok,.ok,.rd (some ((P 65),true)) (.loadN 2 (tm 5)) (some (P 66)) [7],.ok,.ok,.ok,.ok,.ok,.ok,.ok,.ok,.ok]) .ret)))))))))
abbrev PT (p : Nat) : Value:=.pointer (some ⟨p,0,none⟩)
theorem kl_int {n : Int} (h : (Lit.int .i64 n).wf=true) (k : Nat) : Try.prog.keyLits (k+1) 3 [I n]=some [.int .i64 n]:=by
 unfold Program.keyLits
 simp only[Try.underlying3]
 rw[if_pos ⟨trivial,h⟩]
theorem wf_k {x : Int} (h1 : -1000000000<=x) (h2 : x<=1000000000) : (Lit.int .i64 x).wf=true:=by
 simp only[Lit.wf,Bool.and_eq_true,decide_eq_true_eq]
 show (-9223372036854775808 : Int)<=x/\x<=9223372036854775807
 omega
theorem key59 {a b : Int} (ha : (Lit.int .i64 a).wf=true) (hb : (Lit.int .i64 b).wf=true) : (keyOf Try.prog 59 (.agg ⟨A2 a b⟩)).isSome=true:=by
 have c3 : Try.prog.cellsOf 3=1:=by kernel_rfl
 have c48 : Try.prog.cellsOf 59=2:=by kernel_rfl
 have h5 : (Program.keyType Try.prog 59 && (Value.agg ⟨[I a,I b]⟩).formed Try.prog 59)=true:=by kernel_rfl
 obtain⟨n,hn⟩ : ∃ n,Try.prog.types.size+1=n+2:=⟨Try.prog.types.size-1,by have : 2<=Try.prog.types.size:=Nat.le_of_ble_eq_true (by kernel_rfl);omega⟩
 unfold keyOf
 simp only[Try.underlying59]
 rw[if_pos h5,hn]
 unfold Program.keyLits
 simp only[Try.underlying59,c48]
 have e : (Value.agg ⟨[I a,I b]⟩).cells.toList=[I a,I b]:=rfl
 rw[e,if_pos ⟨rfl,by simp⟩]
 simp[c3,kl_int ha,kl_int hb]
end Go.Xe.TRX
namespace Go.Xe.Rnd
def sm : List Int->Int
 | []=>0
 | x::l=>x+sm l
theorem sm_app : ∀ (a b : List Int),sm (a++b)=sm a+sm b
 | [],b=>by simp[sm]
 | x::a,b=>by simp only[List.cons_append,sm,sm_app a b];omega
theorem sm_take {l : List Int} {k : Nat} (h : k<l.length) : sm (l.take (k+1))=sm (l.take k)+l[k]:=by
 rw[List.take_succ_eq_append_getElem h,sm_app];simp[sm]
theorem sm_bound {c : Int} : ∀ {l : List Int},(∀ x∈l,0<=x/\x<=c)->0<=sm l/\sm l<=l.length*c
 | [],_=>by simp[sm]
 | x::l,h=>by
  have h1:=h x (by simp)
  have h2:=sm_bound (l:=l) (λy hy=>h y (by simp[hy]))
  simp only[sm,List.length_cons]
  have : ((l.length+1 : Nat) : Int)*c=(l.length : Int)*c+c:=by push_cast;rw[Int.add_mul];simp
  omega
structure FMx (l : List Int) (i : Nat) : Prop where
 lt : i<l.length
 ge : ∀ j,j<l.length->l.getD j 0<=l.getD i 0
 first : ∀ j,j<i->l.getD j 0<l.getD i 0
theorem getD_mem {l : List Int} {i : Nat} (h : i<l.length) : l.getD i 0∈l:=by
 rw[List.getD_eq_getElem?_getD,List.getElem?_eq_getElem h];exact List.getElem_mem h
theorem sm_nil : sm []=0:=rfl
end Go.Xe.Rnd
-- MOD TR
namespace Go.Xe.TRX
open Go Go.Xe Go.Proofs
open Nat renaming reduceLeDiff ->qA, reduceSub ->qB, reduceAdd ->qC, reduceEqDiff ->qD, reduceLT ->qE
open Int renaming reduceNegSucc ->qF, reduceEq ->qG
open Go.Xe.V renaming seq ->sA, block ->sB, scope ->sC, skip ->sD, close ->sE
open Go.Xe renaming pth ->P
open Go.Xe.Rnd
set_option maxRecDepth 100000
set_option maxHeartbeats 3200000
set_option linter.unusedSimpArgs false
def d61 : FCode:=(.seq (.run (.go (.move (.con (.bool false))) (P 4)::
[])) (.seq (.seq (.run (.go (.move (tm 0)) (P 7)::
.go (.len 0 (tm 7)) (P 8)::
.go (.move (.con (.int .i64 (.ofNat 0)))) (P 9)::
[])) (.block 0 (.loop (.seq (.run (.go (.bin .lss 3 (tm 9) (tm 8)) (P 10)::
[])) (.seq (.cond (tm 10) .skip (.exit 0)) (.seq (.block 1 (.seq (.run (.go (.indexAddr none 1 (tm 7) (tm 9)) (P 11)::
.go (.load1 (tm 11)) (P 12)::
.go (.move (tm 12)) (P 6)::
[])) (.seq (.run (.go (.move (tm 1)) (P 13)::
.go (.move (tm 6)) (P 14)::
.go (.call (tm 13) [tm 14]) (P 15)::
.go (.un .not (tm 15)) (P 16)::
[])) (.cond (tm 16) (.seq (.run (.go (.move (.con (.bool false))) (P 4)::
[])) .ret) .skip)))) (.run (.go (.bin .add 3 (tm 9) (.con (.int .i64 (.ofNat 1)))) (P 17)::
.go (.move (tm 17)) (P 9)::
[])))))))) (.seq (.run (.go (.move (.con (.bool true))) (P 4)::
[])) .ret)))
theorem de61 : @compF Try.prog (Gl.none Try.prog) Try.f61 2=.mk d61 (mkTT 18) [(P 0),(P 1)] [.tmp (P 4)]:=by kernel_rfl
theorem dg61 : Try.prog.funcs[61]?=some Try.f61:=Try.func61
theorem do61 : okF Try.prog Try.f61=true:=by kernel_rfl
def d64 : FCode:=(.seq (.run (.go (.move (.con (.int .i64 (.ofNat 0)))) (P 2)::
[])) (.seq (.run (.go (.move (.con (.int .i64 (.ofNat 0)))) (P 3)::
[])) (.seq (.seq (.run (.go (.move (tm 0)) (P 6)::
.go (.len 0 (tm 6)) (P 7)::
.go (.move (.con (.int .i64 (.ofNat 0)))) (P 8)::
[])) (.block 0 (.loop (.seq (.run (.go (.bin .lss 3 (tm 8) (tm 7)) (P 9)::
[])) (.seq (.cond (tm 9) .skip (.exit 0)) (.seq (.block 1 (.seq (.run (.go (.indexAddr none 1 (tm 6) (tm 8)) (P 10)::
.go (.load1 (tm 10)) (P 11)::
.go (.move (tm 11)) (P 5)::
[])) (.run (.go (.move (tm 3)) (P 12)::
.go (.move (tm 5)) (P 13)::
.go (.bin .add 3 (tm 12) (tm 13)) (P 14)::
.go (.move (tm 14)) (P 3)::
[])))) (.run (.go (.bin .add 3 (tm 8) (.con (.int .i64 (.ofNat 1)))) (P 15)::
.go (.move (tm 15)) (P 8)::
[])))))))) (.seq (.run (.go (.move (tm 3)) (P 16)::
.go (.move (tm 16)) (P 2)::
[])) .ret))))
theorem de64 : @compF Try.prog (Gl.none Try.prog) Try.f64 1=.mk d64 (mkTT 17) [(P 0)] [.tmp (P 2)]:=by kernel_rfl
theorem dg64 : Try.prog.funcs[64]?=some Try.f64:=Try.func64
theorem do64 : okF Try.prog Try.f64=true:=by kernel_rfl
def d38 : FCode:=(.seq (.run (.go (.move (.con (.slice none 0 0))) (P 2)::
[])) (.seq (.run (.go (.move (tm 0)) (P 3)::
.go (.append 3 1 8 (.con (.slice none 0 0)) (tm 3)) (P 4)::
.go (.move (tm 4)) (P 2)::
[])) .ret))
theorem de38 : @compF Try.prog (Gl.none Try.prog) Try.f38 1=.mk d38 (mkTT 5) [(P 0)] [.tmp (P 2)]:=by kernel_rfl
theorem dg38 : Try.prog.funcs[38]?=some Try.f38:=Try.func38
theorem do38 : okF Try.prog Try.f38=true:=by kernel_rfl
def Li (l : List Int) : List Value:=l.map I
theorem Li_len (l : List Int) : (Li l).length=l.length:=by simp[Li]
theorem Li_at {l : List Int} {k : Nat} (h : k<l.length) : (Li l)[k]?=some (I l[k]):=by simp[Li,h]
theorem Li_ok (l : List Int) : (Li l).all ok1=true:=by simp[Li,ok1_int]
theorem tk1 {α : Type} {l : List α} {k : Nat} (h : k<l.length) : l.take (k+1)=l.take k++[l[k]]:=List.take_succ_eq_append_getElem h
theorem sl1 {x : Value} (h : ∃ p n c,x=.slice p n c) : ok1 x=true/\(∀ off c f,yfillV x off 1 c f=if off<c.length then f (c.set off x) else none)/\vEq 3 x x=true/\(∀ (H : Heap) i o c el,ystC 1 H i o x (⟨c⟩,el,true)=if o<c.length then some (H.set i (.cells ⟨c.set o x⟩ el true)) else none):=by
 obtain⟨p,n,c,rfl⟩:=h
 refine⟨ok1_slice,λoff c f=>yfV_slice,?_,λH i o c el=>ystC_slice⟩
 simp[vEq,vEq0]
structure LS (H : Heap) (x : Value) (l : List Int) : Prop where
 s : Sl H x (Li l)
theorem LS.grow {A B : Heap} (g : Grow A B) {x : Value} {l : List Int} (h : LS A x l) : LS B x l:=⟨h.s.grow g⟩
theorem LS.len {H : Heap} {x : Value} {l : List Int} (h : LS H x l) : ∀ X,ylen 0 X x=some (I l.length):=by
 intro X
 have:=h.s.len
 rw[Li_len] at this
 obtain⟨p,n,c,rfl⟩:=h.s.isS
 exact this
theorem LS.at {H : Heap} {x : Value} {l : List Int} (h : LS H x l) {k : Nat} (hk : k<l.length) : ∃ p,yindexAddr none 1 x (I k)=some p/\∀ H',Grow H H'->yload1 H' p=some (I l[k]):=h.s.get (Li_at hk) rfl
theorem f61_ok {H : Heap} {x : Value} {l : List Int} (a b : Int) (h : LS H x l) (hn : l.length<=1048576) : Gives Try.prog 61 [x,.func (.func 59) ⟨[.agg ⟨A2 a b⟩]⟩ ⟨[]⟩] H (.bool (decide (∀ v∈l,a<=v/\v<=b))):=by
 have hl:=h.len
 refine F.entryL rfl dg61 do61 de61 rfl (by kernel_rfl) ?_
 simp only[sets]
 refine V.re [(0,x),(1,.func (.func 59) ⟨[.agg ⟨A2 a b⟩]⟩ ⟨[]⟩)] (N:=18) zE zY ?_
 intro t hF hA
 simp only[Kn,and_true] at hA
 refine zS ?_
 refine V.l0 ?_
 refine zS ?_
 have zf:=@hl
 refine V.lz ?_
 refine zS ?_
 refine V.loop (λz t m X=>∃ (k : Nat),k<=l.length/\z=l.length-k/\m=[]/\Grow H X/\(∀ v∈l.take k,a<=v/\v<=b)/\Full 18 t/\Kn [(0,x),(1,.func (.func 59) ⟨[.agg ⟨A2 a b⟩]⟩ ⟨[]⟩),(7,x),(8,I l.length),(9,I k)] t) l.length ?_ ?_
 ·exact⟨0,by omega,by omega,rfl,.refl _,by simp,zF,zK⟩
 clear hF hA
 rintro z t m X ⟨k,hk,rfl,rfl,hg,hall,hF,hA⟩
 simp only[Kn,and_true] at hA
 refine zS ?_
 refine V.l0 ?_
 refine zS ?_
 refine V.condP zP (λhlt=>?_) (λhlt=>?_)
 ·have hlt' : k<l.length:=by omega
  obtain⟨p,hp,hx⟩:=h.at hlt'
  have hx1:=hx X hg
  refine zS ?_
  have zf:=aI @hp<|@hx1
  refine V.lz ?_
  refine zS ?_
  refine V.run ?_
  refine VI.s0 2 ?_
  simp only[ds]
  refine VI.callR zA (f59_ok a b l[k] _) zA (λv X2 ⟨hv,g2⟩=>?_)
  subst hv
  refine VI.l0 ?_
  refine zS ?_
  refine V.condP zP (λhb=>?_) (λhb=>?_)
  ·refine zS ?_
   refine V.l0 ?_
   refine zS ?_
   refine V.ret (V.rets rfl (Or.inr ⟨by simp,V.rets rfl (Lv.retG (by simp +contextual (disch:=first|omega|simp only[nx];omega) only[D1,cells_alloc_at,cells_alloc_ne,cells_set_at,cells_set_ne,yres,yres1,yresL,qA,qB,qC,D5,hF,hA,↓reduceIte,qD,qE];rfl) ?_ ?_)⟩))
   ·exact hg.trans g2
   ·congr 1
    exact (decide_eq_false (λhh=>hb (hh _ (List.getElem_mem hlt')))).symm
  ·refine zS ?_
   refine V.l0 ?_
   refine V.nil (Or.inl ⟨rfl,l.length-(k+1),by omega,?_⟩)
   refine⟨k+1,hlt',rfl,rfl,hg.trans g2,?_,zF,zK⟩
   intro v hv
   rw[tk1 hlt'] at hv
   rcases List.mem_append.1 hv with hv|hv
   ·exact hall v hv
   ·rw[List.mem_singleton.1 hv];omega
 ·obtain rfl : k=l.length:=by omega
  rw[List.take_length] at hall
  refine V.exit ?_
  refine zX ?_
  refine V.nil (Or.inr ⟨by simp,?_⟩)
  refine zX ?_
  refine zS ?_
  refine V.l0 ?_
  refine zS ?_
  refine V.ret (V.rets rfl (Lv.retG (by simp +contextual (disch:=first|omega|simp only[nx];omega) only[D1,cells_alloc_at,cells_alloc_ne,cells_set_at,cells_set_ne,yres,yres1,yresL,qA,qB,qC,D5,hF,hA,↓reduceIte,qD,qE];rfl) ?_ ?_))
  ·exact hg
  ·rw[decide_eq_true hall]
theorem f64_ok {H : Heap} {x : Value} {l : List Int} (h : LS H x l) (hn : l.length<=20) (hb : ∀ v∈l,0<=v/\v<=1000000) : Gives Try.prog 64 [x] H (I (sm l)):=by
 have hl:=h.len
 refine F.entryL rfl dg64 do64 de64 rfl (by kernel_rfl) ?_
 simp only[sets]
 refine V.re [(0,x)] (N:=17) zE zY ?_
 intro t hF hA
 simp only[Kn,and_true] at hA
 refine zS ?_
 refine V.l0 ?_
 refine zS ?_
 refine V.l0 ?_
 refine zS ?_
 have zf:=@hl
 refine V.lz ?_
 refine zS ?_
 refine V.loop (λz t m X=>∃ (k : Nat),k<=l.length/\z=l.length-k/\m=[]/\Grow H X/\Full 17 t/\Kn [(0,x),(3,I (sm (l.take k))),(6,x),(7,I l.length),(8,I k)] t) l.length ?_ ?_
 ·exact⟨0,by omega,by omega,rfl,.refl _,zF,zK⟩
 clear hF hA
 rintro z t m X ⟨k,hk,rfl,rfl,hg,hF,hA⟩
 simp only[Kn,and_true] at hA
 refine zS ?_
 refine V.l0 ?_
 refine zS ?_
 refine V.condP zP (λhlt=>?_) (λhlt=>?_)
 ·have hlt' : k<l.length:=by omega
  obtain⟨p,hp,hx⟩:=h.at hlt'
  have hx1:=hx X hg
  have hs:=sm_take hlt'
  have hbk:=hb _ (List.getElem_mem hlt')
  have hbt:=sm_bound (c:=1000000) (l:=l.take k) (λv hv=>hb v (List.mem_of_mem_take hv))
  have hlk : (l.take k).length=k:=by rw[List.length_take];omega
  rw[hlk] at hbt
  refine zS ?_
  have zf:=aI @hp<|@hx1
  refine V.lz ?_
  refine zS ?_
  refine V.l0 ?_
  refine zS ?_
  refine V.l0 ?_
  rw[<- hs]
  refine V.nil (Or.inl ⟨rfl,l.length-(k+1),by omega,?_⟩)
  exact⟨k+1,hlt',rfl,rfl,hg,zF,zK⟩
 ·obtain rfl : k=l.length:=by omega
  refine V.exit ?_
  refine zX ?_
  refine V.nil (Or.inr ⟨by simp,?_⟩)
  refine zX ?_
  rw[List.take_length] at hA
  refine zS ?_
  refine V.l0 ?_
  refine zS ?_
  refine V.ret (V.rets rfl (Lv.retG (by simp +contextual (disch:=first|omega|simp only[nx];omega) only[D1,cells_alloc_at,cells_alloc_ne,cells_set_at,cells_set_ne,yres,yres1,yresL,qA,qB,qC,D5,hF,hA,↓reduceIte,qD,qE];rfl) ?_ ?_))
  ·exact hg
  ·rfl
theorem f38_ow {H : Heap} {x : Value} {l : List Int} (h : Sl H x (Li l)) (hn : l.length<=1048576) : F Try.prog 38 ⟨[x]⟩ H (λv X=>Grow H X/\Ow H X 3 v (Li l)):=by
 obtain⟨w,H',k1,k2,k3,k4⟩:=Ow.append (H0:=H) (e:=3) (bytes:=8) (s:=.slice none 0 0) (l:=[]) (.refl H) .nil h (Li_ok l) (by simp[Li_len];omega) (by simp[Li_len];omega)
 rw[List.nil_append] at k2
 refine F.entryL rfl dg38 do38 de38 rfl (by kernel_rfl) ?_
 simp only[sets]
 refine V.re [(0,x)] (N:=5) zE zY ?_
 intro t hF hA
 simp only[Kn,and_true] at hA
 refine zS ?_
 refine V.l0 ?_
 refine zS ?_
 have zf:=@k1
 refine V.lz ?_
 refine zS ?_
 refine V.ret (V.rets rfl (Lv.retF (by simp +contextual (disch:=first|omega|simp only[nx];omega) only[D1,cells_alloc_at,cells_alloc_ne,cells_set_at,cells_set_ne,yres,yres1,yresL,qA,qB,qC,D5,hF,hA,↓reduceIte,qD,qE];rfl) ?_))
 exact⟨k3,k2⟩
end Go.Xe.TRX
end
