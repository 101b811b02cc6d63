/- The states between the pieces of function 20: its temporaries, and what its memory holds. Conditions: none. -/
import Derived.Test.YtbbdafmehaohkaaTF
import Derived.Test.YtbbdafmehaohkaaWa
namespace Go.Xe.TFS20
open Go Go.Xe Go.Proofs
set_option maxRecDepth 1000000
abbrev U : Value:=.tuple ⟨[]⟩
noncomputable def t1 : TT:=(.n (.bool false) (.n (.slice (some ⟨617,0,none⟩) 2 2) (.n (.pointer (some ⟨3994,0,none⟩)) (.n U (.n (.agg ⟨[(.slice (some ⟨651,0,none⟩) 2 2),(.slice (some ⟨653,0,none⟩) 1 1),(.slice (some ⟨658,0,none⟩) 4 4),(.slice (some ⟨660,0,none⟩) 3 3)]⟩) (.n U (.n U .e .e) (.n U .e .e)) (.n U (.n U .e .e) (.n U .e .e))) (.n U (.n U (.n U .e .e) (.n U .e .e)) (.n U (.n U .e .e) (.n U .e .e)))) (.n (.tuple ⟨[(.slice (some ⟨617,0,none⟩) 2 2),(.int .i64 (.ofNat 0))]⟩) (.n (.int .i64 (.ofNat 0)) (.n U (.n U .e .e) (.n U .e .e)) (.n U (.n U .e .e) (.n U .e .e))) (.n U (.n U (.n U .e .e) (.n U .e .e)) (.n U (.n U .e .e) .e)))) (.n U (.n (.tuple ⟨[(.slice (some ⟨617,0,none⟩) 2 2),(.int .i64 (.ofNat 0))]⟩) (.n (.tuple ⟨[(.agg ⟨[(.int .i64 (.ofNat 19)),(.int .i64 (.ofNat 68))]⟩),(.int .i64 (.ofNat 0))]⟩) (.n U (.n U .e .e) (.n U .e .e)) (.n U (.n U .e .e) (.n U .e .e))) (.n U (.n U (.n U .e .e) (.n U .e .e)) (.n U (.n U .e .e) .e))) (.n (.int .i64 (.ofNat 0)) (.n U (.n U (.n U .e .e) (.n U .e .e)) (.n U (.n U .e .e) (.n U .e .e))) (.n U (.n U (.n U .e .e) (.n U .e .e)) (.n U (.n U .e .e) .e))))) (.n (.int .i64 (.ofNat 0)) (.n (.int .i64 (.ofNat 0)) (.n U (.n (.agg ⟨[(.int .i64 (.ofNat 0)),(.int .i64 (.ofNat 2))]⟩) (.n U (.n U .e .e) (.n U .e .e)) (.n U (.n U .e .e) (.n U .e .e))) (.n U (.n U (.n U .e .e) (.n U .e .e)) (.n U (.n U .e .e) (.n U .e .e)))) (.n (.slice (some ⟨617,0,none⟩) 2 2) (.n U (.n U (.n U .e .e) (.n U .e .e)) (.n U (.n U .e .e) (.n U .e .e))) (.n U (.n U (.n U .e .e) (.n U .e .e)) (.n U (.n U .e .e) .e)))) (.n U (.n (.agg ⟨[(.slice (some ⟨9,0,none⟩) 2 2),(.slice (some ⟨11,0,none⟩) 1 1),(.slice (some ⟨16,0,none⟩) 4 4),(.slice (some ⟨18,0,none⟩) 3 3)]⟩) (.n (.agg ⟨[(.int .i64 (.ofNat 19)),(.int .i64 (.ofNat 68))]⟩) (.n U (.n U .e .e) (.n U .e .e)) (.n U (.n U .e .e) (.n U .e .e))) (.n U (.n U (.n U .e .e) (.n U .e .e)) (.n U (.n U .e .e) .e))) (.n (.tuple ⟨[(.agg ⟨[(.int .i64 (.ofNat 19)),(.int .i64 (.ofNat 68))]⟩),(.int .i64 (.ofNat 0))]⟩) (.n U (.n U (.n U .e .e) (.n U .e .e)) (.n U (.n U .e .e) (.n U .e .e))) (.n U (.n U (.n U .e .e) (.n U .e .e)) (.n U (.n U .e .e) .e))))))
noncomputable def i1 : List Nat:=[4,8,9,11,16,18,617,631,641,646,650,651,653,658,660,3994]
noncomputable def E1 : HT:=(.n (.cells [(.int .i64 (.ofNat 100)),(.int .i64 (.ofNat 100)),(.int .i64 (.ofNat 80)),(.int .i64 (.ofNat 90)),(.int .i64 (.ofNat 40)),(.int .i64 (.ofNat 50))] 69 true) .e (.n (.cells [(.int .i64 (.ofNat 60)),(.int .i64 (.ofNat 120)),(.int .i64 (.ofNat 90)),(.int .i64 (.ofNat 97)),(.int .i64 (.ofNat 100)),(.int .i64 (.ofNat 115))] 69 true) .e (.n (.cells [(.slice (some ⟨4,0,none⟩) 3 3),(.slice (some ⟨8,0,none⟩) 3 3)] 36 true) .e (.n (.cells [(.int .i64 (.ofNat 110)),(.int .i64 (.ofNat 120))] 69 true) .e (.n (.cells [(.int .i64 (.ofNat 150)),(.int .i64 (.ofNat 200)),(.int .i64 (.ofNat 20)),(.int .i64 (.ofNat 40)),(.int .i64 (.ofNat 50)),(.int .i64 (.ofNat 60)),(.int .i64 (.ofNat 300)),(.int .i64 (.ofNat 400))] 69 true) .e (.n (.cells [(.int .i64 (.ofNat 0)),(.int .i64 (.ofNat 0)),(.int .i64 (.negSucc 4)),(.int .i64 (.ofNat 5)),(.int .i64 (.ofNat 0)),(.int .i64 (.ofNat 0))] 69 true) .e (.n (.cells [(.slice (some ⟨631,0,none⟩) 3 3),(.slice (some ⟨641,0,none⟩) 3 3)] 36 true) .e (.n (.cells [(.int .i64 (.ofNat 100)),(.int .i64 (.ofNat 100)),(.int .i64 (.ofNat 80)),(.int .i64 (.ofNat 90)),(.int .i64 (.ofNat 40)),(.int .i64 (.ofNat 50))] 69 true) .e (.n (.cells [(.int .i64 (.ofNat 88)),(.int .i64 (.ofNat 102)),(.int .i64 (.ofNat 91)),(.int .i64 (.ofNat 97)),(.int .i64 (.ofNat 100)),(.int .i64 (.ofNat 115))] 69 true) .e (.n (.cells [(.int .i64 (.ofNat 100)),(.int .i64 (.ofNat 100)),(.int .i64 (.ofNat 80)),(.int .i64 (.ofNat 90)),(.int .i64 (.ofNat 40)),(.int .i64 (.ofNat 50))] 69 true) .e (.n (.cells [(.int .i64 (.ofNat 60)),(.int .i64 (.ofNat 120)),(.int .i64 (.ofNat 90)),(.int .i64 (.ofNat 97)),(.int .i64 (.ofNat 100)),(.int .i64 (.ofNat 115))] 69 true) .e (.n (.cells [(.slice (some ⟨646,0,none⟩) 3 3),(.slice (some ⟨650,0,none⟩) 3 3)] 36 true) .e (.n (.cells [(.int .i64 (.ofNat 110)),(.int .i64 (.ofNat 120))] 69 true) .e (.n (.cells [(.int .i64 (.ofNat 150)),(.int .i64 (.ofNat 200)),(.int .i64 (.ofNat 20)),(.int .i64 (.ofNat 40)),(.int .i64 (.ofNat 50)),(.int .i64 (.ofNat 60)),(.int .i64 (.ofNat 300)),(.int .i64 (.ofNat 400))] 69 true) .e (.n (.cells [(.int .i64 (.ofNat 0)),(.int .i64 (.ofNat 0)),(.int .i64 (.negSucc 4)),(.int .i64 (.ofNat 5)),(.int .i64 (.ofNat 0)),(.int .i64 (.ofNat 0))] 69 true) .e (.n (.cells [(.int .i64 (.ofNat 19)),(.int .i64 (.ofNat 68))] 69 true) .e .e))))))))))))))))
end Go.Xe.TFS20
/- Piece 0 of function 20, by the kernel. Conditions: none. -/
namespace Go.Xe.TFP20x0
open Go Go.Xe Go.Proofs
set_option maxRecDepth 1000000
theorem run : startL [] .e (pd 17) (fun T=>segF Try.prog TF.F0 4997 (fstake 3 (fsdrop 0 TF.c20)) (mkTT 121) [] (.mk 0 T) (outR TFS20.i1))=.nx TFS20.t1 [] (.mk 3995 TFS20.E1):=by kernel_rfl
theorem len : (fstake 3 (fsdrop 0 TF.c20)).length=3:=by kernel_rfl
end Go.Xe.TFP20x0
/- Piece 1 of function 20, the last, by the kernel. Conditions: none. -/
namespace Go.Xe.TFP20x1
open Go Go.Xe Go.Proofs
set_option maxRecDepth 1000000
theorem run : startL TFS20.i1 TFS20.E1 (pd 17) (fun T=>afterF (execF Try.prog TF.F0 4997 (fsdrop 3 TF.c20) none [] TFS20.t1 (.mk 3995 T)) [.tmp .o] endT)=.rt .e [] (.mk 0 .e):=by kernel_rfl
end Go.Xe.TFP20x1
/- Function 20, called in any world, returns true and leaves the world as it was: its pieces put together. Conditions: none. -/
namespace Go.Xe.TFB20
open Go Go.Xe Go.Proofs
set_option maxRecDepth 1000000
theorem mixed : Try.prog.follows .mixedOrders=true:=by kernel_rfl
noncomputable def body : Code:=match Try.f20.body with|some c=>c|none=>.skip
theorem hb : Try.f20.body=some body:=by kernel_rfl
theorem hn : Try.f20.ntmps=121:=by kernel_rfl
theorem call : (∀ (w : World) (r : Option Nat) (n : Nat), CallsIn (FW r) n Try.prog 20 #[] w (Quiet (.bool true) w)) ∧ ∃ fn, Try.prog.funcs[(20 : Nat)]? = some fn ∧ fn.body.isSome = true ∧ (fn.name == "runtime.NumGoroutine") = false := by
 letI:=(Gl.none Try.prog)
 letI:=(Orc.none Try.prog)
 have hF:=TF.ok0 (Orc.none Try.prog) rfl
 obtain⟨hc,hres⟩:=of_entry hb TF.e20
 obtain⟨tm0,H0,x0,s0⟩:=piece hF hc 0 3 4997 TFP20x0.len TFP20x0.run stOk_start
 obtain⟨e,a,Hz,y1,y2,y3,y4⟩:=piece_last hF hc 3 4997 TF.o20 hres TFP20x1.run s0
 have hx : exec Try.prog 5000 none body ⟨Array.replicate Try.f20.ntmps undef,[],Heap.empty⟩=some (e,a):=by rw[hn];exact x0.trans (y1)
 obtain⟨z1,z2⟩:=xcall_of rfl TF.g20 hb TF.o20 hx y2 y3 y4
 obtain⟨k1,k2⟩:=closed_x (Orc.none Try.prog) mixed (start_x (Orc.none Try.prog) rfl) z1 z2
 exact⟨fun w r n=>k1 w r n (Nat.zero_le _) trivial,k2⟩
end Go.Xe.TFB20
/- What is known of function 20 may be taken at its word. Conditions: none. -/
namespace Go.Xe.TFO
open Go Go.Xe Go.Proofs
set_option maxRecDepth 1000000
@[reducible] def orc : Orc Try.prog:=⟨0,fun _=>True,fun _ _ _ _=>trivial,TF.orcs1,fun g b h=>by
 unfold TF.orcs1 at h
 split at h
 ·rename_i hg
  cases h
  subst hg
  exact⟨fun w r n _ _=>TFB20.call.1 w r n,TFB20.call.2⟩
 ·cases h⟩
end Go.Xe.TFO
/- What the functions of the layer flow come to: tables. Conditions: none. -/
-- MOD TF
namespace Go.Xe.TFX
open Go Go.Xe Go.Proofs
open Nat renaming reduceLeDiff → qA, reduceSub → qB, reduceAdd → qC, reduceEqDiff → qD, reduceLT → qE
open Int renaming reduceNegSucc → qF, reduceEq → qG
open Go.Xe.V renaming seq → sA, block → sB, scope → sC, skip → sD, close → sE
open Go.Xe renaming pth → P
open Go.Xe.Flw
set_option maxRecDepth 100000
set_option maxHeartbeats 1600000
set_option linter.unusedSimpArgs false
noncomputable def d41 : FCode:=(.seq (.run (.go (.move (.con (.bool false))) (P 6)::
[])) (.seq (.run (.go (.move (tm 0)) (P 7)::
.go (.move (tm 1)) (P 8)::
.go (.bin .geq 3 (tm 7) (tm 8)) (P 9)::
.go (.move (tm 9)) (P 10)::
.gd (P 10) true (.move (tm 0)) (P 11)::
.gd (P 10) true (.move (tm 2)) (P 12)::
.gd (P 10) true (.bin .leq 3 (tm 11) (tm 12)) (P 13)::
.go (.pick (tm 10) (tm 13) (.con (.bool false))) (P 14)::
.go (.move (tm 14)) (P 6)::
[])) .ret))
theorem de41 : @compF Try.prog (Gl.none Try.prog) Try.f41 3=.mk d41 (mkTT 15) [(P 0),(P 1),(P 2)] [.tmp (P 6)]:=by kernel_rfl
theorem dg41 : Try.prog.funcs[41]?=some Try.f41:=Try.func41
theorem do41 : okF Try.prog Try.f41=true:=by kernel_rfl
noncomputable def d45 : FCode:=(.seq (.run (.go (.box 62 (tm 0)) (P 3)::
.go (.move (.con (.bool false))) (P 6)::
[])) (.seq (.run (.go (.fieldAddr 0 (tm 3)) (P 7)::
.go (.load1 (tm 7)) (P 8)::
.go (.move (tm 1)) (P 9)::
.go (.fieldAddr 1 (tm 3)) (P 10)::
.go (.load1 (tm 10)) (P 11)::
.go (.call (.con (.func (.func 41) ⟨[]⟩ ⟨[]⟩)) [(tm 8),(tm 9),(tm 11)]) (P 12)::
.go (.move (tm 12)) (P 13)::
.gd (P 13) true (.fieldAddr 1 (tm 3)) (P 14)::
.gd (P 13) true (.load1 (tm 14)) (P 15)::
.gd (P 13) true (.move (tm 2)) (P 16)::
.gd (P 13) true (.bin .leq 3 (tm 15) (tm 16)) (P 17)::
.go (.pick (tm 13) (tm 17) (.con (.bool false))) (P 18)::
.go (.move (tm 18)) (P 6)::
[])) .ret))
theorem de45 : @compF Try.prog (Gl.none Try.prog) Try.f45 3=.mk d45 (mkTT 19) [(P 0),(P 1),(P 2)] [.tmp (P 6)]:=by kernel_rfl
theorem dg45 : Try.prog.funcs[45]?=some Try.f45:=Try.func45
theorem do45 : okF Try.prog Try.f45=true:=by kernel_rfl
noncomputable def d34 : FCode:=(.seq (.run (.go (.box 25 (tm 0)) (P 1)::
.go (.move (.con (.int .i64 (.ofNat 0)))) (P 2)::
[])) (.seq (.seq (.run (.go (.fieldAddr 0 (tm 1)) (P 3)::
.go (.load1 (tm 3)) (P 4)::
.go (.len 0 (tm 4)) (P 5)::
.go (.bin .eql 3 (tm 5) (.con (.int .i64 (.ofNat 0)))) (P 6)::
[])) (.cond (tm 6) (.seq (.run (.go (.move (.con (.int .i64 (.ofNat 0)))) (P 2)::
[])) .ret) .skip)) (.seq (.run (.go (.fieldAddr 0 (tm 1)) (P 7)::
.go (.load1 (tm 7)) (P 8)::
.go (.indexAddr none 1 (tm 8) (.con (.int .i64 (.ofNat 0)))) (P 9)::
.go (.load1 (tm 9)) (P 10)::
.go (.len 0 (tm 10)) (P 11)::
.go (.move (tm 11)) (P 2)::
[])) .ret)))
theorem de34 : @compF Try.prog (Gl.none Try.prog) Try.f34 1=.mk d34 (mkTT 12) [(P 0)] [.tmp (P 2)]:=by kernel_rfl
theorem dg34 : Try.prog.funcs[34]?=some Try.f34:=Try.func34
theorem do34 : okF Try.prog Try.f34=true:=by kernel_rfl
noncomputable def d101 : FCode:=(.seq (.run (.go (.box 38 (tm 0)) (P 1)::
.go (.move (.con (.int .i64 (.ofNat 0)))) (P 2)::
[])) (.seq (.seq (.run (.go (.fieldAddr 0 (tm 1)) (P 3)::
.go (.load1 (tm 3)) (P 4)::
.go (.len 0 (tm 4)) (P 5)::
.go (.bin .eql 3 (tm 5) (.con (.int .i64 (.ofNat 0)))) (P 6)::
[])) (.cond (tm 6) (.seq (.run (.go (.move (.con (.int .i64 (.ofNat 0)))) (P 2)::
[])) .ret) .skip)) (.seq (.run (.go (.fieldAddr 0 (tm 1)) (P 7)::
.go (.load1 (tm 7)) (P 8)::
.go (.indexAddr none 1 (tm 8) (.con (.int .i64 (.ofNat 0)))) (P 9)::
.go (.load1 (tm 9)) (P 10)::
.go (.len 0 (tm 10)) (P 11)::
.go (.move (tm 11)) (P 2)::
[])) .ret)))
theorem de101 : @compF Try.prog (Gl.none Try.prog) Try.f101 1=.mk d101 (mkTT 12) [(P 0)] [.tmp (P 2)]:=by kernel_rfl
theorem dg101 : Try.prog.funcs[101]?=some Try.f101:=Try.func101
theorem do101 : okF Try.prog Try.f101=true:=by kernel_rfl
noncomputable def d39 : FCode:=(.seq (.run (.go (.box 62 (tm 0)) (P 1)::
.go (.alloc 69 [(.int .i64 (.ofNat 0)),(.int .i64 (.ofNat 0))]) (P 2)::
[])) (.seq (.run (.go (.fieldAddr 0 (tm 1)) (P 3)::
.go (.load1 (tm 3)) (P 4)::
.go (.fieldAddr 1 (tm 1)) (P 5)::
.go (.load1 (tm 5)) (P 6)::
.go (.build [(.int .i64 (.ofNat 0)),(.int .i64 (.ofNat 0))] [(0,1,(tm 4)),(1,1,(tm 6))]) (P 7)::
.un (.store 2 (tm 2) (tm 7))::
[])) .ret))
theorem de39 : @compF Try.prog (Gl.none Try.prog) Try.f39 1=.mk d39 (mkTT 8) [(P 0)] [.many (P 2) 2]:=by kernel_rfl
theorem dg39 : Try.prog.funcs[39]?=some Try.f39:=Try.func39
theorem do39 : okF Try.prog Try.f39=true:=by kernel_rfl
noncomputable def d64 : FCode:=(.seq (.run (.go (.move (.con (.slice none 0 0))) (P 2)::
[])) (.seq (.run (.go (.move (.con (.slice none 0 0))) (P 3)::
[])) (.seq (.seq (.run (.go (.move (.con (.int .i64 (.ofNat 0)))) (P 4)::
[])) (.block 0 (.loop (.seq (.seq (.run (.go (.move (tm 4)) (P 5)::
.go (.move (tm 0)) (P 6)::
.go (.len 0 (tm 6)) (P 7)::
.go (.bin .lss 3 (tm 5) (tm 7)) (P 8)::
[])) (.cond (tm 8) .skip (.exit 0))) (.seq (.block 1 (.run (.go (.move (tm 3)) (P 11)::
.go (.move (tm 0)) (P 12)::
.go (.move (tm 4)) (P 13)::
.go (.indexAddr none 2 (tm 12) (tm 13)) (P 14)::
.go (.loadN 2 (tm 14)) (P 15)::
.go (.call (.con (.func (.func 39) ⟨[]⟩ ⟨[]⟩)) [tm 15]) (P 16)::
.go (.buildSlice 69 1 [(.int .i64 (.ofNat 0)),(.int .i64 (.ofNat 0))] [(0,2,(tm 16))]) (P 17)::
.go (.append 69 2 16 (tm 11) (tm 17)) (P 18)::
.go (.move (tm 18)) (P 3)::
[]))) (.run (.go (.move (tm 4)) (P 9)::
.go (.bin .add 3 (tm 9) (.con (.int .i64 (.ofNat 1)))) (P 10)::
.go (.move (tm 10)) (P 4)::
[]))))))) (.seq (.run (.go (.move (tm 3)) (P 19)::
.go (.move (tm 19)) (P 2)::
[])) .ret))))
theorem de64 : @compF Try.prog (Gl.none Try.prog) Try.f64 1=.mk d64 (mkTT 20) [(P 0)] [.tmp (P 2)]:=by kernel_rfl
theorem dg64 : Try.prog.funcs[64]?=some Try.f64:=Try.func64
theorem do64 : okF Try.prog Try.f64=true:=by kernel_rfl
noncomputable def d22 : FCode:=(.seq (.run (.go (.box 25 (tm 0)) (P 1)::
.go (.alloc 38 [(.slice none 0 0),(.slice none 0 0),(.slice none 0 0),(.slice none 0 0)]) (P 2)::
[])) (.seq (.draw 12 (.go (.fieldAddr 1 (tm 1)) (P 5)::
.go (.load1 (tm 5)) (P 6)::
.go (.call (.con (.func (.func 64) ⟨[]⟩ ⟨[]⟩)) [tm 6]) (P 7)::
.go (.fieldAddr 2 (tm 1)) (P 8)::
.go (.load1 (tm 8)) (P 9)::
.go (.call (.con (.func (.func 64) ⟨[]⟩ ⟨[]⟩)) [tm 9]) (P 10)::
.go (.fieldAddr 3 (tm 1)) (P 11)::
.go (.load1 (tm 11)) (P 12)::
.go (.call (.con (.func (.func 64) ⟨[]⟩ ⟨[]⟩)) [tm 12]) (P 13)::
.go (.build [(.slice none 0 0),(.slice none 0 0),(.slice none 0 0),(.slice none 0 0)] [(1,1,(tm 7)),(2,1,(tm 10)),(3,1,(tm 13))]) (P 14)::
.go (.alloc 38 [(.slice none 0 0),(.slice none 0 0),(.slice none 0 0),(.slice none 0 0)]) (P 3)::
.un (.store 4 (tm 3) (tm 14))::
[]) [.ok,.ok,.ok,.ok,.rd none (.load1 (tm 8)) (some (P 9)) [0],.ok,.ok,.rd none (.load1 (tm 11)) (some (P 12)) [0,3],.ok,.ok,.nw none (some (P 3)) 10 true,.ok]) (.seq (.seq (.run (.go (.move (.con (.int .i64 (.ofNat 0)))) (P 4)::
[])) (.block 0 (.loop (.seq (.seq (.run (.go (.move (tm 4)) (P 15)::
.go (.fieldAddr 0 (tm 1)) (P 16)::
.go (.load1 (tm 16)) (P 17)::
.go (.len 0 (tm 17)) (P 18)::
.go (.bin .lss 3 (tm 15) (tm 18)) (P 19)::
[])) (.cond (tm 19) .skip (.exit 0))) (.seq (.block 1 (.draw 12 (.go (.fieldAddr 0 (tm 3)) (P 22)::
.go (.load1 (tm 22)) (P 23)::
.go (.fieldAddr 0 (tm 1)) (P 24)::
.go (.load1 (tm 24)) (P 25)::
.go (.move (tm 4)) (P 26)::
.go (.indexAddr none 1 (tm 25) (tm 26)) (P 27)::
.go (.load1 (tm 27)) (P 28)::
.go (.call (.con (.func (.func 64) ⟨[]⟩ ⟨[]⟩)) [tm 28]) (P 29)::
.go (.buildSlice 36 1 [(.slice none 0 0)] [(0,1,(tm 29))]) (P 30)::
.go (.append 36 1 24 (tm 23) (tm 30)) (P 31)::
.go (.fieldAddr 0 (tm 3)) (P 32)::
.un (.store 1 (tm 32) (tm 31))::
[]) [.ok,.rd none (.load1 (tm 22)) (some (P 23)) [8,9],.ok,.ok,.ok,.ok,.ok,.ok,.ok,.ok,.ok,.ok])) (.run (.go (.move (tm 4)) (P 20)::
.go (.bin .add 3 (tm 20) (.con (.int .i64 (.ofNat 1)))) (P 21)::
.go (.move (tm 21)) (P 4)::
[]))))))) (.seq (.run (.go (.loadN 4 (tm 3)) (P 33)::
.un (.store 4 (tm 2) (tm 33))::
[])) .ret))))
theorem de22 : @compF Try.prog (Gl.none Try.prog) Try.f22 1=.mk d22 (mkTT 34) [(P 0)] [.many (P 2) 4]:=by kernel_rfl
theorem dg22 : Try.prog.funcs[22]?=some Try.f22:=Try.func22
theorem do22 : okF Try.prog Try.f22=true:=by kernel_rfl
@[reducible] instance gl : Gl Try.prog:=Gl.none Try.prog
@[reducible] instance orc : Orc Try.prog:=TFO.orc
abbrev I (n : Int) : Value:=.int .i64 n
abbrev U : Value:=undef
abbrev A2 (a b : Int) : List Value:=[I a,I b]
abbrev r2 (r : R2) : List Value:=A2 r.1 r.2
theorem f20_ok (H : Heap) : Gives Try.prog 20 [] H (.bool true):=.orc rfl
def RS (H : Heap) (x : Value) (l : List R2) : Prop:=Sw 2 H x (l.map r2)
theorem rp : RP RS:=RP.ofSw 2 _
theorem RS.len {H : Heap} {x : Value} {l : List R2} (h : RS H x l) (X : Heap) : ylen 0 X x=some (I l.length):=by
 have:=Sw.len h
 rw[List.length_map] at this
 obtain⟨p,n,c,rfl⟩:=rp.sl h
 exact this
theorem RS.at {H : Heap} {x : Value} {l : List R2} (h : RS H x l) {k : Nat} (hk : k<l.length) :
  ∃ i o,yindexAddr none 2 x (I k)=some (.pointer (some ⟨i,o,none⟩))∧∀ H',Grow H H'→yloadN 2 H' (.pointer (some ⟨i,o,none⟩))=some (.agg ⟨A2 l[k].1 l[k].2⟩)∧yload1 H' (.pointer (some ⟨i,o,none⟩))=some (I l[k].1)∧yload1 H' (.pointer (some ⟨i,o+1,none⟩))=some (I l[k].2):=by
 obtain⟨i,o,h1,h2⟩:=Sw.at2 h (by decide) (k:=k) (x:=r2 l[k]) (by simp[hk])
 refine⟨i,o,h1 _,fun H' g=>⟨(h2 H' g).1,?_,?_⟩⟩
 ·have:=(h2 H' g).2 0 (I l[k].1) rfl
  rwa [Nat.add_zero] at this
 ·exact (h2 H' g).2 1 (I l[k].2) rfl
theorem sl1 {x : Value} (h : ∃ p n c,x=.slice p n c) : ok1 x=true∧(∀ off c f,yfillV x off 1 c f=if off<c.length then f (c.set off x) else none)∧vEq 3 x x=true∧(∀ (H : Heap) i o c el,ystC 1 H i o x (⟨c⟩,el,true)=if o<c.length then some (H.set i (.cells ⟨c.set o x⟩ el true)) else none):=by
 obtain⟨p,n,c,rfl⟩:=h
 refine⟨ok1_slice,fun off c f=>yfV_slice,?_,fun H i o c el=>ystC_slice⟩
 simp[vEq,vEq0]
structure Tb where
 C : List (List R2)
 B : List R2
 Rt : List R2
 N : List R2
structure TV (H : Heap) (c b r n : Value) (T : Tb) : Prop where
 c : Nest RS H c T.C
 b : RS H b T.B
 r : RS H r T.Rt
 n : RS H n T.N
theorem TV.grow {A B : Heap} (g : Grow A B) {c b r n : Value} {T : Tb} (h : TV A c b r n T) : TV B c b r n T:=⟨h.c.grow rp g,rp.grow g h.b,rp.grow g h.r,rp.grow g h.n⟩
def grp (T : Tb) : Nat:=(T.C.headD []).length
theorem grp_0 {T : Tb} (hk : 0<T.C.length) : (T.C[0]'hk).length=grp T:=by
 have : T.C.headD []=T.C[0]:=by rw[List.headD_eq_head?_getD,List.head?_eq_getElem?];simp[hk]
 rw[grp,this]
def wi (a b : Int) (r : R2) : Prop:=a≤r.1∧r.1≤r.2∧r.2≤b
instance (a b : Int) (r : R2) : Decidable (wi a b r):=by unfold wi;infer_instance
theorem f41_ok (n a b : Int) (H : Heap) : Gives Try.prog 41 [I n,I a,I b] H (.bool (decide (a≤n∧n≤b))):=by
 refine F.entryL rfl dg41 do41 de41 rfl (by kernel_rfl) ?_
 simp only[sets]
 refine V.re [(0,I n),(1,I a),(2,I b)] (N:=15) zE zY ?_
 intro t hF hA
 simp only[Kn,and_true] at hA
 refine zS ?_
 refine V.l0 ?_
 refine zS ?_
 refine V.l0 ?_
 refine zS ?_
 refine V.ret (V.rets rfl (Lv.retG (by simp +contextual (disch:=first|omega|simp only[nx];omega) only[D1,cells_alloc_at,cells_alloc_ne,cells_set_at,cells_set_ne,yres,yres1,yresL,qA,qB,qC,D5,hF,hA,↓reduceIte,qD,qE];rfl) ?_ ?_))
 ·exact zW
 ·rfl
theorem f45_ok (r : R2) (a b : Int) (H : Heap) : Gives Try.prog 45 [.agg ⟨r2 r⟩,I a,I b] H (.bool (decide (wi a b r))):=by
 obtain⟨x,y⟩:=r
 refine F.entryL rfl dg45 do45 de45 rfl (by kernel_rfl) ?_
 simp only[sets]
 refine V.re [(0,.agg ⟨A2 x y⟩),(1,I a),(2,I b)] (N:=19) zE zY ?_
 intro t hF hA
 simp only[Kn,and_true] at hA
 refine zS ?_
 refine V.l0 ?_
 refine V.heap (fun X=>Grow H X∧Bx X H.next (A2 x y) 62) ⟨?_,?_⟩ ?_
 ·exact zW
 ·exact zB
 rintro H1 ⟨g1,b1⟩
 refine zS ?_
 refine V.run ?_
 have zf:=b1.2
 refine VI.sz 5 ?_
 simp only[ds]
 refine VI.callA rfl (f41_ok x a y _) zA (fun H2 g2=>?_)
 have b2:=b1.grow g2
 have zf:=b2.2
 refine VI.lz ?_
 refine zS ?_
 refine V.ret (V.rets rfl (Lv.retG (by simp +contextual (disch:=first|omega|simp only[nx];omega) only[D1,cells_alloc_at,cells_alloc_ne,cells_set_at,cells_set_ne,yres,yres1,yresL,qA,qB,qC,D5,hF,hA,↓reduceIte,qD,qE];rfl) ?_ ?_))
 ·exact g1.trans g2
 ·simp only[wi,and_assoc]
theorem f34_ok {H : Heap} {c b r n : Value} {T : Tb} (h : TV H c b r n T) : Gives Try.prog 34 [.agg ⟨[c,b,r,n]⟩] H (I (grp T)):=by
 have hl : ∀ X,ylen 0 X c=some (I T.C.length):=h.c.len
 refine F.entryL rfl dg34 do34 de34 rfl (by kernel_rfl) ?_
 simp only[sets]
 refine V.re [(0,.agg ⟨[c,b,r,n]⟩)] (N:=12) zE zY ?_
 intro t hF hA
 simp only[Kn,and_true] at hA
 refine zS ?_
 refine V.l0 ?_
 refine V.heap (fun X=>Grow H X∧Bx X H.next [c,b,r,n] 25) ⟨?_,?_⟩ ?_
 ·exact zW
 ·exact zB
 rintro H1 ⟨g1,b1⟩
 refine zS ?_
 have zf:=And.intro b1.2<|@hl
 refine V.lz ?_
 refine zS ?_
 refine V.condP zP (fun h1=>?_) (fun h1=>?_)
 ·refine zS ?_
  refine V.l0 ?_
  refine zS ?_
  refine V.ret (V.rets rfl (Lv.retG (by simp +contextual (disch:=first|omega|simp only[nx];omega) only[D1,cells_alloc_at,cells_alloc_ne,cells_set_at,cells_set_ne,yres,yres1,yresL,qA,qB,qC,D5,hF,hA,↓reduceIte,qD,qE];rfl) ?_ ?_))
  ·exact g1
  ·have : T.C=[]:=List.length_eq_zero_iff.1 (by omega)
   simp[grp,this]
 ·have hk : 0<T.C.length:=by omega
  obtain⟨p,x,hp,hx⟩:=h.c.at rp hk
  obtain⟨hx1,hx2⟩:=hx _ g1
  have hp0 : yindexAddr none 1 c (I 0)=some p:=hp .i64
  have hxl:=hx2.len
  refine zS ?_
  have zf:=And.intro b1.2<|And.intro @hp0<|And.intro @hx1<|@hxl
  refine V.lz ?_
  refine zS ?_
  refine V.ret (V.rets rfl (Lv.retG (by simp +contextual (disch:=first|omega|simp only[nx];omega) only[D1,cells_alloc_at,cells_alloc_ne,cells_set_at,cells_set_ne,yres,yres1,yresL,qA,qB,qC,D5,hF,hA,↓reduceIte,qD,qE];rfl) ?_ ?_))
  ·exact g1
  ·rw[grp_0 hk]
theorem f101_ok {H : Heap} {c b r n : Value} {T : Tb} (h : TV H c b r n T) : Gives Try.prog 101 [.agg ⟨[c,b,r,n]⟩] H (I (grp T)):=by
 have hl : ∀ X,ylen 0 X c=some (I T.C.length):=h.c.len
 refine F.entryL rfl dg101 do101 de101 rfl (by kernel_rfl) ?_
 simp only[sets]
 refine V.re [(0,.agg ⟨[c,b,r,n]⟩)] (N:=12) zE zY ?_
 intro t hF hA
 simp only[Kn,and_true] at hA
 refine zS ?_
 refine V.l0 ?_
 refine V.heap (fun X=>Grow H X∧Bx X H.next [c,b,r,n] 38) ⟨?_,?_⟩ ?_
 ·exact zW
 ·exact zB
 rintro H1 ⟨g1,b1⟩
 refine zS ?_
 have zf:=And.intro b1.2<|@hl
 refine V.lz ?_
 refine zS ?_
 refine V.condP zP (fun h1=>?_) (fun h1=>?_)
 ·refine zS ?_
  refine V.l0 ?_
  refine zS ?_
  refine V.ret (V.rets rfl (Lv.retG (by simp +contextual (disch:=first|omega|simp only[nx];omega) only[D1,cells_alloc_at,cells_alloc_ne,cells_set_at,cells_set_ne,yres,yres1,yresL,qA,qB,qC,D5,hF,hA,↓reduceIte,qD,qE];rfl) ?_ ?_))
  ·exact g1
  ·have : T.C=[]:=List.length_eq_zero_iff.1 (by omega)
   simp[grp,this]
 ·have hk : 0<T.C.length:=by omega
  obtain⟨p,x,hp,hx⟩:=h.c.at rp hk
  obtain⟨hx1,hx2⟩:=hx _ g1
  have hp0 : yindexAddr none 1 c (I 0)=some p:=hp .i64
  have hxl:=hx2.len
  refine zS ?_
  have zf:=And.intro b1.2<|And.intro @hp0<|And.intro @hx1<|@hxl
  refine V.lz ?_
  refine zS ?_
  refine V.ret (V.rets rfl (Lv.retG (by simp +contextual (disch:=first|omega|simp only[nx];omega) only[D1,cells_alloc_at,cells_alloc_ne,cells_set_at,cells_set_ne,yres,yres1,yresL,qA,qB,qC,D5,hF,hA,↓reduceIte,qD,qE];rfl) ?_ ?_))
  ·exact g1
  ·rw[grp_0 hk]
theorem f39_ok (r : R2) (H : Heap) : Gives Try.prog 39 [.agg ⟨r2 r⟩] H (.agg ⟨r2 r⟩):=by
 obtain⟨x,y⟩:=r
 refine F.entryL rfl dg39 do39 de39 rfl (by kernel_rfl) ?_
 simp only[sets]
 refine V.re [(0,.agg ⟨A2 x y⟩)] (N:=8) zE zY ?_
 intro t hF hA
 simp only[Kn,and_true] at hA
 refine zS ?_
 refine V.l0 ?_
 refine zS ?_
 refine V.l0 ?_
 refine zS ?_
 refine V.ret (V.rets rfl (Lv.retG (by simp +contextual (disch:=first|omega|simp only[nx];omega) only[D1,cells_alloc_at,cells_alloc_ne,cells_set_at,cells_set_ne,yres,yres1,yresL,qA,qB,qC,D5,hF,hA,↓reduceIte,qD,qE];rfl) ?_ ?_))
 ·exact zW
 ·rfl
theorem RS_len (l : List R2) : ∀ x∈l.map r2,x.length=2:=by
 intro x hx
 obtain⟨r,_,rfl⟩:=List.mem_map.1 hx
 rfl
theorem f64_ok {H : Heap} {v : Value} {L : List R2} (h : RS H v L) (hn : L.length≤1048576) : F Try.prog 64 ⟨[v]⟩ H (fun w X=>Grow H X∧OwW 2 H X 69 w (L.map r2)):=by
 have hl:=h.len
 refine F.entryL rfl dg64 do64 de64 rfl (by kernel_rfl) ?_
 simp only[sets]
 refine V.re [(0,v)] (N:=20) zE zY ?_
 intro t hF hA
 simp only[Kn,and_true] at hA
 refine zS ?_
 refine V.l0 ?_
 refine zS ?_
 refine V.l0 ?_
 refine zS ?_
 refine V.l0 ?_
 refine zS ?_
 refine V.loop (fun z t m X=>∃ (k : Nat) (s : Value),k≤L.length∧z=L.length-k∧m=[]∧Grow H X∧OwW 2 H X 69 s ((L.take k).map r2)∧Full 20 t∧Kn [(0,v),(3,s),(4,I k)] t) L.length ?_ ?_
 ·exact⟨0,_,by omega,by omega,rfl,.refl _,by rw[List.take_zero];exact .nil,zF,zK⟩
 clear hF hA
 rintro z t m X ⟨k,s,hk,rfl,rfl,hg,os,hF,hA⟩
 simp only[Kn,and_true] at hA
 refine zS ?_
 have zf:=@hl
 refine V.lz ?_
 refine zS ?_
 refine V.condP zP (fun hlt=>?_) (fun hlt=>?_)
 ·have hlt' : k<L.length:=by omega
  obtain⟨i,o,hp,hx⟩:=h.at hlt'
  obtain⟨hx1,_,_⟩:=hx _ hg
  refine zS ?_
  refine V.run ?_
  have zf:=And.intro @hp<|@hx1
  refine VI.sz 5 ?_
  simp only[ds]
  refine VI.callA rfl (f39_ok L[k] X) zA (fun X1 g1=>?_)
  have os1:=os.keep g1
  obtain⟨w,X2,k1,k2,k3,k4,k5,k6⟩:=OwW.push (x:=r2 L[k]) (bytes:=16) (by decide) (hg.trans g1) os1 (RS_len _) rfl rfl (by rw[List.length_map,List.length_take];omega) (by rw[List.length_map,List.length_take];omega)
  have zf:=@k1
  refine VI.lz ?_
  refine zS ?_
  refine V.l0 ?_
  refine V.nil (Or.inl ⟨rfl,L.length-(k+1),by omega,?_⟩)
  refine⟨k+1,w,by omega,rfl,rfl,k3,?_,zF,zK⟩
  rw[List.take_succ_eq_append_getElem hlt',List.map_append]
  exact k2
 ·refine V.exit ?_
  refine zX ?_
  refine V.nil (Or.inr ⟨by simp,?_⟩)
  refine zX ?_
  refine zS ?_
  refine V.l0 ?_
  refine zS ?_
  refine V.ret (V.rets rfl (Lv.retF (by simp +contextual (disch:=first|omega|simp only[nx];omega) only[D1,cells_alloc_at,cells_alloc_ne,cells_set_at,cells_set_ne,yres,yres1,yresL,qA,qB,qC,D5,hF,hA,↓reduceIte,qD,qE];rfl) ?_))
  have e : L.take k=L:=List.take_of_length_le (by omega)
  rw[e] at os
  exact⟨hg,os⟩
def sh (T : Tb) : Prop:=T.C.length≤1048576∧(∀ row∈T.C,row.length≤1048576)∧T.B.length≤1048576∧T.Rt.length≤1048576∧T.N.length≤1048576
theorem f22_ok {H : Heap} {c b r n : Value} {T : Tb} (h : TV H c b r n T) (hs : sh T) : F Try.prog 22 ⟨[.agg ⟨[c,b,r,n]⟩]⟩ H (fun w X=>Grow H X∧∃ c' b' r' n',w=.agg ⟨[c',b',r',n']⟩∧TV X c' b' r' n' T):=by
 obtain⟨s1,s2,s3,s4,s5⟩:=hs
 have hl : ∀ X,ylen 0 X c=some (I T.C.length):=h.c.len
 refine F.entryL rfl dg22 do22 de22 rfl (by kernel_rfl) ?_
 simp only[sets]
 refine V.re [(0,.agg ⟨[c,b,r,n]⟩)] (N:=34) zE zY ?_
 intro t hF hA
 simp only[Kn,and_true] at hA
 refine zS ?_
 refine V.l0 ?_
 refine V.heap (fun X=>Grow H X∧Bx X H.next [c,b,r,n] 25∧Bx X (H.next+1) [.slice none 0 0,.slice none 0 0,.slice none 0 0,.slice none 0 0] 38∧H.next+2≤X.next) ⟨?_,?_,?_,?_⟩ ?_
 ·exact zW
 ·exact zB
 ·exact zB
 ·simp only[nx];omega
 rintro H1 ⟨g1,b1,c1,n1⟩
 have h1:=h.grow g1
 refine zS ?_
 refine V.draw ?_
 have zf:=b1.2
 refine VD.nz 2 ?_
 simp only[ds]
 refine VD.callR zA (f64_ok h1.b s3) zA (fun v2 H2 ⟨g2,o2⟩=>?_)
 have b2:=b1.grow g2
 have c2:=c1.grow g2
 have zf:=b2.2
 refine VD.nz 2 ?_
 simp only[ds]
 refine VD.callR zA (f64_ok (h1.grow g2).r s4) zA (fun v3 H3 ⟨g3,o3⟩=>?_)
 have b3:=b2.grow g3
 have c3:=c2.grow g3
 have zf:=b3.2
 refine VD.nz 2 ?_
 simp only[ds]
 refine VD.callR zA (f64_ok ((h1.grow g2).grow g3).n s5) zA (fun v4 H4 ⟨g4,o4⟩=>?_)
 have b4:=b3.grow g4
 have c4:=c3.grow g4
 have k2:=o2.sw (RS_len _)
 have k3:=o3.sw (RS_len _)
 have k4:=o4.sw (RS_len _)
 obtain⟨p2,q2,_,_⟩:=sl1 k2.isS
 obtain⟨p3,q3,_,_⟩:=sl1 k3.isS
 obtain⟨p4,q4,_,_⟩:=sl1 k4.isS
 have zf:=And.intro @p2<|And.intro @p3<|And.intro @p4<|And.intro @q2<|And.intro @q3<|@q4
 refine VD.dz ?_ ?_ rfl ?_
 ·have m2:=g2.1
  have m3:=g3.1
  have m4:=g4.1
  exact zM
 ·simp only[dcAll,dcOk,wantD,List.cons_append,List.nil_append,true_and,and_true]
  have v1:=(sl1 h.r.isS).2.2.1
  have v2:=(sl1 h.n.isS).2.2.1
  have zf:=And.intro b1.2<|And.intro b2.2<|b3.2
  exact⟨zR,zR,fun _=>⟨_,_,_,rfl,rfl,rfl,(by simp only[D5,hF,hA,↓reduceIte,qD,qE];simp[inBound]),fun _=>⟨_,_,_,cells_alloc _ _ _ _,(by first|exact An_inb|rfl)⟩⟩⟩
 have k2' : RS H4 v2 T.B:=(k2.grow g3).grow g4
 have k3' : RS H4 v3 T.Rt:=k3.grow g4
 have k4' : RS H4 v4 T.N:=k4
 have h4:=(((h1.grow g2).grow g3).grow g4)
 have n4:=Nat.le_trans (Nat.le_trans (Nat.le_trans n1 g2.1) g3.1) g4.1
 have hg4:=(((g1.trans g2).trans g3).trans g4)
 have f2 : ∀ i,blkN v2=some i→H.next+2≤i:=fun i hi=>Nat.le_trans n1 (o2.from i hi)
 have f3 : ∀ i,blkN v3=some i→H.next+2≤i:=fun i hi=>Nat.le_trans n1 (Nat.le_trans g2.1 (o3.from i hi))
 have f4 : ∀ i,blkN v4=some i→H.next+2≤i:=fun i hi=>Nat.le_trans n1 (Nat.le_trans g2.1 (Nat.le_trans g3.1 (o4.from i hi)))
 clear k2 k3 k4 o2 o3 o4 b1 b2 b3 c1 c2 c3 g1 g2 g3 g4 h1
 refine zS ?_
 refine V.l0 ?_
 refine zS ?_
 refine V.heap (fun X=>Grow H4 X∧Bx X H4.next [.slice none 0 0,v2,v3,v4] 38) ⟨?_,?_⟩ ?_
 ·exact zW
 ·exact zB
 rintro H5 ⟨g5,d5⟩
 have l5:=d5.1
 refine V.re [(1,.pointer (some ⟨H.next,0,none⟩)),(2,.pointer (some ⟨H.next+1,0,none⟩)),(3,.pointer (some ⟨H4.next,0,none⟩)),(4,I 0)] (N:=34) zF zK ?_
 clear hF hA
 intro t hF hA
 simp only[Kn,and_true] at hA
 refine V.loop (fun z t m X=>∃ (k : Nat) (s : Value),k≤T.C.length∧z=T.C.length-k∧m=[]∧Grow H4 X∧H5.next≤X.next∧Bx X H4.next [s,v2,v3,v4] 38∧OwN (From RS H5.next) H5 X 36 s (T.C.take k)∧Full 34 t∧Kn [(1,.pointer (some ⟨H.next,0,none⟩)),(2,.pointer (some ⟨H.next+1,0,none⟩)),(3,.pointer (some ⟨H4.next,0,none⟩)),(4,I k)] t) T.C.length ?_ ?_
 ·exact⟨0,_,by omega,by omega,rfl,g5,Nat.le_refl _,d5,by rw[List.take_zero];exact .nil,zF,zK⟩
 clear hF hA
 rintro z t m X ⟨k,s,hk,rfl,rfl,hg,hgn,dx,os,hF,hA⟩
 simp only[Kn,and_true] at hA
 have bx:=b4.grow hg
 have cx:=c4.grow hg
 have hx:=h4.grow hg
 refine zS ?_
 have zf:=And.intro bx.2<|@hl
 refine V.lz ?_
 refine zS ?_
 refine V.condP zP (fun hlt=>?_) (fun hlt=>?_)
 ·have hlt' : k<T.C.length:=by omega
  obtain⟨p,x,hp,hxx⟩:=hx.c.at rp hlt'
  obtain⟨hx1,hx2⟩:=hxx _ (.refl _)
  have hpk:=hp .i64
  refine zS ?_
  refine V.draw ?_
  have zf:=And.intro bx.2<|And.intro dx.2<|And.intro @hpk<|@hx1
  refine VD.nz 7 ?_
  simp only[ds]
  refine VD.callR zA (f64_ok hx2 (s2 _ (List.getElem_mem hlt'))) zA (fun y X1 ⟨g1,o1⟩=>?_)
  have dx1:=dx.grow g1
  have dl1:=dx1.1
  have os1:=os.keep (rp.from _) g1
  have hy : From RS H5.next X1 y T.C[k]:=⟨o1.sw (RS_len _),fun i hi=>Nat.le_trans hgn (o1.from i hi)⟩
  obtain⟨p1,q1,_,_⟩:=sl1 (rp.sl hy.1)
  obtain⟨w,X2,e1,e2,e3,e4,e5,e6⟩:=OwN.pushB (rp.from _) (bytes:=24) (Nat.le_trans hgn g1.1) os1 hy (os.sepNew (Nat.le_refl _) o1.from) (by rw[List.length_take];omega) (by rw[List.length_take];omega)
  have dx2:=e3.bx dx1 l5
  obtain⟨p2',q2',_,_⟩:=sl1 (rp.sl k2')
  have hw:=sl1 e2.nest.isS
  have zf:=And.intro @p1<|And.intro @q1<|And.intro @e1<|And.intro dx1.2<|And.intro dx2.2<|And.intro hw.1<|And.intro hw.2.1<|And.intro hw.2.2.2<|And.intro @p2<|And.intro @p3<|@p4
  refine VD.dz ?_ ?_ rfl ?_
  ·have m1:=g1.1
   exact zM
  ·simp only[dcAll,dcOk,wantD,List.cons_append,List.nil_append,true_and,and_true]
   have v1:=(sl1 os.nest.isS).2.2.1
   have zf:=And.intro dx.2<|dx1.2
   exact zR
  refine V.heap (fun Y=>Y.next=X2.next∧Bx Y H4.next [w,v2,v3,v4] 38∧∀ i,i≠H4.next→Y.get i=X2.get i) ⟨?_,?_,?_⟩ ?_
  ·simp only[nx]
  ·exact zB
  ·intro i hi
   rw[Heap.get_set,if_neg hi]
  rintro X3 ⟨n3,d3,t3⟩
  refine zS ?_
  refine V.l0 ?_
  refine V.nil (Or.inl ⟨rfl,T.C.length-(k+1),by omega,?_⟩)
  have hgX : Grow H4 X2:=e3.grow (hg.trans g1) (by omega)
  refine⟨k+1,w,by omega,rfl,rfl,⟨by rw[n3];exact hgX.1,fun i hi=>by rw[t3 i (by omega)];exact hgX.2 i hi⟩,by have:=e5;have:=g1.1;omega,d3,?_,zF,zK⟩
  rw[List.take_succ_eq_append_getElem hlt']
  exact e2.loc rp (by omega) (fun i hi=>t3 i (by omega))
 ·refine V.exit ?_
  refine zX ?_
  refine V.nil (Or.inr ⟨by simp,?_⟩)
  refine zX ?_
  have e : T.C.take k=T.C:=List.take_of_length_le (by omega)
  rw[e] at os
  have hw:=sl1 os.nest.isS
  refine zS ?_
  have zf:=And.intro dx.2<|And.intro cx.2<|And.intro hw.1<|And.intro hw.2.2.2<|And.intro @p2<|And.intro @p3<|@p4
  refine V.lz ?_
  refine zS ?_
  refine V.heap (fun Y=>Bx Y (H.next+1) [s,v2,v3,v4] 38∧Y.next=X.next∧∀ i,i≠H.next+1→Y.get i=X.get i) ⟨?_,?_,?_⟩ ?_
  ·exact zB
  ·simp only[nx]
  ·intro i hi
   rw[Heap.get_set,if_neg hi]
  rintro Y ⟨y1,y2,y3⟩
  refine V.ret (V.rets rfl (Lv.retF (by simp +contextual (disch:=first|omega|simp only[nx];omega) only[D1,cells_alloc_at,cells_alloc_ne,cells_set_at,cells_set_ne,yres,yres1,yresL,qA,qB,qC,D5,hF,hA,↓reduceIte,qD,qE,y1.2];rfl) ?_))
  refine⟨⟨by rw[y2];exact (hg4.trans hg).1,fun i hi=>by rw[y3 i (by omega)];exact (hg4.trans hg).2 i hi⟩,_,_,_,_,rfl,?_,?_,?_,?_⟩
  ·exact (os.loc rp (by omega) (fun i hi=>y3 i (by omega))).nest.weak (fun x r h=>h.1)
  ·exact rp.loc (rp.grow hg k2') (by omega) (fun i hi=>y3 i (by have:=f2 i hi;omega))
  ·exact rp.loc (rp.grow hg k3') (by omega) (fun i hi=>y3 i (by have:=f3 i hi;omega))
  ·exact rp.loc (rp.grow hg k4') (by omega) (fun i hi=>y3 i (by have:=f4 i hi;omega))
end Go.Xe.TFX
