/- The states between the pieces of function 20: its temporaries, and what its memory holds. Conditions: none. -/
import Derived.Test.YtelfbgmhleneiaaTV
import Derived.Test.YtelfbgmhleneiaaWc
import Derived.Test.YtelfbgmhleneiaaZy
import Derived.Test.YtelfbgmhleneiaaSN
import Derived.Test.YtelfbgmhleneiaaYk
namespace Go.Xe.TVS20
open Go Go.Xe Go.Proofs
set_option maxRecDepth 1000000
abbrev U : Value:=.tuple ⟨[]⟩
noncomputable def t1 : TT:=(.n (.bool false) (.n (.slice (some ⟨240,0,none⟩) 3 8) (.n (.slice (some ⟨481,0,none⟩) 3 8) (.n U (.n (.tuple ⟨[(.slice (some ⟨240,0,none⟩) 3 8),(.int .i64 (.ofNat 0))]⟩) (.n U (.n U .e .e) (.n U .e .e)) (.n U (.n U .e .e) .e)) (.n (.int .i64 (.ofNat 0)) (.n U (.n U .e .e) (.n U .e .e)) (.n U (.n U .e .e) .e))) (.n U (.n (.agg ⟨[(.int .u8 (.ofNat 3)),(.int .i64 (.ofNat 7)),(.int .i64 (.ofNat 0))]⟩) (.n U (.n U .e .e) (.n U .e .e)) (.n U (.n U .e .e) .e)) (.n (.tuple ⟨[(.int .i64 (.ofNat 2)),(.int .i64 (.ofNat 0))]⟩) (.n U (.n U .e .e) .e) (.n U (.n U .e .e) .e)))) (.n (.int .i64 (.ofNat 2)) (.n U (.n (.int .i64 (.ofNat 0)) (.n U (.n U .e .e) (.n U .e .e)) (.n U (.n U .e .e) .e)) (.n (.agg ⟨[(.int .u8 (.ofNat 2)),(.int .i64 (.ofNat 7)),(.int .i64 (.ofNat 0))]⟩) (.n U (.n U .e .e) .e) (.n U (.n U .e .e) .e))) (.n (.agg ⟨[(.int .u8 (.ofNat 2)),(.int .i64 (.ofNat 7)),(.int .i64 (.ofNat 0))]⟩) (.n (.tuple ⟨[(.slice (some ⟨481,0,none⟩) 3 8),(.int .i64 (.ofNat 0))]⟩) (.n U (.n U .e .e) (.n U .e .e)) (.n U (.n U .e .e) .e)) (.n (.int .i64 (.ofNat 0)) (.n U (.n U .e .e) .e) (.n U (.n U .e .e) .e))))) (.n (.int .i64 (.ofNat 0)) (.n (.int .i64 (.ofNat 0)) (.n U (.n (.slice (some ⟨240,0,none⟩) 3 8) (.n U (.n U .e .e) (.n U .e .e)) (.n U (.n U .e .e) .e)) (.n (.tuple ⟨[(.int .i64 (.ofNat 2)),(.int .i64 (.ofNat 0))]⟩) (.n U (.n U .e .e) (.n U .e .e)) (.n U (.n U .e .e) .e))) (.n (.tuple ⟨[(.slice (some ⟨240,0,none⟩) 3 8),(.int .i64 (.ofNat 0))]⟩) (.n (.slice (some ⟨242,0,none⟩) 3 3) (.n U (.n U .e .e) (.n U .e .e)) (.n U (.n U .e .e) .e)) (.n (.int .i64 (.ofNat 2)) (.n U (.n U .e .e) .e) (.n U (.n U .e .e) .e)))) (.n (.int .i64 (.ofNat 0)) (.n U (.n (.tuple ⟨[(.slice (some ⟨481,0,none⟩) 3 8),(.int .i64 (.ofNat 0))]⟩) (.n U (.n U .e .e) (.n U .e .e)) (.n U (.n U .e .e) .e)) (.n (.slice (some ⟨483,0,none⟩) 3 3) (.n U (.n U .e .e) .e) (.n U (.n U .e .e) .e))) (.n (.slice (some ⟨1,0,none⟩) 3 3) (.n (.slice (some ⟨481,0,none⟩) 3 8) (.n U (.n U .e .e) (.n U .e .e)) (.n U (.n U .e .e) .e)) (.n U (.n U (.n U .e .e) .e) (.n U (.n U .e .e) .e))))))
noncomputable def i1 : List Nat:=[1,240,242,481,483]
noncomputable def E1 : HT:=(.n (.cells [(.int .i64 (.ofNat 53)),(.int .i64 (.ofNat 24)),(.int .i64 (.ofNat 23))] 3 true) .e (.n (.cells [(.int .i64 (.ofNat 4)),(.int .i64 (.ofNat 2)),(.int .i64 (.ofNat 1)),(.int .i64 (.ofNat 0)),(.int .i64 (.ofNat 0)),(.int .i64 (.ofNat 0)),(.int .i64 (.ofNat 0)),(.int .i64 (.ofNat 0))] 78 true) .e (.n (.cells [(.int .i64 (.ofNat 53)),(.int .i64 (.ofNat 24)),(.int .i64 (.ofNat 23))] 3 true) .e (.n (.cells [(.int .i64 (.ofNat 3)),(.int .i64 (.ofNat 2)),(.int .i64 (.ofNat 2)),(.int .i64 (.ofNat 0)),(.int .i64 (.ofNat 0)),(.int .i64 (.ofNat 0)),(.int .i64 (.ofNat 0)),(.int .i64 (.ofNat 0))] 78 true) .e (.n (.cells [(.int .i64 (.ofNat 53)),(.int .i64 (.ofNat 24)),(.int .i64 (.ofNat 23))] 3 true) .e .e)))))
end Go.Xe.TVS20
/- Piece 0 of function 20, by the kernel. Conditions: none. -/
namespace Go.Xe.TVP20x0
open Go Go.Xe Go.Proofs
set_option maxRecDepth 1000000
theorem run : startL [] .e (pd 17) (fun T=>segF Try.prog TV.F0 4996 (fstake 4 (fsdrop 0 TV.c20)) (mkTT 105) [] (.mk 0 T) (outR TVS20.i1))=.nx TVS20.t1 [] (.mk 966 TVS20.E1):=by kernel_rfl
theorem len : (fstake 4 (fsdrop 0 TV.c20)).length=4:=by kernel_rfl
end Go.Xe.TVP20x0
/- Piece 1 of function 20, the last, by the kernel. Conditions: none. -/
namespace Go.Xe.TVP20x1
open Go Go.Xe Go.Proofs
set_option maxRecDepth 1000000
theorem run : startL TVS20.i1 TVS20.E1 (pd 17) (fun T=>afterF (execF Try.prog TV.F0 4996 (fsdrop 4 TV.c20) none [] TVS20.t1 (.mk 966 T)) [.tmp .o] endT)=.rt .e [] (.mk 0 .e):=by kernel_rfl
end Go.Xe.TVP20x1
/- Function 20, called in any world, returns true and leaves the world as it was: its pieces put together. Conditions: none. -/
namespace Go.Xe.TVB20
open Go Go.Xe Go.Proofs
set_option maxRecDepth 1000000
theorem mixed : Try.prog.follows .mixedOrders=true:=by kernel_rfl
noncomputable def body : Code:=match Try.f20.body with|some c=>c|none=>.skip
theorem hb : Try.f20.body=some body:=by kernel_rfl
theorem hn : Try.f20.ntmps=105:=by kernel_rfl
theorem call : (∀ (w : World) (r : Option Nat) (n : Nat), CallsIn (FW r) n Try.prog 20 #[] w (Quiet (.bool true) w)) ∧ ∃ fn, Try.prog.funcs[(20 : Nat)]? = some fn ∧ fn.body.isSome = true ∧ (fn.name == "runtime.NumGoroutine") = false := by
 letI:=(Gl.none Try.prog)
 letI:=(Orc.none Try.prog)
 have hF:=TV.ok0 (Orc.none Try.prog) rfl
 obtain⟨hc,hres⟩:=of_entry hb TV.e20
 obtain⟨tm0,H0,x0,s0⟩:=piece hF hc 0 4 4996 TVP20x0.len TVP20x0.run stOk_start
 obtain⟨e,a,Hz,y1,y2,y3,y4⟩:=piece_last hF hc 4 4996 TV.o20 hres TVP20x1.run s0
 have hx : exec Try.prog 5000 none body ⟨Array.replicate Try.f20.ntmps undef,[],Heap.empty⟩=some (e,a):=by rw[hn];exact x0.trans (y1)
 obtain⟨z1,z2⟩:=xcall_of rfl TV.g20 hb TV.o20 hx y2 y3 y4
 obtain⟨k1,k2⟩:=closed_x (Orc.none Try.prog) mixed (start_x (Orc.none Try.prog) rfl) z1 z2
 exact⟨fun w r n=>k1 w r n (Nat.zero_le _) trivial,k2⟩
end Go.Xe.TVB20
/- What is known of function 20 may be taken at its word. Conditions: none. -/
namespace Go.Xe.TVO
open Go Go.Xe Go.Proofs
set_option maxRecDepth 1000000
@[reducible] def orc : Orc Try.prog:=⟨0,fun _=>True,fun _ _ _ _=>trivial,TV.orcs1,fun g b h=>by
 unfold TV.orcs1 at h
 split at h
 ·rename_i hg
  cases h
  subst hg
  exact⟨fun w r n _ _=>TVB20.call.1 w r n,TVB20.call.2⟩
 ·cases h⟩
end Go.Xe.TVO
/- What the functions of the layer seat come to: numbers, ranges, and rules. Conditions: none. -/
-- MOD TV
namespace Go.Xe.TVX
open Go Go.Xe Go.Proofs
open Nat renaming reduceLeDiff → qA, reduceSub → qB, reduceAdd → qC, reduceEqDiff → qD, reduceLT → qE
open Int renaming reduceNegSucc → qF, reduceEq → qG
open Go.Xe.V renaming seq → sA, block → sB, scope → sC, skip → sD, close → sE
open Go.Xe renaming pth → P
open Go.Xe.Sea
set_option maxRecDepth 100000
set_option maxHeartbeats 3200000
set_option linter.unusedSimpArgs false
noncomputable def d73 : FCode:=(.seq (.run (.go (.alloc 49 [(.int .i64 (.ofNat 0)),(.int .i64 (.ofNat 0))]) (P 0)::
[])) (.seq (.run (.go (.build [(.int .i64 (.ofNat 0)),(.int .i64 (.ofNat 0))] [(0,1,(.con (.int .i64 (.ofNat 0)))),(1,1,(.con (.int .i64 (.ofNat 10000))))]) (P 1)::
.un (.store 2 (tm 0) (tm 1))::
[])) .ret))
theorem de73 : @compF Try.prog (Gl.none Try.prog) Try.f73 0=.mk d73 (mkTT 2) [] [.many (P 0) 2]:=by kernel_rfl
theorem dg73 : Try.prog.funcs[73]?=some Try.f73:=Try.func73
theorem do73 : okF Try.prog Try.f73=true:=by kernel_rfl
noncomputable def d60 : FCode:=(.seq (.run (.go (.box 49 (tm 0)) (P 2)::
.go (.move (.con (.bool false))) (P 4)::
[])) (.seq (.run (.go (.fieldAddr 0 (tm 2)) (P 5)::
.go (.load1 (tm 5)) (P 6)::
.go (.move (tm 1)) (P 7)::
.go (.bin .leq 3 (tm 6) (tm 7)) (P 8)::
.go (.move (tm 8)) (P 9)::
.gd (P 9) true (.move (tm 1)) (P 10)::
.gd (P 9) true (.fieldAddr 1 (tm 2)) (P 11)::
.gd (P 9) true (.load1 (tm 11)) (P 12)::
.gd (P 9) true (.bin .leq 3 (tm 10) (tm 12)) (P 13)::
.go (.pick (tm 9) (tm 13) (.con (.bool false))) (P 14)::
.go (.move (tm 14)) (P 4)::
[])) .ret))
theorem de60 : @compF Try.prog (Gl.none Try.prog) Try.f60 2=.mk d60 (mkTT 15) [(P 0),(P 1)] [.tmp (P 4)]:=by kernel_rfl
theorem dg60 : Try.prog.funcs[60]?=some Try.f60:=Try.func60
theorem do60 : okF Try.prog Try.f60=true:=by kernel_rfl
noncomputable def d53 : FCode:=(.seq (.run (.go (.box 28 (tm 0)) (P 1)::
.go (.move (.con (.bool false))) (P 2)::
[])) (.seq (.draw 25 (.go (.fieldAddr 0 (tm 1)) (P 3)::
.go (.load1 (tm 3)) (P 4)::
.go (.bin .leq 5 (.con (.int .u8 (.ofNat 1))) (tm 4)) (P 5)::
.go (.move (tm 5)) (P 6)::
.gd (P 6) true (.fieldAddr 0 (tm 1)) (P 7)::
.gd (P 6) true (.load1 (tm 7)) (P 8)::
.gd (P 6) true (.bin .leq 5 (tm 8) (.con (.int .u8 (.ofNat 5)))) (P 9)::
.go (.pick (tm 6) (tm 9) (.con (.bool false))) (P 10)::
.go (.move (tm 10)) (P 11)::
.gd (P 11) true (.fieldAddr 1 (tm 1)) (P 12)::
.gd (P 11) true (.load1 (tm 12)) (P 13)::
.gd (P 11) true (.bin .leq 3 (.con (.int .i64 (.ofNat 0))) (tm 13)) (P 14)::
.go (.pick (tm 11) (tm 14) (.con (.bool false))) (P 15)::
.go (.move (tm 15)) (P 16)::
.gd (P 16) true (.fieldAddr 1 (tm 1)) (P 17)::
.gd (P 16) true (.load1 (tm 17)) (P 18)::
.gd (P 16) true (.bin .leq 3 (tm 18) (.con (.int .i64 (.ofNat 60)))) (P 19)::
.go (.pick (tm 16) (tm 19) (.con (.bool false))) (P 20)::
.go (.move (tm 20)) (P 21)::
.gd (P 21) true (.call (.con (.func (.func 73) ⟨[]⟩ ⟨[]⟩)) []) (P 22)::
.gd (P 21) true (.fieldAddr 2 (tm 1)) (P 23)::
.gd (P 21) true (.load1 (tm 23)) (P 24)::
.gd (P 21) true (.call (.con (.func (.func 60) ⟨[]⟩ ⟨[]⟩)) [(tm 22),(tm 24)]) (P 25)::
.go (.pick (tm 21) (tm 25) (.con (.bool false))) (P 26)::
.go (.move (tm 26)) (P 2)::
[]) [.ok,.ok,.ok,.ok,.ok,.ok,.ok,.ok,.ok,.ok,.ok,.ok,.ok,.ok,.ok,.ok,.ok,.ok,.ok,.ok,.ok,.rd (some ((P 21),true)) (.load1 (tm 23)) (some (P 24)) [0],.ok,.ok,.ok]) .ret))
theorem de53 : @compF Try.prog (Gl.none Try.prog) Try.f53 1=.mk d53 (mkTT 27) [(P 0)] [.tmp (P 2)]:=by kernel_rfl
theorem dg53 : Try.prog.funcs[53]?=some Try.f53:=Try.func53
theorem do53 : okF Try.prog Try.f53=true:=by kernel_rfl
noncomputable def d95 : FCode:=(.seq (.run (.go (.box 28 (tm 0)) (P 2)::
.go (.move (.con (.bool false))) (P 4)::
[])) (.seq (.run (.go (.move (tm 1)) (P 5)::
.go (.fieldAddr 2 (tm 2)) (P 6)::
.go (.load1 (tm 6)) (P 7)::
.go (.mm true [(.con (.int .i64 (.ofNat 1))),(tm 7)]) (P 8)::
.go (.bin .geq 3 (tm 5) (tm 8)) (P 9)::
.go (.move (tm 9)) (P 4)::
[])) .ret))
theorem de95 : @compF Try.prog (Gl.none Try.prog) Try.f95 2=.mk d95 (mkTT 10) [(P 0),(P 1)] [.tmp (P 4)]:=by kernel_rfl
theorem dg95 : Try.prog.funcs[95]?=some Try.f95:=Try.func95
theorem do95 : okF Try.prog Try.f95=true:=by kernel_rfl
noncomputable def d83 : FCode:=(.seq (.run (.go (.move (.con (.int .i64 (.ofNat 0)))) (P 2)::
[])) (.seq (.run (.go (.move (tm 0)) (P 3)::
.go (.move (tm 0)) (P 4)::
.go (.bin .mul 3 (tm 3) (tm 4)) (P 5)::
.go (.move (tm 5)) (P 2)::
[])) .ret))
theorem de83 : @compF Try.prog (Gl.none Try.prog) Try.f83 1=.mk d83 (mkTT 6) [(P 0)] [.tmp (P 2)]:=by kernel_rfl
theorem dg83 : Try.prog.funcs[83]?=some Try.f83:=Try.func83
theorem do83 : okF Try.prog Try.f83=true:=by kernel_rfl
noncomputable def d91 : FCode:=(.seq (.run (.go (.move (.con (.int .i64 (.ofNat 0)))) (P 2)::
[])) (.seq (.run (.go (.move (tm 0)) (P 3)::
.go (.call (.con (.func (.func 83) ⟨[]⟩ ⟨[]⟩)) [tm 3]) (P 4)::
.go (.move (tm 4)) (P 2)::
[])) .ret))
theorem de91 : @compF Try.prog (Gl.none Try.prog) Try.f91 1=.mk d91 (mkTT 5) [(P 0)] [.tmp (P 2)]:=by kernel_rfl
theorem dg91 : Try.prog.funcs[91]?=some Try.f91:=Try.func91
theorem do91 : okF Try.prog Try.f91=true:=by kernel_rfl
noncomputable def d92 : FCode:=(.seq (.run (.go (.move (.con (.int .i64 (.ofNat 0)))) (P 2)::
[])) (.seq (.run (.go (.move (tm 0)) (P 3)::
.go (.bin .add 3 (tm 3) (.con (.int .i64 (.ofNat 1)))) (P 4)::
.go (.call (.con (.func (.func 83) ⟨[]⟩ ⟨[]⟩)) [tm 4]) (P 5)::
.go (.move (tm 5)) (P 2)::
[])) .ret))
theorem de92 : @compF Try.prog (Gl.none Try.prog) Try.f92 1=.mk d92 (mkTT 6) [(P 0)] [.tmp (P 2)]:=by kernel_rfl
theorem dg92 : Try.prog.funcs[92]?=some Try.f92:=Try.func92
theorem do92 : okF Try.prog Try.f92=true:=by kernel_rfl
noncomputable def d93 : FCode:=(.seq (.run (.go (.move (.con (.int .i64 (.ofNat 0)))) (P 2)::
[])) (.seq (.run (.go (.move (tm 0)) (P 3)::
.go (.bin .mul 3 (.con (.int .i64 (.ofNat 2))) (tm 3)) (P 4)::
.go (.bin .add 3 (tm 4) (.con (.int .i64 (.ofNat 1)))) (P 5)::
.go (.call (.con (.func (.func 83) ⟨[]⟩ ⟨[]⟩)) [tm 5]) (P 6)::
.go (.move (tm 6)) (P 2)::
[])) .ret))
theorem de93 : @compF Try.prog (Gl.none Try.prog) Try.f93 1=.mk d93 (mkTT 7) [(P 0)] [.tmp (P 2)]:=by kernel_rfl
theorem dg93 : Try.prog.funcs[93]?=some Try.f93:=Try.func93
theorem do93 : okF Try.prog Try.f93=true:=by kernel_rfl
noncomputable def d94 : FCode:=(.seq (.run (.go (.move (.con (.int .i64 (.ofNat 0)))) (P 2)::
[])) (.seq (.run (.go (.move (tm 0)) (P 3)::
.go (.move (tm 0)) (P 4)::
.go (.bin .add 3 (tm 4) (.con (.int .i64 (.ofNat 1)))) (P 5)::
.go (.bin .mul 3 (tm 3) (tm 5)) (P 6)::
.go (.move (tm 6)) (P 2)::
[])) .ret))
theorem de94 : @compF Try.prog (Gl.none Try.prog) Try.f94 1=.mk d94 (mkTT 7) [(P 0)] [.tmp (P 2)]:=by kernel_rfl
theorem dg94 : Try.prog.funcs[94]?=some Try.f94:=Try.func94
theorem do94 : okF Try.prog Try.f94=true:=by kernel_rfl
@[reducible] instance gl : Gl Try.prog:=Gl.none Try.prog
@[reducible] instance orc : Orc Try.prog:=TVO.orc
abbrev I (n : Int) : Value:=.int .i64 n
abbrev U : Value:=undef
abbrev PT (i : Nat) : Value:=.pointer (some ⟨i,0,none⟩)
abbrev A2 (a b : Int) : List Value:=[I a,I b]
abbrev A3 (m S L : Int) : List Value:=[.int .u8 m,I S,I L]
def Li (l : List Int) : List Value:=l.map I
theorem Li_len (l : List Int) : (Li l).length=l.length:=by simp[Li]
theorem Li_at {l : List Int} {k : Nat} (h : k<l.length) : (Li l)[k]?=some (I l[k]):=by simp[Li,h]
theorem Li_ok (l : List Int) : (Li l).all ok1=true:=by simp[Li,ok1_int]
theorem tk1 {α : Type} {l : List α} {k : Nat} (h : k<l.length) : l.take (k+1)=l.take k++[l[k]]:=List.take_succ_eq_append_getElem h
structure LS (H : Heap) (x : Value) (l : List Int) : Prop where
 s : Sl H x (Li l)
theorem LS.grow {A B : Heap} (g : Grow A B) {x : Value} {l : List Int} (h : LS A x l) : LS B x l:=⟨h.s.grow g⟩
theorem LS.len {H : Heap} {x : Value} {l : List Int} (h : LS H x l) : ∀ X,ylen 0 X x=some (I l.length):=by
 intro X
 have:=h.s.len
 rw[Li_len] at this
 obtain⟨p,n,c,rfl⟩:=h.s.isS
 exact this
theorem LS.at {H : Heap} {x : Value} {l : List Int} (h : LS H x l) {k : Nat} (hk : k<l.length) : ∃ p,yindexAddr none 1 x (I k)=some p∧∀ H',Grow H H'→yload1 H' p=some (I l[k]):=h.s.get (Li_at hk) rfl
theorem f20_ok (H : Heap) : Gives Try.prog 20 [] H (.bool true):=.orc rfl
theorem f73_ok (H : Heap) : Gives Try.prog 73 [] H (.agg ⟨A2 0 10000⟩):=by
 refine F.entryL rfl dg73 do73 de73 rfl (by kernel_rfl) ?_
 simp only[sets]
 refine V.re [] (N:=2) zE zY ?_
 intro t hF hA
 refine zS ?_
 refine V.l0 ?_
 refine zS ?_
 refine V.l0 ?_
 refine zS ?_
 refine V.ret (V.rets rfl (Lv.retG (by simp +contextual (disch:=first|omega|simp only[nx];omega) only[D1,cells_alloc_at,cells_alloc_ne,cells_set_at,cells_set_ne,yres,yres1,yresL,qA,qB,qC,D5,hF,hA,↓reduceIte,qD,qE];rfl) ?_ ?_))
 ·exact zW
 ·rfl
theorem f60_ok (a b n : Int) (H : Heap) : Gives Try.prog 60 [.agg ⟨A2 a b⟩,I n] H (.bool (decide (a≤n∧n≤b))):=by
 refine F.entryL rfl dg60 do60 de60 rfl (by kernel_rfl) ?_
 simp only[sets]
 refine V.re [(0,.agg ⟨A2 a b⟩),(1,I n)] (N:=15) zE zY ?_
 intro t hF hA
 simp only[Kn,and_true] at hA
 refine zS ?_
 refine V.l0 ?_
 refine zS ?_
 refine V.l0 ?_
 refine zS ?_
 refine V.ret (V.rets rfl (Lv.retG (by simp +contextual (disch:=first|omega|simp only[nx];omega) only[D1,cells_alloc_at,cells_alloc_ne,cells_set_at,cells_set_ne,yres,yres1,yresL,qA,qB,qC,D5,hF,hA,↓reduceIte,qD,qE];rfl) ?_ ?_))
 ·exact zW
 ·rfl
def rvalid (m S L : Int) : Prop:=1≤m∧m≤5∧0≤S∧S≤60∧0≤L∧L≤10000
instance (m S L : Int) : Decidable (rvalid m S L):=by unfold rvalid;infer_instance
theorem f53_ok (m S L : Int) (H : Heap) : Gives Try.prog 53 [.agg ⟨A3 m S L⟩] H (.bool (decide (rvalid m S L))):=by
 refine F.entryL rfl dg53 do53 de53 rfl (by kernel_rfl) ?_
 simp only[sets]
 refine V.re [(0,.agg ⟨A3 m S L⟩)] (N:=27) zE zY ?_
 intro t hF hA
 simp only[Kn,and_true] at hA
 refine zS ?_
 refine V.l0 ?_
 refine V.heap (fun X=>Grow H X∧Bx X H.next (A3 m S L) 28) ⟨?_,?_⟩ ?_
 ·exact zW
 ·exact zB
 rintro H1 ⟨g1,b1⟩
 refine zS ?_
 refine V.draw ?_
 have zf:=b1.2
 refine VD.nz 9 ?_
 simp only[ds]
 have zf:=b1.2
 refine VD.nz 9 ?_
 simp only[ds]
 have zf:=b1.2
 refine VD.nz 1 ?_
 simp only[ds]
 first|refine VD.callGt zG (fun hc=>zI) (fun hc=>f73_ok _) (fun hc=>zI) (fun H2 g2=>?_)|refine VD.callGf zG (fun hc=>zI) (fun hc=>f73_ok _) (fun hc=>zI) (fun H2 g2=>?_)
 have b2:=b1.grow g2
 have zf:=b2.2
 refine VD.nz 2 ?_
 simp only[ds]
 first|refine VD.callGt zG (fun hc=>zI) (fun hc=>f60_ok 0 10000 L _) (fun hc=>zI) (fun H3 g3=>?_)|refine VD.callGf zG (fun hc=>zI) (fun hc=>f60_ok 0 10000 L _) (fun hc=>zI) (fun H3 g3=>?_)
 have b3:=b2.grow g3
 have m2:=g2.1
 have m3:=g3.1
 refine VD.d0 ?_ ?_ rfl ?_
 ·exact zM
 ·simp only[dcAll,dcOk,wantD,List.cons_append,List.nil_append,true_and,and_true]
  exact fun hw q hq=>by simp only[wantD,D5,hF,hA,↓reduceIte,qD,qE,beq_iff_eq,decide_eq_false_iff_not,decide_eq_true_eq] at hw;simp only[List.mem_cons,List.not_mem_nil,or_false] at hq;(repeat (rcases hq with rfl|hq;exact⟨_,_,_,rfl,(by simp +contextual (disch:=first|omega|simp only[nx];omega) only[D4,qF,qG,qA,qB,qC,D5,hF,hA,↓reduceIte,qD,qE,if_true,not_false_eq_true,not_true_eq_false,hw,b1.2,b2.2,b3.2];with_reducible rfl),fun p hp=>by cases hp;simp only[D5,hF,hA,↓reduceIte,qD,qE,hw,if_true,not_false_eq_true];first|exact vEq_An|(simp[vEq,vEq0,all2];done)|assumption⟩));(try (subst hq;exact⟨_,_,_,rfl,(by simp +contextual (disch:=first|omega|simp only[nx];omega) only[D4,qF,qG,qA,qB,qC,D5,hF,hA,↓reduceIte,qD,qE,if_true,not_false_eq_true,not_true_eq_false,hw,b1.2,b2.2,b3.2];with_reducible rfl),fun p hp=>by cases hp;simp only[D5,hF,hA,↓reduceIte,qD,qE,hw,if_true,not_false_eq_true];first|exact vEq_An|(simp[vEq,vEq0,all2];done)|assumption⟩))
 refine zS ?_
 refine V.ret (V.rets rfl (Lv.retG (by simp +contextual (disch:=first|omega|simp only[nx];omega) only[D1,cells_alloc_at,cells_alloc_ne,cells_set_at,cells_set_ne,yres,yres1,yresL,qA,qB,qC,D5,hF,hA,↓reduceIte,qD,qE];rfl) ?_ ?_))
 ·exact (g1.trans g2).trans g3
 ·congr 1
  rw[decide_eq_decide]
  unfold rvalid
  simp only[and_assoc]
def adm (L n : Int) : Prop:=1≤n∧L≤n
instance (L n : Int) : Decidable (adm L n):=by unfold adm;infer_instance
theorem f95_ok (m S L n : Int) (H : Heap) : Gives Try.prog 95 [.agg ⟨A3 m S L⟩,I n] H (.bool (decide (adm L n))):=by
 refine F.entryL rfl dg95 do95 de95 rfl (by kernel_rfl) ?_
 simp only[sets]
 refine V.re [(0,.agg ⟨A3 m S L⟩),(1,I n)] (N:=10) zE zY ?_
 intro t hF hA
 simp only[Kn,and_true] at hA
 refine zS ?_
 refine V.l0 ?_
 refine zS ?_
 refine V.l0 ?_
 refine zS ?_
 refine V.ret (V.rets rfl (Lv.retG (by simp +contextual (disch:=first|omega|simp only[nx];omega) only[D1,cells_alloc_at,cells_alloc_ne,cells_set_at,cells_set_ne,yres,yres1,yresL,qA,qB,qC,D5,hF,hA,↓reduceIte,qD,qE];rfl) ?_ ?_))
 ·exact zW
 ·congr 1
  rw[decide_eq_decide]
  unfold adm
  split<;>omega
theorem f95_fv (m S L : Int) (X : Heap) (y : Int) : FV Try.prog (.func (.func 95) ⟨[.agg ⟨A3 m S L⟩]⟩ ⟨[]⟩) [I y] X (fun v X'=>v=.bool (decide (adm L y))∧Grow X X'):=f95_ok m S L y X
theorem f83_ok (n : Int) (h : 0≤n*n∧n*n≤100000000) (H : Heap) : Gives Try.prog 83 [I n] H (I (n*n)):=by
 refine F.entryL rfl dg83 do83 de83 rfl (by kernel_rfl) ?_
 simp only[sets]
 refine V.re [(0,I n)] (N:=6) zE zY ?_
 intro t hF hA
 simp only[Kn,and_true] at hA
 refine zS ?_
 refine V.l0 ?_
 refine zS ?_
 refine V.l0 ?_
 refine zS ?_
 refine V.ret (V.rets rfl (Lv.retG (by simp +contextual (disch:=first|omega|simp only[nx];omega) only[D1,cells_alloc_at,cells_alloc_ne,cells_set_at,cells_set_ne,yres,yres1,yresL,qA,qB,qC,D5,hF,hA,↓reduceIte,qD,qE];rfl) ?_ ?_))
 ·exact zW
 ·rfl
theorem sq_bd {a b : Int} (h : 0≤a∧a≤b) : 0≤a*a∧a*a≤b*b:=⟨Int.mul_nonneg h.1 h.1,Int.mul_le_mul h.2 h.2 h.1 (by omega)⟩
theorem f91_ok (s : Int) (h : 0≤s∧s≤100) (H : Heap) : Gives Try.prog 91 [I s] H (I (s*s)):=by
 have hb:=sq_bd h
 refine F.entryL rfl dg91 do91 de91 rfl (by kernel_rfl) ?_
 simp only[sets]
 refine V.re [(0,I s)] (N:=5) zE zY ?_
 intro t hF hA
 simp only[Kn,and_true] at hA
 refine zS ?_
 refine V.l0 ?_
 refine zS ?_
 refine V.run ?_
 refine VI.s0 1 ?_
 simp only[ds]
 refine VI.callA rfl (f83_ok s (by omega) _) zA (fun H2 g2=>?_)
 refine VI.l0 ?_
 refine zS ?_
 refine V.ret (V.rets rfl (Lv.retG (by simp +contextual (disch:=first|omega|simp only[nx];omega) only[D1,cells_alloc_at,cells_alloc_ne,cells_set_at,cells_set_ne,yres,yres1,yresL,qA,qB,qC,D5,hF,hA,↓reduceIte,qD,qE];rfl) ?_ ?_))
 ·exact g2
 ·rfl
theorem f92_ok (s : Int) (h : 0≤s∧s≤100) (H : Heap) : Gives Try.prog 92 [I s] H (I ((s+1)*(s+1))):=by
 have hb:=sq_bd (a:=s+1) (b:=101) (by omega)
 refine F.entryL rfl dg92 do92 de92 rfl (by kernel_rfl) ?_
 simp only[sets]
 refine V.re [(0,I s)] (N:=6) zE zY ?_
 intro t hF hA
 simp only[Kn,and_true] at hA
 refine zS ?_
 refine V.l0 ?_
 refine zS ?_
 refine V.run ?_
 refine VI.s0 2 ?_
 simp only[ds]
 refine VI.callA rfl (f83_ok (s+1) (by omega) _) zA (fun H2 g2=>?_)
 refine VI.l0 ?_
 refine zS ?_
 refine V.ret (V.rets rfl (Lv.retG (by simp +contextual (disch:=first|omega|simp only[nx];omega) only[D1,cells_alloc_at,cells_alloc_ne,cells_set_at,cells_set_ne,yres,yres1,yresL,qA,qB,qC,D5,hF,hA,↓reduceIte,qD,qE];rfl) ?_ ?_))
 ·exact g2
 ·rfl
theorem f93_ok (s : Int) (h : 0≤s∧s≤100) (H : Heap) : Gives Try.prog 93 [I s] H (I ((2*s+1)*(2*s+1))):=by
 have hb:=sq_bd (a:=2*s+1) (b:=201) (by omega)
 refine F.entryL rfl dg93 do93 de93 rfl (by kernel_rfl) ?_
 simp only[sets]
 refine V.re [(0,I s)] (N:=7) zE zY ?_
 intro t hF hA
 simp only[Kn,and_true] at hA
 refine zS ?_
 refine V.l0 ?_
 refine zS ?_
 refine V.run ?_
 refine VI.s0 3 ?_
 simp only[ds]
 refine VI.callA rfl (f83_ok (2*s+1) (by omega) _) zA (fun H2 g2=>?_)
 refine VI.l0 ?_
 refine zS ?_
 refine V.ret (V.rets rfl (Lv.retG (by simp +contextual (disch:=first|omega|simp only[nx];omega) only[D1,cells_alloc_at,cells_alloc_ne,cells_set_at,cells_set_ne,yres,yres1,yresL,qA,qB,qC,D5,hF,hA,↓reduceIte,qD,qE];rfl) ?_ ?_))
 ·exact g2
 ·rfl
theorem f94_ok (s : Int) (h : 0≤s∧s≤100) (H : Heap) : Gives Try.prog 94 [I s] H (I (s*(s+1))):=by
 have hb : 0≤s*(s+1)∧s*(s+1)≤100*101:=⟨Int.mul_nonneg h.1 (by omega),Int.mul_le_mul h.2 (by omega) (by omega) (by omega)⟩
 refine F.entryL rfl dg94 do94 de94 rfl (by kernel_rfl) ?_
 simp only[sets]
 refine V.re [(0,I s)] (N:=7) zE zY ?_
 intro t hF hA
 simp only[Kn,and_true] at hA
 refine zS ?_
 refine V.l0 ?_
 refine zS ?_
 refine V.l0 ?_
 refine zS ?_
 refine V.ret (V.rets rfl (Lv.retG (by simp +contextual (disch:=first|omega|simp only[nx];omega) only[D1,cells_alloc_at,cells_alloc_ne,cells_set_at,cells_set_ne,yres,yres1,yresL,qA,qB,qC,D5,hF,hA,↓reduceIte,qD,qE];rfl) ?_ ?_))
 ·exact zW
 ·rfl
end Go.Xe.TVX
