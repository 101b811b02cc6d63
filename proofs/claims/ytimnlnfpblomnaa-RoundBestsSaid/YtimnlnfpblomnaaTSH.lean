/- What the functions of the layer round come to: a total that is divided. Conditions: none. -/
import Derived.Test.YtimnlnfpblomnaaTSA
import Derived.Test.YtimnlnfpblomnaaWa
noncomputable section
namespace Go.Xe.TRX
open Go Go.Xe Go.Proofs
open Nat renaming reduceLeDiff ->qA, reduceSub ->qB, reduceAdd ->qC, reduceEqDiff ->qD, reduceLT ->qE
open Int renaming reduceNegSucc ->qF, reduceEq ->qG
open Go.Xe.V renaming seq ->sA, block ->sB, scope ->sC, skip ->sD, close ->sE
open Go.Xe renaming pth ->P
open Go.Xe.Rnd
set_option maxRecDepth 100000
set_option maxHeartbeats 3200000
set_option linter.unusedSimpArgs false
abbrev OL (n0 : Nat) (col : Nat->Nat) (c : Nat) (X : Heap) (v : Value) (l : List Int) : Prop:=Oc n0 col c X 3 v l.length (Li l)
theorem own_idx {y n c g : Nat} (h : g<n) : yindexAddr none 1 (.slice (some ⟨y,0,none⟩) n c) (I (g : Nat))=some (.pointer (some ⟨y,g,none⟩)):=by
 simp only[yindexAddr]
 rw[if_pos ⟨by omega,by omega⟩]
 simp
section
variable {n0 : Nat} {col : Nat->Nat} {c : Nat} {X : Heap} {v : Value} {l : List Int}
theorem OL.ow {H0 : Heap} (h : OL n0 col c X v l) (hn : H0.next<=n0) : Ow H0 X 3 v (Li l):=by
 have h' : Oc n0 col c X 3 v (Li l).length (Li l):=by rw[Li_len];exact h
 exact h'.o hn
theorem OL.ls (h : OL n0 col c X v l) : LS X v l:=⟨((OL.ow h (H0:=Heap.empty)) (Nat.zero_le _)).sl⟩
theorem OL.push (h : OL n0 col c X v l) (hn : n0<=X.next) (hl : l.length<=1048576) (x : Int) : ∃ u X',yappend 3 1 8 (X.alloc (.cells ⟨[I x]⟩ 3 true)) v (.slice (some ⟨X.next,0,none⟩) 1 1)=some (u,X')/\∃ col',OL n0 col' c X' u (l++[x])/\St n0 (·=c) col X col' X'/\Keep n0 X X'/\X.next+1<=X'.next:=by
 obtain⟨u,X',a1,a2,a3,a4,a5,_⟩:=Oc.push (bytes:=8) (w:=1) (x:=[I x]) (by decide) h hn (by rw[Li_len,Nat.mul_one]) rfl rfl (by omega) (by omega)
 refine⟨u,X',a1,_,?_,a3,a4,a5⟩
 unfold OL Li
 rw[List.map_append,List.length_append]
 exact a2
theorem OL.set (h : OL n0 col c X v l) {i : Nat} (hi : i<l.length) (x : Int) : ∃ b,v=.slice (some ⟨b,0,none⟩) l.length l.length/\n0<=b/\b<X.next/\X.cellsAt b=some (⟨Li l⟩,3,true)/\OL n0 col c (X.set b (.cells ⟨(Li l).set i (I x)⟩ 3 true)) v (l.set i x)/\St n0 (·=c) col X col (X.set b (.cells ⟨(Li l).set i (I x)⟩ 3 true)):=by
 obtain⟨b,b1,b2,b3,b4,b5,b6⟩:=Oc.set1 (i:=i) (x:=I x) h (by rw[Li_len];exact hi)
 refine⟨b,b1,b2,b3,b4,?_,b6⟩
 unfold OL
 rw[List.length_set]
 have e : Li (l.set i x)=(Li l).set i (I x):=by unfold Li;rw[List.map_set]
 rw[e]
 exact b5
end
end Go.Xe.TRX
-- MOD TR
namespace Go.Xe.TRX
open Go Go.Xe Go.Proofs
open Nat renaming reduceLeDiff ->qA, reduceSub ->qB, reduceAdd ->qC, reduceEqDiff ->qD, reduceLT ->qE
open Int renaming reduceNegSucc ->qF, reduceEq ->qG
open Go.Xe.V renaming seq ->sA, block ->sB, scope ->sC, skip ->sD, close ->sE
open Go.Xe renaming pth ->P
open Go.Xe.Rnd
set_option maxRecDepth 100000
set_option maxHeartbeats 3200000
set_option linter.unusedSimpArgs false
end Go.Xe.TRX
-- MOD TR
namespace Go.Xe.TRX
open Go Go.Xe Go.Proofs
open Nat renaming reduceLeDiff ->qA, reduceSub ->qB, reduceAdd ->qC, reduceEqDiff ->qD, reduceLT ->qE
open Int renaming reduceNegSucc ->qF, reduceEq ->qG
open Go.Xe.V renaming seq ->sA, block ->sB, scope ->sC, skip ->sD, close ->sE
open Go.Xe renaming pth ->P
open Go.Xe.Rnd
set_option maxRecDepth 100000
set_option maxHeartbeats 3200000
set_option linter.unusedSimpArgs false
theorem Li_atD {l : List Int} {k : Nat} (h : k<l.length) : (Li l)[k]?=some (I (l.getD k 0)):=by
 rw[Li_at h];congr 2;rw[List.getD_eq_getElem?_getD,List.getElem?_eq_getElem h];rfl
theorem gD {l : List Int} {k : Nat} (h : k<l.length) : l[k]=l.getD k 0:=by
 rw[List.getD_eq_getElem?_getD,List.getElem?_eq_getElem h];rfl
end Go.Xe.TRX
namespace Go.Xe
open Go
section
variable {P : Program} [Gl P] [Orc P] {rnd : Option Nat} {Q : FQ} {K : List FFr} {t : TT} {m : List Nat} {H : Heap} {is : List FI} {p d : Pth} {w : Bool} {fa : FA} {args : List FA} {g : FuncId} {a b l : List Value} {S : Value->Heap->Prop} {pre : List Heap} {R : TT->List Heap->Prop}
theorem VD.callRT (hp : gt p t=.bool w) (hf : dA t fa=.func (.func g) ⟨a⟩ ⟨b⟩) (hs : F P g ⟨l⟩ H S) (hl : a++args.map (dA t)++b=l) (k : ∀ v H',S v H'->VD P is (st v d t) H' (pre++[H]) R) : VD P (.gd p w (.call fa args) d::is) t H pre R:=by
 subst hl
 refine .callT hp hf ?_
 rw[arr_app,arr_app]
 exact hs.mono k
theorem V.join {x : FCode} (S : TT->List Nat->Heap->Prop) (h : V P rnd (λe t' m' H'=>(e=.normal/\S t' m' H')\/(e≠.normal/\V P rnd Q K e t' m' H')) [.seq x] .normal t m H) (k : ∀ t' m' H',S t' m' H'->V P rnd Q K .normal t' m' H') : V P rnd Q (.seq x::K) .normal t m H:=by
 intro c tm hc ht
 obtain⟨e,tm1,m1,H1,t1,h1,h2,h3⟩:=h c tm hc ht
 refine⟨e,tm1,m1,H1,t1,h1,h2,?_⟩
 rcases h3 with⟨rfl,hS⟩|⟨_,h3⟩
 ·exact k _ _ _ hS
 ·exact h3
end
end Go.Xe
-- MOD TR
namespace Go.Xe.TRX
open Go Go.Xe Go.Proofs
open Nat renaming reduceLeDiff ->qA, reduceSub ->qB, reduceAdd ->qC, reduceEqDiff ->qD, reduceLT ->qE
open Int renaming reduceNegSucc ->qF, reduceEq ->qG
open Go.Xe.V renaming seq ->sA, block ->sB, scope ->sC, skip ->sD, close ->sE
open Go.Xe renaming pth ->P
open Go.Xe.Rnd
set_option maxRecDepth 100000
set_option maxHeartbeats 3200000
set_option linter.unusedSimpArgs false
def d6 : FCode:=(.seq (.run (.go (.move (.con (.bool false))) (P 4)::
[])) (.seq (.seq (.run (.go (.move (tm 0)) (P 10)::
.go (.len 0 (tm 10)) (P 11)::
.go (.bin .gtr 3 (tm 11) (.con (.int .i64 (.ofNat 15)))) (P 12)::
[])) (.cond (tm 12) (.seq (.run (.go (.call (.con (.func (.func 17) ⟨[]⟩ ⟨[]⟩)) []) (P 13)::
.go (.move (tm 13)) (P 4)::
[])) .ret) .skip)) (.seq (.run (.go (.move (tm 0)) (P 15)::
.go (.call (.con (.func (.func 38) ⟨[]⟩ ⟨[]⟩)) [tm 15]) (P 16)::
.go (.move (tm 1)) (P 17)::
.go (.call (.con (.func (.func 37) ⟨[]⟩ ⟨[]⟩)) [(tm 16),(tm 17)]) (P 18)::
.go (.move (tm 18)) (P 14)::
.go (.extract (tm 14) 0) (P 19)::
.go (.extract (tm 14) 1) (P 20)::
.go (.move (tm 19)) (P 5)::
.go (.move (tm 20)) (P 6)::
[])) (.seq (.run (.go (.move (.con (.int .i64 (.ofNat 0)))) (P 7)::
.go (.move (.con (.int .i64 (.ofNat 0)))) (P 8)::
[])) (.seq (.seq (.run (.go (.move (tm 0)) (P 21)::
.go (.len 0 (tm 21)) (P 22)::
.go (.bin .gtr 3 (tm 22) (.con (.int .i64 (.ofNat 12)))) (P 23)::
[])) (.cond (tm 23) (.run (.go (.move (.con (.int .i64 (.ofNat 3)))) (P 7)::
[])) .skip)) (.seq (.seq (.run (.go (.move (.con (.int .i64 (.ofNat 0)))) (P 9)::
[])) (.block 0 (.loop (.seq (.seq (.run (.go (.move (tm 9)) (P 24)::
.go (.move (tm 0)) (P 25)::
.go (.len 0 (tm 25)) (P 26)::
.go (.bin .lss 3 (tm 24) (tm 26)) (P 27)::
.go (.move (tm 27)) (P 28)::
.gd (P 28) true (.move (tm 7)) (P 29)::
.gd (P 28) true (.bin .eql 29 (tm 29) (.con (.int .i64 (.ofNat 0)))) (P 30)::
.go (.pick (tm 28) (tm 30) (.con (.bool false))) (P 31)::
[])) (.cond (tm 31) .skip (.exit 0))) (.seq (.block 1 (.seq (.run (.go (.move (tm 0)) (P 34)::
.go (.move (tm 9)) (P 35)::
.go (.indexAddr none 1 (tm 34) (tm 35)) (P 36)::
.go (.load1 (tm 36)) (P 37)::
.go (.call (.con (.func (.func 25) ⟨[]⟩ ⟨[]⟩)) [(tm 37),(.con (.int .i64 (.ofNat 0))),(.con (.int .i64 (.ofNat 10000)))]) (P 38)::
.go (.un .not (tm 38)) (P 39)::
[])) (.cond (tm 39) (.run (.go (.move (.con (.int .i64 (.ofNat 2)))) (P 7)::
[])) (.run (.go (.move (tm 8)) (P 40)::
.go (.move (tm 0)) (P 41)::
.go (.move (tm 9)) (P 42)::
.go (.indexAddr none 1 (tm 41) (tm 42)) (P 43)::
.go (.load1 (tm 43)) (P 44)::
.go (.bin .add 3 (tm 40) (tm 44)) (P 45)::
.go (.move (tm 45)) (P 8)::
[]))))) (.run (.go (.move (tm 9)) (P 32)::
.go (.bin .add 3 (tm 32) (.con (.int .i64 (.ofNat 1)))) (P 33)::
.go (.move (tm 33)) (P 9)::
[]))))))) (.seq (.seq (.run (.go (.move (tm 7)) (P 46)::
.go (.bin .eql 29 (tm 46) (.con (.int .i64 (.ofNat 0)))) (P 47)::
.go (.move (tm 47)) (P 48)::
.gd (P 48) true (.move (tm 1)) (P 49)::
.gd (P 48) true (.call (.con (.func (.func 25) ⟨[]⟩ ⟨[]⟩)) [(tm 49),(.con (.int .i64 (.ofNat 0))),(.con (.int .i64 (.ofNat 100000)))]) (P 50)::
.gd (P 48) true (.un .not (tm 50)) (P 51)::
.go (.pick (tm 48) (tm 51) (.con (.bool false))) (P 52)::
[])) (.cond (tm 52) (.run (.go (.move (.con (.int .i64 (.ofNat 2)))) (P 7)::
[])) .skip)) (.seq (.seq (.run (.go (.move (tm 7)) (P 53)::
.go (.bin .eql 29 (tm 53) (.con (.int .i64 (.ofNat 0)))) (P 54)::
.go (.move (tm 54)) (P 55)::
.gd (P 55) true (.move (tm 8)) (P 56)::
.gd (P 55) true (.bin .eql 3 (tm 56) (.con (.int .i64 (.ofNat 0)))) (P 57)::
.go (.pick (tm 55) (tm 57) (.con (.bool false))) (P 58)::
[])) (.cond (tm 58) (.run (.go (.move (.con (.int .i64 (.ofNat 7)))) (P 7)::
[])) .skip)) (.seq (.seq (.run (.go (.move (tm 7)) (P 59)::
.go (.bin .neq 29 (tm 59) (.con (.int .i64 (.ofNat 0)))) (P 60)::
[])) (.cond (tm 60) (.seq (.run (.go (.move (tm 6)) (P 61)::
.go (.move (tm 7)) (P 62)::
.go (.bin .eql 29 (tm 61) (tm 62)) (P 63)::
.go (.move (tm 63)) (P 64)::
.gd (P 64) true (.move (tm 5)) (P 65)::
.gd (P 64) true (.len 0 (tm 65)) (P 66)::
.gd (P 64) true (.bin .eql 3 (tm 66) (.con (.int .i64 (.ofNat 0)))) (P 67)::
.go (.pick (tm 64) (tm 67) (.con (.bool false))) (P 68)::
.go (.move (tm 68)) (P 69)::
.gd (P 69) true (.call (.con (.func (.func 17) ⟨[]⟩ ⟨[]⟩)) []) (P 70)::
.go (.pick (tm 69) (tm 70) (.con (.bool false))) (P 71)::
.go (.move (tm 71)) (P 4)::
[])) .ret) .skip)) (.seq (.run (.go (.move (tm 6)) (P 72)::
.go (.bin .eql 29 (tm 72) (.con (.int .i64 (.ofNat 0)))) (P 73)::
.go (.move (tm 73)) (P 74)::
.gd (P 74) true (.move (tm 5)) (P 75)::
.gd (P 74) true (.move (tm 0)) (P 76)::
.gd (P 74) true (.move (tm 1)) (P 77)::
.gd (P 74) true (.call (.con (.func (.func 40) ⟨[]⟩ ⟨[]⟩)) [(tm 76),(tm 77)]) (P 78)::
.gd (P 74) true (.call (.con (.func (.func 39) ⟨[]⟩ ⟨[]⟩)) [(tm 75),(tm 78)]) (P 79)::
.go (.pick (tm 74) (tm 79) (.con (.bool false))) (P 80)::
.go (.move (tm 80)) (P 81)::
.gd (P 81) true (.call (.con (.func (.func 17) ⟨[]⟩ ⟨[]⟩)) []) (P 82)::
.go (.pick (tm 81) (tm 82) (.con (.bool false))) (P 83)::
.go (.move (tm 83)) (P 4)::
[])) .ret))))))))))
end Go.Xe.TRX
-- MOD TR
namespace Go.Xe.TRX
open Go Go.Xe Go.Proofs
open Nat renaming reduceLeDiff ->qA, reduceSub ->qB, reduceAdd ->qC, reduceEqDiff ->qD, reduceLT ->qE
open Int renaming reduceNegSucc ->qF, reduceEq ->qG
open Go.Xe.V renaming seq ->sA, block ->sB, scope ->sC, skip ->sD, close ->sE
open Go.Xe renaming pth ->P
open Go.Xe.Rnd
set_option maxRecDepth 100000
set_option maxHeartbeats 3200000
set_option linter.unusedSimpArgs false
def d21 : FCode:=(.seq (.run (.go (.move (.con (.slice none 0 0))) (P 2)::
[])) (.seq (.run (.go (.move (.con (.slice none 0 0))) (P 3)::
[])) (.seq (.seq (.run (.go (.move (.con (.int .i64 (.ofNat 0)))) (P 4)::
[])) (.block 0 (.loop (.seq (.seq (.run (.go (.move (tm 4)) (P 5)::
.go (.move (tm 0)) (P 6)::
.go (.len 0 (tm 6)) (P 7)::
.go (.bin .lss 3 (tm 5) (tm 7)) (P 8)::
[])) (.cond (tm 8) .skip (.exit 0))) (.seq (.block 1 (.run (.go (.move (tm 3)) (P 11)::
.go (.move (tm 0)) (P 12)::
.go (.move (tm 4)) (P 13)::
.go (.indexAddr none 1 (tm 12) (tm 13)) (P 14)::
.go (.load1 (tm 14)) (P 15)::
.go (.call (.con (.func (.func 38) ⟨[]⟩ ⟨[]⟩)) [tm 15]) (P 16)::
.go (.buildSlice 41 1 [(.slice none 0 0)] [(0,1,(tm 16))]) (P 17)::
.go (.append 41 1 24 (tm 11) (tm 17)) (P 18)::
.go (.move (tm 18)) (P 3)::
[]))) (.run (.go (.move (tm 4)) (P 9)::
.go (.bin .add 3 (tm 9) (.con (.int .i64 (.ofNat 1)))) (P 10)::
.go (.move (tm 10)) (P 4)::
[]))))))) (.seq (.run (.go (.move (tm 3)) (P 19)::
.go (.move (tm 19)) (P 2)::
[])) .ret))))
theorem de21 : @compF Try.prog (Gl.none Try.prog) Try.f21 1=.mk d21 (mkTT 20) [(P 0)] [.tmp (P 2)]:=by kernel_rfl
theorem dg21 : Try.prog.funcs[21]?=some Try.f21:=Try.func21
theorem do21 : okF Try.prog Try.f21=true:=by kernel_rfl
def d19 : FCode:=(.seq (.run (.go (.box 25 (tm 0)) (P 1)::
.go (.alloc 33 [(.int .i64 (.ofNat 0)),(.slice none 0 0),(.slice none 0 0)]) (P 2)::
[])) (.seq (.draw 8 (.go (.fieldAddr 0 (tm 1)) (P 6)::
.go (.load1 (tm 6)) (P 7)::
.go (.fieldAddr 1 (tm 1)) (P 8)::
.go (.load1 (tm 8)) (P 9)::
.go (.call (.con (.func (.func 21) ⟨[]⟩ ⟨[]⟩)) [tm 9]) (P 10)::
.go (.build [(.int .i64 (.ofNat 0)),(.slice none 0 0),(.slice none 0 0)] [(0,1,(tm 7)),(1,1,(tm 10))]) (P 11)::
.go (.alloc 33 [(.int .i64 (.ofNat 0)),(.slice none 0 0),(.slice none 0 0)]) (P 3)::
.un (.store 3 (tm 3) (tm 11))::
[]) [.ok,.rd none (.load1 (tm 6)) (some (P 7)) [5],.ok,.ok,.ok,.ok,.nw none (some (P 3)) 6 true,.ok]) (.seq (.seq (.run (.go (.move (.con (.int .i64 (.ofNat 0)))) (P 4)::
[])) (.block 0 (.loop (.seq (.seq (.run (.go (.move (tm 4)) (P 12)::
.go (.fieldAddr 2 (tm 1)) (P 13)::
.go (.load1 (tm 13)) (P 14)::
.go (.len 0 (tm 14)) (P 15)::
.go (.bin .lss 3 (tm 12) (tm 15)) (P 16)::
[])) (.cond (tm 16) .skip (.exit 0))) (.seq (.block 1 (.seq (.run (.go (.fieldAddr 2 (tm 1)) (P 19)::
.go (.load1 (tm 19)) (P 20)::
.go (.move (tm 4)) (P 21)::
.go (.indexAddr none 3 (tm 20) (tm 21)) (P 22)::
.go (.loadN 3 (tm 22)) (P 23)::
.go (.alloc 76 [(.int .i64 (.ofNat 0)),(.int .i64 (.ofNat 0)),(.int .i64 (.ofNat 0))]) (P 5)::
.un (.store 3 (tm 5) (tm 23))::
[])) (.run (.go (.fieldAddr 2 (tm 3)) (P 24)::
.go (.load1 (tm 24)) (P 25)::
.go (.fieldAddr 0 (tm 5)) (P 26)::
.go (.load1 (tm 26)) (P 27)::
.go (.fieldAddr 1 (tm 5)) (P 28)::
.go (.load1 (tm 28)) (P 29)::
.go (.fieldAddr 2 (tm 5)) (P 30)::
.go (.load1 (tm 30)) (P 31)::
.go (.build [(.int .i64 (.ofNat 0)),(.int .i64 (.ofNat 0)),(.int .i64 (.ofNat 0))] [(0,1,(tm 27)),(1,1,(tm 29)),(2,1,(tm 31))]) (P 32)::
.go (.buildSlice 83 1 [(.int .i64 (.ofNat 0)),(.int .i64 (.ofNat 0)),(.int .i64 (.ofNat 0))] [(0,3,(tm 32))]) (P 33)::
.go (.append 83 3 24 (tm 25) (tm 33)) (P 34)::
.go (.fieldAddr 2 (tm 3)) (P 35)::
.un (.store 1 (tm 35) (tm 34))::
[])))) (.run (.go (.move (tm 4)) (P 17)::
.go (.bin .add 3 (tm 17) (.con (.int .i64 (.ofNat 1)))) (P 18)::
.go (.move (tm 18)) (P 4)::
[]))))))) (.seq (.run (.go (.loadN 3 (tm 3)) (P 36)::
.un (.store 3 (tm 2) (tm 36))::
[])) .ret))))
theorem de19 : @compF Try.prog (Gl.none Try.prog) Try.f19 1=.mk d19 (mkTT 37) [(P 0)] [.many (P 2) 3]:=by kernel_rfl
theorem dg19 : Try.prog.funcs[19]?=some Try.f19:=Try.func19
theorem do19 : okF Try.prog Try.f19=true:=by kernel_rfl
abbrev R3:=Int×Int×Int
abbrev r3 (x : R3) : List Value:=[I x.1,I x.2.1,I x.2.2]
structure Tb where
 b : Int
 C : List (List Int)
 F : List R3
structure TV (H : Heap) (c f : Value) (T : Tb) : Prop where
 c : Nest RI H c T.C
 f : Sw 3 H f (T.F.map r3)
theorem TV.grow {A B : Heap} (g : Grow A B) {c f : Value} {T : Tb} (h : TV A c f T) : TV B c f T:=⟨h.c.grow ri g,h.f.grow g⟩
theorem TV.fl {H : Heap} {c f : Value} {T : Tb} (h : TV H c f T) : ∀ X,ylen 0 X f=some (I T.F.length):=by
 intro X
 have:=h.f.len
 rw[List.length_map] at this
 obtain⟨p,n,c,e⟩:=h.f.isS
 subst e
 exact this
theorem TV.fat {H : Heap} {c f : Value} {T : Tb} (h : TV H c f T) {k : Nat} (hk : k<T.F.length) : ∃ p,yindexAddr none 3 f (I k)=some p/\∀ H',Grow H H'->yloadN 3 H' p=some (.agg ⟨r3 T.F[k]⟩):=
 h.f.get (by decide) (x:=r3 T.F[k]) (k:=k) (by simp[hk]) rfl
def sh (T : Tb) : Prop:=T.C.length<=1048576/\(∀ row∈T.C,row.length<=1048576)/\T.F.length<=1048576
theorem ow_ri {H0 H : Heap} {e : TypeId} {v : Value} {l : List Int} (h : Ow H0 H e v (Li l)) : RI H v l:=h.sl
theorem f21_ok {H : Heap} {v : Value} {L : List (List Int)} (h : Nest RI H v L) (hn : L.length<=1048576) (hr : ∀ row∈L,row.length<=1048576) : F Try.prog 21 ⟨[v]⟩ H (λw X=>Grow H X/\OwN (From RI H.next) H X 41 w L):=by
 have hl:=h.len
 refine F.entryL rfl dg21 do21 de21 rfl (by kernel_rfl) ?_
 simp only[sets]
 refine V.re [(0,v)] (N:=20) zE zY ?_
 intro t hF hA
 simp only[Kn,and_true] at hA
 refine zS ?_
 refine V.l0 ?_
 refine zS ?_
 refine V.l0 ?_
 refine zS ?_
 refine V.l0 ?_
 refine zS ?_
 refine V.loop (λz t m X=>∃ (k : Nat) (s : Value),k<=L.length/\z=L.length-k/\m=[]/\Grow H X/\OwN (From RI H.next) H X 41 s (L.take k)/\Full 20 t/\Kn [(0,v),(3,s),(4,I k)] t) L.length ?_ ?_
 ·exact⟨0,_,by omega,by omega,rfl,.refl _,by rw[List.take_zero];exact .nil,zF,zK⟩
 clear hF hA
 rintro z t m X ⟨k,s,hk,rfl,rfl,hg,os,hF,hA⟩
 simp only[Kn,and_true] at hA
 refine zS ?_
 have zf:=@hl
 refine V.lz ?_
 refine zS ?_
 refine V.condP zP (λhlt=>?_) (λhlt=>?_)
 ·have hlt' : k<L.length:=by omega
  obtain⟨p,x,hp,hx⟩:=h.at ri hlt'
  obtain⟨hx1,hx2⟩:=hx _ hg
  have hpk:=hp .i64
  refine zS ?_
  refine V.run ?_
  have zf:=aI @hpk<|@hx1
  refine VI.sz 5 ?_
  simp only[ds]
  refine VI.callR zA (f38_ow hx2 (hr _ (List.getElem_mem hlt'))) zA (λy X1 ⟨g1,o1⟩=>?_)
  have os1:=os.keep (ri.from _) g1
  have hy : From RI H.next X1 y L[k]:=⟨(ow_ri o1),λi hi=>Nat.le_trans hg.1 (o1.from i hi)⟩
  obtain⟨w,X2,e1,e2,e3,e4,e5,e6⟩:=OwN.pushB (ri.from _) (bytes:=24) (Nat.le_trans hg.1 g1.1) os1 hy (os.sepNew (Nat.le_refl _) o1.from) (by rw[List.length_take];omega) (by rw[List.length_take];omega)
  obtain⟨p1,q1,_,_⟩:=sl1 (ri.sl hy.1)
  have zf:=aI @e1<|aI @p1<|@q1
  refine VI.lz ?_
  refine zS ?_
  refine V.l0 ?_
  refine V.nil (Or.inl ⟨rfl,L.length-(k+1),by omega,?_⟩)
  refine⟨k+1,w,by omega,rfl,rfl,e3.grow (hg.trans g1) (Nat.le_refl _),?_,zF,zK⟩
  rw[tk1 hlt']
  exact e2
 ·refine V.exit ?_
  refine zX ?_
  refine V.nil (Or.inr ⟨by simp,?_⟩)
  refine zX ?_
  refine zS ?_
  refine V.l0 ?_
  refine zS ?_
  refine V.ret (V.rets rfl (Lv.retF (by simp +contextual (disch:=first|omega|simp only[nx];omega) only[D1,cells_alloc_at,cells_alloc_ne,cells_set_at,cells_set_ne,yres,yres1,yresL,qA,qB,qC,D5,hF,hA,↓reduceIte,qD,qE];rfl) ?_))
  have e : L.take k=L:=List.take_of_length_le (by omega)
  rw[e] at os
  exact⟨hg,os⟩
theorem r3_w (l : List R3) : ∀ x∈l.map r3,x.length=3:=by
 intro x hx
 obtain⟨y,_,rfl⟩:=List.mem_map.1 hx
 rfl
theorem f19_ok {H : Heap} {c f : Value} {T : Tb} (h : TV H c f T) (hs : sh T) : F Try.prog 19 ⟨[.agg ⟨[I T.b,c,f]⟩]⟩ H (λw Y=>Grow H Y/\∃ c' f',w=.agg ⟨[I T.b,c',f']⟩/\TV Y c' f' T):=by
 obtain⟨s1,s2,s3⟩:=hs
 refine F.entryL rfl dg19 do19 de19 rfl (by kernel_rfl) ?_
 simp only[sets]
 refine V.re [(0,.agg ⟨[I T.b,c,f]⟩)] (N:=37) zE zY ?_
 intro t hF hA
 simp only[Kn,and_true] at hA
 refine zS ?_
 refine V.l0 ?_
 refine V.heap (λX=>Grow H X/\Bx X H.next [I T.b,c,f] 25/\Bx X (H.next+1) [I 0,.slice none 0 0,.slice none 0 0] 33/\H.next+2<=X.next) ⟨?_,?_,?_,?_⟩ ?_
 ·exact zW
 ·exact zB
 ·exact zB
 ·simp only[nx];omega
 rintro H1 ⟨g1,b1,c1,n1⟩
 have h1:=h.grow g1
 refine zS ?_
 refine V.draw ?_
 have zf:=b1.2
 refine VD.nz 4 ?_
 simp only[ds]
 refine VD.callR zA (f21_ok h1.c s1 s2) zA (λv2 H2 ⟨g2,o2⟩=>?_)
 have b2:=b1.grow g2
 have c2:=c1.grow g2
 have m2:=g2.1
 obtain⟨p1,q1,_,_⟩:=sl1 o2.nest.isS
 have zf:=aI @p1<|@q1
 refine VD.dz ?_ ?_ rfl ?_
 ·exact zM
 ·simp only[dcAll,dcOk,wantD,List.cons_append,List.nil_append,true_and,and_true]
  have zf:=aI b1.2<|b2.2
  exact⟨zR,λ_=>⟨_,_,_,rfl,rfl,rfl,(by simp only[D5,hF,hA,↓reduceIte,qD,qE];simp[inBound]),λ_=>⟨_,_,_,cells_alloc _ _ _ _,(by first|exact An_inb|rfl)⟩⟩⟩
 refine V.heap (λX=>Grow H2 X/\Bx X H2.next [I T.b,v2,.slice none 0 0] 33/\H2.next+1=X.next) ⟨?_,?_,?_⟩ ?_
 ·exact zW
 ·exact zB
 ·simp only[nx]
 rintro H3 ⟨g3,e3,n3⟩
 have b3:=b2.grow g3
 have c3:=c2.grow g3
 have hlf:=h.fl
 refine zS ?_
 refine V.l0 ?_
 refine zS ?_
 refine V.loop (λz t m X=>∃ (k : Nat) (s : Value),k<=T.F.length/\z=T.F.length-k/\m=[]/\Grow H2 X/\H3.next<=X.next/\Bx X H2.next [I T.b,v2,s] 33/\OwW 3 H3 X 83 s ((T.F.take k).map r3)/\Full 37 t/\Kn [(1,PT H.next),(2,PT (H.next+1)),(3,PT H2.next),(4,I k)] t) T.F.length ?_ ?_
 ·exact⟨0,_,by omega,by omega,rfl,g3,Nat.le_refl _,e3,.nil,zF,zK⟩
 clear hF hA
 rintro z t m X ⟨k,s,hk,rfl,rfl,hg,hn,ex,os,hF,hA⟩
 simp only[Kn,and_true] at hA
 have bX:=b2.grow hg
 have cX:=c2.grow hg
 have gX:=(g1.trans g2).trans hg
 refine zS ?_
 have zf:=aI bX.2<|@hlf
 refine V.lz ?_
 refine zS ?_
 refine V.condP zP (λhlt=>?_) (λhlt=>?_)
 ·have hlt' : k<T.F.length:=by omega
  obtain⟨p,hp,hx⟩:=h.fat hlt'
  have hx1:=hx X gX
  refine zS ?_
  have zf:=aI bX.2<|aI @hp<|@hx1
  refine V.lz ?_
  refine V.heap (λY=>Grow X Y/\Bx Y X.next (r3 T.F[k]) 76) ⟨?_,?_⟩ ?_
  ·exact zW
  ·exact zB
  rintro Y ⟨gy,by1⟩
  have exY:=ex.grow gy
  have osY:=os.keep gy
  have ly:=exY.1
  have gy1:=gy.1
  obtain⟨u,Z,a1,a2,a3,a4,a5,a6⟩:=OwW.pushB (bytes:=24) (x:=r3 T.F[k]) (by decide) (Nat.le_trans hn gy1) osY (r3_w _) rfl rfl (by rw[List.length_map,List.length_take];omega) (by rw[List.length_map,List.length_take];omega)
  have exZ:=a3.bx exY (by omega)
  have hsS : ∃ p n c,s=.slice p n c:=(os.sw (r3_w _)).isS
  have huS : ∃ p n c,u=.slice p n c:=(a2.sw (by have:=r3_w (T.F.take k++[T.F[k]]);rwa [List.map_append] at this)).isS
  obtain⟨p1',q1',_,r1'⟩:=sl1 huS
  have lz:=exZ.1
  refine zS ?_
  have zf:=aI exY.2<|aI by1.2<|aI @a1<|aI exZ.2<|@r1'
  refine V.lz ?_
  refine V.heap (λW=>Keep H2.next Z W/\Z.next=W.next/\Bx W H2.next [I T.b,v2,u] 33/\∀ i,i≠H2.next->W.get i=Z.get i) ⟨?_,?_,?_,?_⟩ ?_
  ·refine⟨by simp only[nx];omega,λj hj=>?_⟩
   rw[Heap.get_set,if_neg (by omega)]
  ·simp only[nx]
  ·exact zB
  ·intro i hi
   rw[Heap.get_set,if_neg hi]
  rintro W ⟨w1,w2,w3,w4⟩
  refine zS ?_
  refine V.l0 ?_
  refine V.nil (Or.inl ⟨rfl,T.F.length-(k+1),by omega,?_⟩)
  refine⟨k+1,u,hlt',rfl,rfl,?_,by omega,w3,?_,zF,zK⟩
  ·exact w1.grow (((a3.less (by omega)).grow (hg.trans gy) (Nat.le_refl _))) (Nat.le_refl _)
  ·rw[tk1 hlt',List.map_append]
   exact a2.loc (by omega) (λi hi=>w4 i (by omega))
 ·obtain rfl : k=T.F.length:=by omega
  rw[List.take_length] at os
  refine V.exit ?_
  refine zX ?_
  refine V.nil (Or.inr ⟨by simp,?_⟩)
  refine zX ?_
  obtain⟨p3,q3,_,_⟩:=sl1 (os.sw (r3_w _)).isS
  have lx:=ex.1
  have lc:=cX.1
  refine zS ?_
  have zf:=aI ex.2<|aI cX.2<|aI @p1<|@p3
  refine V.lz ?_
  refine V.heap (λW=>X.next=W.next/\Bx W (H.next+1) [I T.b,v2,s] 33/\∀ i,i≠H.next+1->W.get i=X.get i) ⟨?_,?_,?_⟩ ?_
  ·simp only[nx]
  ·exact zB
  ·intro i hi
   rw[Heap.get_set,if_neg hi]
  rintro W ⟨w1,w2,w3⟩
  refine zS ?_
  refine V.ret (V.rets rfl (Lv.retF (by simp +contextual (disch:=first|omega|simp only[nx];omega) only[D1,cells_alloc_at,cells_alloc_ne,cells_set_at,cells_set_ne,yres,yres1,yresL,qA,qB,qC,D5,hF,hA,↓reduceIte,qD,qE,w2.2];rfl) ?_))
  refine⟨⟨by rw[<- w1];exact gX.1,λi hi=>by rw[w3 i (by omega)];exact gX.2 i hi⟩,_,_,rfl,?_,?_⟩
  ·exact ((o2.keep (ri.from _) hg).loc ri (by omega) (λi hi=>w3 i (by omega))).nest.weak (λx r h=>h.1)
  ·exact (os.loc (by omega) (λi hi=>w3 i (by omega))).sw (r3_w _)
end Go.Xe.TRX
end
