/- What the functions of the layer round come to: the best rounding, the number of all, and the ranges (RoundBests). Conditions: none. -/
import Derived.Test.YtimnlnfpblomnaaTTU
import Derived.Test.YtimnlnfpblomnaaZm
import Derived.WideShapes
import Derived.ChangeSame
import Derived.Below
noncomputable section
namespace Go.Xe.TRX
open Go Go.Xe Go.Proofs
open Nat renaming reduceLeDiff ->qA, reduceSub ->qB, reduceAdd ->qC, reduceEqDiff ->qD, reduceLT ->qE
open Int renaming reduceNegSucc ->qF, reduceEq ->qG
open Go.Xe.V renaming seq ->sA, block ->sB, scope ->sC, skip ->sD, close ->sE
open Go.Xe renaming pth ->P
open Go.Xe.Rnd
set_option maxRecDepth 100000
set_option maxHeartbeats 3200000
set_option linter.unusedSimpArgs false
def d4 : FCode:=(.seq (.run (.go (.box 25 (tm 0)) (P 1)::
.go (.move (.con (.bool false))) (P 2)::
[])) (.seq (.seq (.run (.go (.loadN 3 (tm 1)) (P 14)::
.go (.call (.con (.func (.func 15) ⟨[]⟩ ⟨[]⟩)) [tm 14]) (P 15)::
.go (.un .not (tm 15)) (P 16)::
.go (.move (tm 16)) (P 17)::
.gd (P 17) false (.loadN 3 (tm 1)) (P 18)::
.gd (P 17) false (.call (.con (.func (.func 28) ⟨[]⟩ ⟨[]⟩)) [tm 18]) (P 19)::
.gd (P 17) false (.un .not (tm 19)) (P 20)::
.go (.pick (tm 17) (.con (.bool true)) (tm 20)) (P 21)::
[])) (.cond (tm 21) (.seq (.run (.go (.call (.con (.func (.func 17) ⟨[]⟩ ⟨[]⟩)) []) (P 22)::
.go (.move (tm 22)) (P 2)::
[])) .ret) .skip)) (.seq (.run (.go (.loadN 3 (tm 1)) (P 24)::
.go (.call (.con (.func (.func 19) ⟨[]⟩ ⟨[]⟩)) [tm 24]) (P 25)::
.go (.call (.con (.func (.func 29) ⟨[]⟩ ⟨[]⟩)) [tm 25]) (P 26)::
.go (.move (tm 26)) (P 23)::
.go (.extract (tm 23) 0) (P 27)::
.go (.extract (tm 23) 1) (P 28)::
.go (.extract (tm 23) 2) (P 29)::
.go (.move (tm 27)) (P 3)::
.go (.move (tm 28)) (P 4)::
.go (.move (tm 29)) (P 5)::
[])) (.seq (.run (.go (.loadN 3 (tm 1)) (P 31)::
.go (.call (.con (.func (.func 19) ⟨[]⟩ ⟨[]⟩)) [tm 31]) (P 32)::
.go (.call (.con (.func (.func 30) ⟨[]⟩ ⟨[]⟩)) [tm 32]) (P 33)::
.go (.move (tm 33)) (P 30)::
.go (.extract (tm 30) 0) (P 34)::
.go (.extract (tm 30) 1) (P 35)::
.go (.move (tm 34)) (P 6)::
.go (.move (tm 35)) (P 7)::
[])) (.seq (.run (.go (.loadN 3 (tm 1)) (P 37)::
.go (.call (.con (.func (.func 19) ⟨[]⟩ ⟨[]⟩)) [tm 37]) (P 38)::
.go (.call (.con (.func (.func 31) ⟨[]⟩ ⟨[]⟩)) [tm 38]) (P 39)::
.go (.move (tm 39)) (P 36)::
.go (.extract (tm 36) 0) (P 40)::
.go (.extract (tm 36) 1) (P 41)::
.go (.move (tm 40)) (P 8)::
.go (.move (tm 41)) (P 9)::
[])) (.seq (.seq (.run (.go (.loadN 3 (tm 1)) (P 42)::
.go (.call (.con (.func (.func 23) ⟨[]⟩ ⟨[]⟩)) [tm 42]) (P 43)::
.go (.move (tm 43)) (P 10)::
[])) (.seq (.run (.go (.move (tm 10)) (P 44)::
.go (.bin .neq 29 (tm 44) (.con (.int .i64 (.ofNat 0)))) (P 45)::
[])) (.cond (tm 45) (.seq (.run (.go (.move (tm 5)) (P 46)::
.go (.move (tm 10)) (P 47)::
.go (.bin .eql 29 (tm 46) (tm 47)) (P 48)::
.go (.move (tm 48)) (P 49)::
.gd (P 49) true (.move (tm 7)) (P 50)::
.gd (P 49) true (.move (tm 10)) (P 51)::
.gd (P 49) true (.bin .eql 29 (tm 50) (tm 51)) (P 52)::
.go (.pick (tm 49) (tm 52) (.con (.bool false))) (P 53)::
.go (.move (tm 53)) (P 54)::
.gd (P 54) true (.move (tm 9)) (P 55)::
.gd (P 54) true (.move (tm 10)) (P 56)::
.gd (P 54) true (.bin .eql 29 (tm 55) (tm 56)) (P 57)::
.go (.pick (tm 54) (tm 57) (.con (.bool false))) (P 58)::
.go (.move (tm 58)) (P 59)::
.gd (P 59) true (.move (tm 3)) (P 60)::
.gd (P 59) true (.len 0 (tm 60)) (P 61)::
.gd (P 59) true (.move (tm 8)) (P 62)::
.gd (P 59) true (.len 0 (tm 62)) (P 63)::
.gd (P 59) true (.bin .add 3 (tm 61) (tm 63)) (P 64)::
.gd (P 59) true (.bin .eql 3 (tm 64) (.con (.int .i64 (.ofNat 0)))) (P 65)::
.go (.pick (tm 59) (tm 65) (.con (.bool false))) (P 66)::
.go (.move (tm 66)) (P 67)::
.gd (P 67) true (.move (tm 4)) (P 68)::
.gd (P 67) true (.bin .eql 3 (tm 68) (.con (.int .i64 (.ofNat 0)))) (P 69)::
.go (.pick (tm 67) (tm 69) (.con (.bool false))) (P 70)::
.go (.move (tm 70)) (P 71)::
.gd (P 71) true (.move (tm 6)) (P 72)::
.gd (P 71) true (.bin .eql 3 (tm 72) (.con (.int .i64 (.ofNat 0)))) (P 73)::
.go (.pick (tm 71) (tm 73) (.con (.bool false))) (P 74)::
.go (.move (tm 74)) (P 75)::
.gd (P 75) true (.call (.con (.func (.func 17) ⟨[]⟩ ⟨[]⟩)) []) (P 76)::
.go (.pick (tm 75) (tm 76) (.con (.bool false))) (P 77)::
.go (.move (tm 77)) (P 2)::
[])) .ret) .skip))) (.seq (.run (.go (.loadN 3 (tm 1)) (P 78)::
.go (.call (.con (.func (.func 32) ⟨[]⟩ ⟨[]⟩)) [tm 78]) (P 79)::
.go (.alloc 53 [(.int .i64 (.ofNat 0)),(.slice none 0 0),(.int .i64 (.ofNat 0)),(.slice none 0 0)]) (P 11)::
.un (.store 4 (tm 11) (tm 79))::
[])) (.seq (.seq (.run (.go (.move (tm 7)) (P 80)::
.go (.bin .neq 29 (tm 80) (.con (.int .i64 (.ofNat 0)))) (P 81)::
.go (.move (tm 81)) (P 82)::
.gd (P 82) false (.move (tm 6)) (P 83)::
.gd (P 82) false (.fieldAddr 0 (tm 11)) (P 84)::
.gd (P 82) false (.load1 (tm 84)) (P 85)::
.gd (P 82) false (.bin .neq 3 (tm 83) (tm 85)) (P 86)::
.go (.pick (tm 82) (.con (.bool true)) (tm 86)) (P 87)::
[])) (.cond (tm 87) (.seq (.run (.go (.move (.con (.bool false))) (P 2)::
[])) .ret) .skip)) (.seq (.seq (.run (.go (.fieldAddr 0 (tm 11)) (P 88)::
.go (.load1 (tm 88)) (P 89)::
.go (.bin .eql 3 (tm 89) (.con (.int .i64 (.ofNat 0)))) (P 90)::
[])) (.cond (tm 90) (.seq (.run (.go (.move (tm 5)) (P 91)::
.go (.bin .eql 29 (tm 91) (.con (.int .i64 (.ofNat 9)))) (P 92)::
.go (.move (tm 92)) (P 93)::
.gd (P 93) true (.move (tm 9)) (P 94)::
.gd (P 93) true (.bin .eql 29 (tm 94) (.con (.int .i64 (.ofNat 9)))) (P 95)::
.go (.pick (tm 93) (tm 95) (.con (.bool false))) (P 96)::
.go (.move (tm 96)) (P 97)::
.gd (P 97) true (.move (tm 3)) (P 98)::
.gd (P 97) true (.len 0 (tm 98)) (P 99)::
.gd (P 97) true (.move (tm 8)) (P 100)::
.gd (P 97) true (.len 0 (tm 100)) (P 101)::
.gd (P 97) true (.bin .add 3 (tm 99) (tm 101)) (P 102)::
.gd (P 97) true (.bin .eql 3 (tm 102) (.con (.int .i64 (.ofNat 0)))) (P 103)::
.go (.pick (tm 97) (tm 103) (.con (.bool false))) (P 104)::
.go (.move (tm 104)) (P 105)::
.gd (P 105) true (.move (tm 4)) (P 106)::
.gd (P 105) true (.bin .eql 3 (tm 106) (.con (.int .i64 (.ofNat 0)))) (P 107)::
.go (.pick (tm 105) (tm 107) (.con (.bool false))) (P 108)::
.go (.move (tm 108)) (P 109)::
.gd (P 109) true (.call (.con (.func (.func 17) ⟨[]⟩ ⟨[]⟩)) []) (P 110)::
.go (.pick (tm 109) (tm 110) (.con (.bool false))) (P 111)::
.go (.move (tm 111)) (P 2)::
[])) .ret) .skip)) (.seq (.seq (.run (.go (.move (tm 5)) (P 112)::
.go (.bin .neq 29 (tm 112) (.con (.int .i64 (.ofNat 0)))) (P 113)::
.go (.move (tm 113)) (P 114)::
.gd (P 114) false (.move (tm 3)) (P 115)::
.gd (P 114) false (.fieldAddr 1 (tm 11)) (P 116)::
.gd (P 114) false (.load1 (tm 116)) (P 117)::
.gd (P 114) false (.call (.con (.func (.func 33) ⟨[]⟩ ⟨[]⟩)) [(tm 115),(tm 117)]) (P 118)::
.gd (P 114) false (.un .not (tm 118)) (P 119)::
.go (.pick (tm 114) (.con (.bool true)) (tm 119)) (P 120)::
.go (.move (tm 120)) (P 121)::
.gd (P 121) false (.move (tm 4)) (P 122)::
.gd (P 121) false (.fieldAddr 2 (tm 11)) (P 123)::
.gd (P 121) false (.load1 (tm 123)) (P 124)::
.gd (P 121) false (.bin .neq 3 (tm 122) (tm 124)) (P 125)::
.go (.pick (tm 121) (.con (.bool true)) (tm 125)) (P 126)::
.go (.move (tm 126)) (P 127)::
.gd (P 127) false (.move (tm 9)) (P 128)::
.gd (P 127) false (.bin .neq 29 (tm 128) (.con (.int .i64 (.ofNat 0)))) (P 129)::
.go (.pick (tm 127) (.con (.bool true)) (tm 129)) (P 130)::
.go (.move (tm 130)) (P 131)::
.gd (P 131) false (.move (tm 8)) (P 132)::
.gd (P 131) false (.len 0 (tm 132)) (P 133)::
.gd (P 131) false (.fieldAddr 3 (tm 11)) (P 134)::
.gd (P 131) false (.load1 (tm 134)) (P 135)::
.gd (P 131) false (.len 0 (tm 135)) (P 136)::
.gd (P 131) false (.bin .neq 3 (tm 133) (tm 136)) (P 137)::
.go (.pick (tm 131) (.con (.bool true)) (tm 137)) (P 138)::
[])) (.cond (tm 138) (.seq (.run (.go (.move (.con (.bool false))) (P 2)::
[])) .ret) .skip)) (.seq (.seq (.run (.go (.move (.con (.int .i64 (.ofNat 0)))) (P 12)::
[])) (.block 0 (.loop (.seq (.seq (.run (.go (.move (tm 12)) (P 139)::
.go (.move (tm 8)) (P 140)::
.go (.len 0 (tm 140)) (P 141)::
.go (.bin .lss 3 (tm 139) (tm 141)) (P 142)::
[])) (.cond (tm 142) .skip (.exit 0))) (.seq (.block 1 (.seq (.seq (.draw 12 (.go (.move (tm 8)) (P 145)::
.go (.move (tm 12)) (P 146)::
.go (.indexAddr none 1 (tm 145) (tm 146)) (P 147)::
.go (.load1 (tm 147)) (P 148)::
.go (.len 0 (tm 148)) (P 149)::
.go (.fieldAddr 3 (tm 11)) (P 150)::
.go (.load1 (tm 150)) (P 151)::
.go (.move (tm 12)) (P 152)::
.go (.indexAddr none 1 (tm 151) (tm 152)) (P 153)::
.go (.load1 (tm 153)) (P 154)::
.go (.len 0 (tm 154)) (P 155)::
.go (.bin .neq 3 (tm 149) (tm 155)) (P 156)::
[]) [.ok,.ok,.ok,.ok,.ok,.ok,.ok,.ok,.ok,.ok,.ok,.ok]) (.cond (tm 156) (.seq (.run (.go (.move (.con (.bool false))) (P 2)::
[])) .ret) .skip)) (.seq (.run (.go (.move (.con (.int .i64 (.ofNat 0)))) (P 13)::
[])) (.block 2 (.loop (.seq (.seq (.run (.go (.move (tm 13)) (P 157)::
.go (.move (tm 8)) (P 158)::
.go (.move (tm 12)) (P 159)::
.go (.indexAddr none 1 (tm 158) (tm 159)) (P 160)::
.go (.load1 (tm 160)) (P 161)::
.go (.len 0 (tm 161)) (P 162)::
.go (.bin .lss 3 (tm 157) (tm 162)) (P 163)::
[])) (.cond (tm 163) .skip (.exit 2))) (.seq (.block 3 (.seq (.draw 27 (.go (.move (tm 8)) (P 166)::
.go (.move (tm 12)) (P 167)::
.go (.indexAddr none 1 (tm 166) (tm 167)) (P 168)::
.go (.load1 (tm 168)) (P 169)::
.go (.move (tm 13)) (P 170)::
.go (.indexAddr none 2 (tm 169) (tm 170)) (P 171)::
.go (.loadN 2 (tm 171)) (P 172)::
.go (.fieldAddr 3 (tm 11)) (P 173)::
.go (.load1 (tm 173)) (P 174)::
.go (.move (tm 12)) (P 175)::
.go (.indexAddr none 1 (tm 174) (tm 175)) (P 176)::
.go (.load1 (tm 176)) (P 177)::
.go (.move (tm 13)) (P 178)::
.go (.indexAddr none 2 (tm 177) (tm 178)) (P 179)::
.go (.fieldAddr 0 (tm 179)) (P 180)::
.go (.load1 (tm 180)) (P 181)::
.go (.fieldAddr 3 (tm 11)) (P 182)::
.go (.load1 (tm 182)) (P 183)::
.go (.move (tm 12)) (P 184)::
.go (.indexAddr none 1 (tm 183) (tm 184)) (P 185)::
.go (.load1 (tm 185)) (P 186)::
.go (.move (tm 13)) (P 187)::
.go (.indexAddr none 2 (tm 186) (tm 187)) (P 188)::
.go (.fieldAddr 1 (tm 188)) (P 189)::
.go (.load1 (tm 189)) (P 190)::
.go (.call (.con (.func (.func 34) ⟨[]⟩ ⟨[]⟩)) [(tm 181),(tm 190)]) (P 191)::
.go (.bin .neq 59 (tm 172) (tm 191)) (P 192)::
[]) [.ok,.ok,.ok,.rd none (.load1 (tm 168)) (some (P 169)) [26],.ok,.ok,.rd none (.loadN 2 (tm 171)) (some (P 172)) [26],.ok,.ok,.ok,.ok,.ok,.ok,.ok,.ok,.ok,.ok,.ok,.ok,.ok,.ok,.ok,.ok,.ok,.ok,.ok,.ok]) (.cond (tm 192) (.seq (.run (.go (.move (.con (.bool false))) (P 2)::
[])) .ret) .skip))) (.run (.go (.move (tm 13)) (P 164)::
.go (.bin .add 3 (tm 164) (.con (.int .i64 (.ofNat 1)))) (P 165)::
.go (.move (tm 165)) (P 13)::
[]))))))))) (.run (.go (.move (tm 12)) (P 143)::
.go (.bin .add 3 (tm 143) (.con (.int .i64 (.ofNat 1)))) (P 144)::
.go (.move (tm 144)) (P 12)::
[]))))))) (.seq (.run (.go (.call (.con (.func (.func 17) ⟨[]⟩ ⟨[]⟩)) []) (P 193)::
.go (.move (tm 193)) (P 2)::
[])) .ret))))))))))))
theorem de4 : @compF Try.prog (Gl.none Try.prog) Try.f4 1=.mk d4 (mkTT 194) [(P 0)] [.tmp (P 2)]:=by kernel_rfl
theorem dg4 : Try.prog.funcs[4]?=some Try.f4:=Try.func4
theorem do4 : okF Try.prog Try.f4=true:=by kernel_rfl
theorem neq59 {a b : Int} (h1 : 0<=a/\a<=1000000) (h2 : 0<=b/\b<=1000000) : xbinOp Try.prog .neq 59 (.agg ⟨A2 a b⟩) (.agg ⟨A2 a b⟩)=some (.bool false):=by
 have ha:=wf_k (x:=a) (by omega) (by omega)
 have hb:=wf_k (x:=b) (by omega) (by omega)
 have e1 : xbin Try.prog .neq 59 (.agg ⟨A2 a b⟩) (.agg ⟨A2 a b⟩)=none:=rfl
 have e2 : xbinStr .neq (.agg ⟨A2 a b⟩) (.agg ⟨A2 a b⟩)=none:=rfl
 have e3 : xeqNil Try.prog true 59 (.agg ⟨A2 a b⟩) (.agg ⟨A2 a b⟩)=none:=by
  unfold xeqNil
  simp only[Try.underlying59]
 have h4 : keyedB Try.prog 59=true:=by kernel_rfl
 have h5 : Try.prog.eqGuardType Try.prog.depth 59=false:=by kernel_rfl
 unfold xbinOp
 rw[e1,e2]
 simp only[e3]
 unfold xeqAgg
 simp only[Try.underlying59]
 rw[if_pos ⟨h4,rfl,rfl,key59 ha hb,key59 ha hb,h5⟩]
 simp[valEq,cellsEq,cellEq]
theorem ld2 {H : Heap} {i o : Nat} {c : List Value} {el : TypeId} {rw' : Bool} {a b : Value} (hc : H.cellsAt i=some (⟨c⟩,el,rw')) (h1 : c[o]?=some a) (h2 : c[o+1]?=some b) : yloadN 2 H (.pointer (some ⟨i,o,none⟩))=some (.agg ⟨[a,b]⟩):=by
 have hl : o+1<c.length:=(List.getElem?_eq_some_iff.1 h2).1
 have e : (⟨c⟩ : Array Value).extract o (o+2)=⟨[a,b]⟩:=by
  apply Array.toList_inj.1
  apply List.ext_getElem?
  intro j
  rw[List.extract_toArray]
  simp only[List.extract_eq_take_drop]
  rw[List.getElem?_take,List.getElem?_drop]
  rcases j with _|_|j
  ·rw[if_pos (by omega)];simpa using h1
  ·rw[if_pos (by omega)];simpa using h2
  ·rw[if_neg (by omega)];simp
 simp only[yloadN,hc]
 rw[if_pos ⟨by simpa using (by omega : o+2<=c.length),by omega⟩,e]
theorem span_eq {T : Tb} (hv : valid T) (hne : rnds T≠[]) {r k : Nat} {R Q : Nat->Int×Int} (hr : r<T.C.length) (hk : k<cols T) (h : SpR T (inR T) r R) (h2 : MM (cols T) (rnds T) r Q) : R k=Q k/\(0<=(R k).1/\(R k).1<=10100)/\0<=(R k).2/\(R k).2<=10100:=by
 obtain⟨a1,a2,a3⟩:=h k hk
 obtain⟨b1,⟨N1,m1,e1⟩,N2,m2,e2⟩:=h2 k hk
 obtain⟨N0,m0⟩:=List.exists_mem_of_ne_nil _ hne
 have hin : ∀ N∈rnds T,(R k).1<=(N.getD r []).getD k 0/\(N.getD r []).getD k 0<=(R k).2:=λN hN=>a1 _ ⟨N,hN,rfl⟩
 have hlh:=lo_hi hv.1.1 (cell_nn hv r k)
 have hrd:=λN hN=>rnds_rd (T:=T) (N:=N) hN hr hk
 have hbd:=λN hN=>rd_bd hv.1 (cell_bd hv r k) (hrd N hN)
 have c1 : ∃ N∈rnds T,(N.getD r []).getD k 0=(R k).1:=by
  rcases a2 with e|⟨x,⟨N,hN,rfl⟩,e⟩
  ·refine⟨N0,m0,?_⟩
   have q1:=hin N0 m0
   rcases hrd N0 m0 with e3|e3<;>omega
  ·exact⟨N,hN,e⟩
 have c2 : ∃ N∈rnds T,(N.getD r []).getD k 0=(R k).2:=by
  rcases a3 with e|⟨x,⟨N,hN,rfl⟩,e⟩
  ·refine⟨N0,m0,?_⟩
   have q1:=hin N0 m0
   rcases hrd N0 m0 with e3|e3<;>omega
  ·exact⟨N,hN,e⟩
 obtain⟨M1,n1,f1⟩:=c1
 obtain⟨M2,n2,f2⟩:=c2
 have g1:=hin N1 m1
 have g2:=hin N2 m2
 have g3:=b1 M1 n1
 have g4:=b1 M2 n2
 have g5:=hbd M1 n1
 have g6:=hbd M2 n2
 refine⟨Prod.ext (by omega) (by omega),by omega,by omega⟩
theorem rs2 : RP (λH x (l : List (Int×Int))=>RS2 H x l):=RP.ofSw 2 (λl : List (Int×Int)=>l.map λp=>A2 p.1 p.2)
theorem f4_ok {H : Heap} {c f : Value} {T : Tb} (h : TV H c f T) : F Try.prog 4 ⟨[.agg ⟨[I T.b,c,f]⟩]⟩ H (λw _=>w=.bool true):=by
 refine F.entryL rfl dg4 do4 de4 rfl (by kernel_rfl) ?_
 simp only[sets]
 refine V.re [(0,.agg ⟨[I T.b,c,f]⟩)] (N:=194) zE zY ?_
 intro t hF hA
 simp only[Kn,and_true] at hA
 refine zS ?_
 refine V.l0 ?_
 refine V.heap (λX=>Grow H X/\Bx X H.next [I T.b,c,f] 25) ⟨?_,?_⟩ ?_
 ·exact zW
 ·exact zB
 rintro H1 ⟨g1,b1⟩
 refine zS ?_
 have hf15:=λX (g : Grow H X)=>f15_ok (h.grow g)
 by_cases hth : thin T
 ·rw[decide_eq_true hth] at hf15
  have hsh:=thin_sh hth
  refine V.run ?_
  have zf:=b1.2
  refine VI.sz 1 ?_
  simp only[ds]
  refine VI.callA rfl (hf15 _ g1) zA (λH2 g2=>?_)
  have b2:=b1.grow g2
  have g12:=g1.trans g2
  have zf:=b2.2
  refine VI.sz 3 ?_
  simp only[ds]
  refine VI.callAT zG rfl (f28_ok (h.grow g12) hsh) zA (λH3 g3=>?_)
  have b3:=b2.grow g3
  have g13:=g12.trans g3
  refine VI.l0 ?_
  refine zS ?_
  refine V.condP zP (λhfw=>?_) (λhfw=>?_)
  ·refine zS ?_
   refine V.run ?_
   refine VI.callA rfl (f17_ok _) zA (λH4 g4=>?_)
   refine VI.l0 ?_
   refine zS ?_
   refine V.ret (V.rets rfl (Lv.retF (by simp +contextual (disch:=first|omega|simp only[nx];omega) only[D1,cells_alloc_at,cells_alloc_ne,cells_set_at,cells_set_ne,yres,yres1,yresL,qA,qB,qC,D5,hF,hA,↓reduceIte,qD,qE];rfl) ?_))
   rfl
  have hfw' : flt T≠0\/frT T.b T.C<=11:=by
   apply Decidable.by_contra
   intro hh
   exact hfw hh
  refine zS ?_
  refine V.run ?_
  have zf:=b3.2
  refine VI.sz 1 ?_
  simp only[ds]
  refine VI.callR zA (f19_ok (h.grow g13) hsh) zA (λw4 H4 ⟨g4,c4,f4,hw4,tv4⟩=>?_)
  subst hw4
  refine VI.callR zA (f29_ok tv4 hsh) zA (λw5 H5 ⟨g5,u,n,e,hw5,hb5⟩=>?_)
  subst hw5
  have g35:=g4.trans g5
  have g15:=g13.trans g35
  have b5:=b3.grow g35
  obtain⟨pu,nu,cu,rfl⟩ : ∃ a b c,u=.slice a b c:=by
   rcases hb5 with⟨_,rfl,_⟩|⟨_,_,rfl,_⟩|⟨_,_,_,_,hu⟩
   ·exact⟨_,_,_,rfl⟩
   ·exact⟨_,_,_,rfl⟩
   ·exact hu.isS
  refine VI.l0 ?_
  refine zS ?_
  refine V.run ?_
  have zf:=b5.2
  refine VI.sz 1 ?_
  simp only[ds]
  refine VI.callR zA (f19_ok (h.grow g15) hsh) zA (λw6 H6 ⟨g6,c6,f6,hw6,tv6⟩=>?_)
  subst hw6
  refine VI.callA rfl (f30_ok tv6 hsh) zA (λH7 g7=>?_)
  have g57:=g6.trans g7
  have g17:=g15.trans g57
  have b7:=b5.grow g57
  refine VI.l0 ?_
  refine zS ?_
  refine V.run ?_
  have zf:=b7.2
  refine VI.sz 1 ?_
  simp only[ds]
  refine VI.callR zA (f19_ok (h.grow g17) hsh) zA (λw8 H8 ⟨g8,c8,f8,hw8,tv8⟩=>?_)
  subst hw8
  refine VI.callR zA (f31_ok tv8 hsh) zA (λw9 H9 ⟨g9,sp,e9,hw9,hs9⟩=>?_)
  subst hw9
  have g79:=g8.trans g9
  have g19:=g17.trans g79
  have b9:=b7.grow g79
  obtain⟨psp,nsp,csp,esp⟩ : ∃ a b c,sp=.slice a b c:=by
   rcases hs9 with⟨_,rfl,_⟩|⟨_,_,rfl,_⟩|⟨_,_,_,p,rfl,_⟩
   ·exact⟨_,_,_,rfl⟩
   ·exact⟨_,_,_,rfl⟩
   ·exact⟨_,_,_,rfl⟩
  subst esp
  refine VI.l0 ?_
  refine zS ?_
  refine V.run ?_
  have zf:=b9.2
  refine VI.sz 1 ?_
  simp only[ds]
  refine VI.callA rfl (f23_ok (h.grow g19) hsh) zA (λHa ga=>?_)
  have b10:=b9.grow ga
  have g1a:=g19.trans ga
  refine VI.l0 ?_
  by_cases h0 : flt T=0
  ·rw[if_pos h0,h0]
   have hfr : frT T.b T.C<=11:=by
    rcases hfw' with hh|hh
    ·exact absurd h0 hh
    ·exact hh
   obtain⟨hf,hv⟩:=flt_0.1 h0
   refine zS ?_
   refine V.l0 ?_
   refine zS ?_
   refine V.condF zA ?_
   refine zS ?_
   refine V.run ?_
   have zf:=b10.2
   refine VI.sz 1 ?_
   simp only[ds]
   refine VI.callR zA (f32_ok (h.grow g1a) hf hv hfr) zA (λwb Hb ⟨gb,bv,sv,R,hwb,hnb,hsv,hmm⟩=>?_)
   subst hwb
   rw[best_w] at hsv hmm ⊢
   obtain⟨pbv,nbv,cbv,rfl⟩:=hnb.isS
   obtain⟨psv,nsv,csv,rfl⟩:=hsv.isS
   refine VI.l0 ?_
   refine V.heap (λX=>Grow Hb X/\Bx X Hb.next [I (rnds T).length,.slice pbv nbv cbv,I (best T).c,.slice psv nsv csv] 53) ⟨?_,?_⟩ ?_
   ·exact ((Grow.refl Hb).alloc _).set (Nat.le_refl _) _
   ·exact⟨by simp only[Heap.next_set,Heap.next_alloc];omega,cells_set _ _ _ _ _⟩
   rintro Hc ⟨gc,xc⟩
   have gac:=gb.trans gc
   have g1c:=g1a.trans gac
   have hself : (((rnds T).length : Int)=((rnds T).length : Int))=True:=by simp
   have hl0 : ∀ X,ylen 0 X (.slice none 0 0)=some (I 0):=λ_=>rfl
   have hz : ((0 : Nat) : Int)=0:=rfl
   refine zS ?_
   have zf:=xc.2
   refine V.lz ?_
   refine zS ?_
   refine V.condF zA ?_
   refine zS ?_
   have zf:=xc.2
   refine V.lz ?_
   refine zS ?_
   rcases hb5 with⟨hh,_⟩|⟨_,hr0,e1,rfl,rfl⟩|⟨_,hr0,rfl,rfl,hu⟩
   ·exact absurd h0 hh
   ·rcases hs9 with⟨hh,_⟩|⟨_,_,e2,rfl⟩|⟨_,hr1,_⟩
    ·exact absurd h0 hh
    ·simp only[Value.slice.injEq] at e1 e2
     obtain⟨rfl,rfl,rfl⟩:=e1
     obtain⟨rfl,rfl,rfl⟩:=e2
     refine V.condP zP (λhq=>?_) (λhq=>?_)
     ·refine zS ?_
      refine V.run ?_
      have zf:=aI @hl0<|@hz
      refine VI.sz 9 ?_
      simp only[ds]
      have zf:=aI @hl0<|@hz
      refine VI.sz 9 ?_
      simp only[ds]
      have zf:=aI @hl0<|@hz
      refine VI.sz 1 ?_
      simp only[ds]
      refine VI.callAT zG rfl (f17_ok _) zA (λHd gd'=>?_)
      refine VI.l0 ?_
      refine zS ?_
      refine V.ret (V.rets rfl (Lv.retF (by simp +contextual (disch:=first|omega|simp only[nx];omega) only[D1,cells_alloc_at,cells_alloc_ne,cells_set_at,cells_set_ne,yres,yres1,yresL,qA,qB,qC,D5,hF,hA,↓reduceIte,qD,qE];rfl) ?_))
      rfl
     ·exfalso
      rw[hr0] at hq
      exact hq rfl
    ·exact absurd hr0 hr1
   ·rcases hs9 with⟨hh,_⟩|⟨_,hr1,_⟩|⟨_,_,rfl,hsp⟩
    ·exact absurd h0 hh
    ·exact absurd hr1 hr0
    ·have hlp:=List.length_pos_iff.2 hr0
     refine V.condP zP (λhq=>?_) (λhq=>?_)
     ·omega
     have hmb:=best_mem hr0
     have hcb:=(rnds_can hv hmb).1
     have hC5:=hf.1
     have hc4:=cols_le hf
     rw[if_neg (by omega)] at hsv
     have hmm:=hmm (by omega)
     have hlC:=hu.nest.grow ri ((g57.trans g79).trans (ga.trans gac))
     have hbC:=hnb.grow ri gc
     have hsvC:=hsv.grow rs2 gc
     have hspC:=hsp.grow (ga.trans gac)
     obtain⟨pp,hpp,_,hko,hsr⟩:=hspC
     simp only[Value.slice.injEq] at hpp
     obtain⟨rfl,rfl,rfl⟩:=hpp
     obtain⟨lst,hlst⟩ : ∃ lst,lst=rows T pp:=⟨_,rfl⟩
     rw[<- hlst] at hko
     have hl8 : ∀ X,ylen 0 X (.slice (some ⟨pp.po,0,none⟩) T.C.length T.C.length)=some (I T.C.length):=λ_=>rfl
     have hf33:=f33_ok hlC hbC (by have:=hcb.1;omega) (λrow hr=>by have:=(hcb.2 row hr).1;omega)
     rw[decide_eq_true rfl] at hf33
     have hsvl:=hsvC.len
     rw[List.length_map,List.length_range] at hsvl
     refine zS ?_
     refine V.run ?_
     have zf:=xc.2
     refine VI.sz 6 ?_
     simp only[ds]
     refine VI.callAT zG rfl (hf33) zA (λHd gd'=>?_)
     have xd:=xc.grow gd'
     have gcd:=g1c.trans gd'
     refine VI.line' (by simp +contextual (disch:=first|omega|simp only[nx];omega) only[D4,qF,qG,qA,qB,qC,D5,hF,hA,↓reduceIte,qD,qE,xd.2,hsvl,hl8,not_true_eq_false,not_false_eq_true];with_reducible rfl) ?_
     refine zS ?_
     refine V.condF zA ?_
     refine zS ?_
     refine V.l0 ?_
     refine zS ?_
     refine V.loop (λz t m X=>∃ (r : Nat),r<=T.C.length/\z=T.C.length-r/\m=[]/\Grow Hd X/\Full 194 t/\Kn [(8,.slice (some ⟨pp.po,0,none⟩) T.C.length T.C.length),(11,PT Hb.next),(12,I r)] t) T.C.length ?_ ?_
     ·exact⟨0,by omega,by omega,rfl,.refl _,zF,zK⟩
     clear hF hA
     rintro z t m X ⟨r,hr,rfl,rfl,hg,hF,hA⟩
     simp only[Kn,and_true] at hA
     have xX:=xd.grow hg
     have gcX:=gd'.trans hg
     refine zS ?_
     have zf:=@hl8
     refine V.lz ?_
     refine zS ?_
     refine V.condP zP (λhlr=>?_) (λhlr=>?_)
     ·have hr' : r<T.C.length:=by omega
      have koX:=(hko.grow gcX).2
      have hli : lst[r]?=some (.slice (some ⟨pp.pi r,0,none⟩) (cols T) (cols T)):=by rw[hlst];simp[hr']
      have ix1:=own_idx (y:=pp.po) (n:=T.C.length) (c:=T.C.length) hr'
      have hl9 : ∀ X,ylen 0 X (.slice (some ⟨pp.pi r,0,none⟩) (cols T) (cols T))=some (I (cols T)):=λ_=>rfl
      obtain⟨hsr0,hsr1,Rr,hRr,hSp⟩:=hsr r hr'
      obtain⟨cR,cR1,cR2,cR3⟩:=hRr
      have hkl : r<((List.range T.C.length).map λr=>(List.range (cols T)).map (R r)).length:=by simp[hr']
      obtain⟨p,x2,hp,hx2⟩:=hsvC.at rs2 hkl
      have hpk:=hp .i64
      obtain⟨hx21,hx22⟩:=hx2 X gcX
      have erow : ((List.range T.C.length).map λr=>(List.range (cols T)).map (R r))[r]=(List.range (cols T)).map (R r):=by simp
      rw[erow] at hx22
      have hl2 : ∀ Y,ylen 0 Y x2=some (I (cols T)):=by
       intro Y
       have:=hx22.len
       rw[List.length_map,List.length_map,List.length_range] at this
       obtain⟨p',n',c',e'⟩:=hx22.isS
       subst e'
       exact this
      refine zS ?_
      have zf:=aI @koX<|aI @hli<|aI @ix1<|aI @arr_get<|aI xX.2<|aI @hpk<|aI @hx21<|aI @hl2<|@hl9
      refine V.dz ?_ ?_ rfl ?_
      ·exact zM
      ·simp only[dcAll,dcOk,wantD,List.cons_append,List.nil_append,true_and,and_true]
      refine zS ?_
      refine V.condF zA ?_
      refine zS ?_
      refine V.l0 ?_
      refine zS ?_
      refine V.loop (λz t m Y=>∃ (j : Nat),j<=cols T/\z=cols T-j/\m=[]/\Grow Hd Y/\Full 194 t/\Kn [(8,.slice (some ⟨pp.po,0,none⟩) T.C.length T.C.length),(11,PT Hb.next),(12,I r),(13,I j)] t) (cols T) ?_ ?_
      ·exact⟨0,by omega,by omega,rfl,hg,zF,zK⟩
      clear hF hA
      rintro z t m Y ⟨j,hj,rfl,rfl,hgY,hF,hA⟩
      simp only[Kn,and_true] at hA
      have gcY:=gd'.trans hgY
      have koY:=(hko.grow gcY).2
      have xY:=xd.grow hgY
      refine zS ?_
      have zf:=aI @koY<|aI @hli<|aI @ix1<|aI @arr_get<|@hl9
      refine V.lz ?_
      refine zS ?_
      refine V.condP zP (λhlj=>?_) (λhlj=>?_)
      ·have hj' : j<cols T:=by omega
       have cRY : Y.cellsAt (pp.pi r)=some (⟨cR⟩,59,true):=(gcY.cells hsr1).trans cR1
       obtain⟨cr1,cr2⟩:=cR3 j hj'
       have ix2:=idxw (i:=pp.pi r) hj'
       have hld:=ld2 cRY cr1 cr2
       obtain⟨eRQ,q1,q2⟩:=span_eq hv hr0 hr' hj' hSp (hmm r hr')
       obtain⟨hy1,hy2⟩:=hx2 Y gcY
       rw[erow] at hy2
       obtain⟨i0,o0,hp3,hx3⟩:=hy2.at2 (w:=2) (by decide) (k:=j) (x:=A2 (R r j).1 (R r j).2) (by rw[List.getElem?_map,List.getElem?_map,List.getElem?_range hj'];rfl)
       have hp3k:=hp3 .i64
       have l0 : yload1 Y (.pointer (some ⟨i0,o0,none⟩))=some (I (R r j).1):=(hx3 Y (.refl _)).2 0 _ rfl
       have l1:=(hx3 Y (.refl _)).2 1 _ rfl
       rw[<- eRQ] at l0 l1
       have hne:=neq59 (a:=(Rr j).1) (b:=(Rr j).2) (by omega) (by omega)
       refine zS ?_
       refine V.draw ?_
       have zf:=aI @koY<|aI @hli<|aI @ix1<|aI @arr_get<|aI @ix2<|aI @hld<|aI xY.2<|aI @hpk<|aI @hy1<|aI @hp3k<|aI @l0<|@l1
       refine VD.nz 9 ?_
       simp only[ds]
       have zf:=aI @koY<|aI @hli<|aI @ix1<|aI @arr_get<|aI @ix2<|aI @hld<|aI xY.2<|aI @hpk<|aI @hy1<|aI @hp3k<|aI @l0<|@l1
       refine VD.nz 9 ?_
       simp only[ds]
       have zf:=aI @koY<|aI @hli<|aI @ix1<|aI @arr_get<|aI @ix2<|aI @hld<|aI xY.2<|aI @hpk<|aI @hy1<|aI @hp3k<|aI @l0<|@l1
       refine VD.nz 7 ?_
       simp only[ds]
       refine VD.callA zA (f34_ok (Rr j).1 (Rr j).2 _) zA (λYz gz=>?_)
       have koZ:=((hko.grow gcY).grow gz).2
       have cRZ : Yz.cellsAt (pp.pi r)=some (⟨cR⟩,59,true):=(gz.cells (by have:=gcY.1;omega)).trans cRY
       have hldZ:=ld2 cRZ cr1 cr2
       have mz:=gz.1
       have zf:=@hne
       refine VD.dz ?_ ?_ rfl ?_
       ·exact zM
       ·simp only[dcAll,dcOk,wantD,List.cons_append,List.nil_append,true_and,and_true]
        have zf:=aI @koY<|aI @koZ<|aI @hli<|aI @arr_get<|aI @hld<|@hldZ
        exact⟨zR,zR⟩
       refine zS ?_
       refine V.condF zA ?_
       refine zS ?_
       refine V.l0 ?_
       refine V.nil (Or.inl ⟨rfl,cols T-(j+1),by omega,?_⟩)
       exact⟨j+1,hj',rfl,rfl,hgY.trans gz,zF,zK⟩
      ·obtain rfl : j=cols T:=by omega
       refine V.exit ?_
       refine zX ?_
       refine V.nil (Or.inr ⟨by simp,?_⟩)
       refine zX ?_
       refine zS ?_
       refine V.l0 ?_
       refine V.nil (Or.inl ⟨rfl,T.C.length-(r+1),by omega,?_⟩)
       exact⟨r+1,hr',rfl,rfl,hgY,zF,zK⟩
     ·refine V.exit ?_
      refine zX ?_
      refine V.nil (Or.inr ⟨by simp,?_⟩)
      refine zX ?_
      refine zS ?_
      refine V.run ?_
      refine VI.callA rfl (f17_ok _) zA (λHe ge=>?_)
      refine VI.l0 ?_
      refine zS ?_
      refine V.ret (V.rets rfl (Lv.retF (by simp +contextual (disch:=first|omega|simp only[nx];omega) only[D1,cells_alloc_at,cells_alloc_ne,cells_set_at,cells_set_ne,yres,yres1,yresL,qA,qB,qC,D5,hF,hA,↓reduceIte,qD,qE];rfl) ?_))
      rfl
  ·rw[if_neg h0]
   rcases hb5 with⟨_,e1,rfl,rfl⟩|⟨hh,_⟩|⟨hh,_⟩
   ·rcases hs9 with⟨_,e2,rfl⟩|⟨hh,_⟩|⟨hh,_⟩
    ·simp only[Value.slice.injEq] at e1 e2
     obtain⟨rfl,rfl,rfl⟩:=e1
     obtain⟨rfl,rfl,rfl⟩:=e2
     refine zS ?_
     refine V.l0 ?_
     refine zS ?_
     refine V.condP zP (λhq=>?_) (λhq=>?_)
     ·have hl0 : ∀ X,ylen 0 X (.slice none 0 0)=some (I 0):=λ_=>rfl
      have hz : ((0 : Nat) : Int)=0:=rfl
      refine zS ?_
      refine V.run ?_
      have zf:=aI @hl0<|@hz
      refine VI.sz 9 ?_
      simp only[ds]
      have zf:=aI @hl0<|@hz
      refine VI.sz 9 ?_
      simp only[ds]
      have zf:=aI @hl0<|@hz
      refine VI.sz 9 ?_
      simp only[ds]
      have zf:=aI @hl0<|@hz
      refine VI.sz 3 ?_
      simp only[ds]
      refine VI.callAT zG rfl (f17_ok _) zA (λHb gb=>?_)
      refine VI.l0 ?_
      refine zS ?_
      refine V.ret (V.rets rfl (Lv.retF (by simp +contextual (disch:=first|omega|simp only[nx];omega) only[D1,cells_alloc_at,cells_alloc_ne,cells_set_at,cells_set_ne,yres,yres1,yresL,qA,qB,qC,D5,hF,hA,↓reduceIte,qD,qE];rfl) ?_))
      rfl
     ·exact absurd (Decidable.not_not.1 hq) h0
    ·exact absurd hh h0
    ·exact absurd hh h0
   ·exact absurd hh h0
   ·exact absurd hh h0
 ·rw[decide_eq_false hth] at hf15
  refine V.run ?_
  have zf:=b1.2
  refine VI.sz 1 ?_
  simp only[ds]
  refine VI.callA rfl (hf15 _ g1) zA (λH2 g2=>?_)
  have b2:=b1.grow g2
  refine VI.s0 3 ?_
  simp only[ds]
  refine VI.gdF zG ?_
  refine VI.l0 ?_
  refine zS ?_
  refine V.condT zA ?_
  refine zS ?_
  refine V.run ?_
  refine VI.callA rfl (f17_ok _) zA (λH4 g4=>?_)
  refine VI.l0 ?_
  refine zS ?_
  refine V.ret (V.rets rfl (Lv.retF (by simp +contextual (disch:=first|omega|simp only[nx];omega) only[D1,cells_alloc_at,cells_alloc_ne,cells_set_at,cells_set_ne,yres,yres1,yresL,qA,qB,qC,D5,hF,hA,↓reduceIte,qD,qE];rfl) ?_))
  rfl
end Go.Xe.TRX
namespace Go.Xe
open Go Go.RowKit Go.ChangeShapes Go.WideShapes
theorem okWide_agg {P : Program} {w : World} {r : Reach} {base : Nat} {t : TypeId} {v : Value} {fs : Array Field} (ht : P.underlying t=some (.struct fs)) (h : Value.okWide P w r base t v) : ∃ cs,v=.agg cs:=by
 unfold Value.okWide at h
 rw[ht] at h
 obtain⟨cs,h,_⟩:=h
 exact⟨cs,h⟩
variable {H : Type} {enc : TypeId×Value->H} {P : Program}
theorem post_of_old {f : Func} {s : ChangeSpec} {apart fresh handsOn again : Bool} {W W' : World} {args : Array Value} {v : Value} {ds gs : List (DataW H)} {before pa pv : List MemPlace}
  (hW : DataW.Whole enc P f.params.toList s.vars apart W args.toList ds gs before)
  (hres : ∀ (b : Nat) (sp : Nat->Bool) (hd : Bool),DataW.TrodAll enc P W' b sp hd f.resultTypes.toList (v.resultList f.resultTypes.size) (s.fn H (ds++gs)).results [])
  (hargs : ∀ sp : Nat->Bool,(∀ p∈before,sp p.block=true)->DataW.TrodAll enc P W' 0 sp true f.params.toList args.toList (s.fn H (ds++gs)).args pa)
  (hvars : ∀ sp : Nat->Bool,(∀ p∈before,sp p.block=true)->DataW.TrodVars enc P W' sp s.vars (s.fn H (ds++gs)).vars pv)
  (hps : before=pa++pv) (hk : W.keptBut W' (·∈before)) (hfz : ∀ a : Addr,a.block<W.heap.size->W'.frozen? a=W.frozen? a)
  (hok : ∀ (j : Nat) (t : TypeId) (r : Value),f.resultTypes[j]?=some t->(v.resultList f.resultTypes.size)[j]?=some r->Value.okWide P W' .any 0 t r) :
  s.post enc P f apart fresh handsOn again W args v W':=by
 have old : ∀ p∈before,p.block<W.heap.size:=λp hp=>hW.lt p hp
 have hold : ∀ p∈before,(λb=>decide (b<W.heap.size)) p.block=true:=λp hp=>by simpa using old p hp
 subst hps
 refine⟨ds,gs,_,[],pa,pv,hW,hres _ _ _,hargs _ hold,hvars _ hold,World.keptBut_mono (λp hp=>⟨hp,.inr (List.mem_append.1 hp)⟩) hk,λ_=>?_⟩
 obtain⟨_,_,_,_,_,hz,hn⟩:=hW
 refine⟨hok,_,_,([]++pa)++pv,⟨[]++pa,pv,trodAll_append (hargs _ (λ_ _=>rfl)) (hres _ _ _),hvars _ (λ_ _=>rfl),rfl,?_,?_⟩,?_⟩
 ·intro b off hp
  have hp' : MemPlace.cell b off∈pa++pv:=by simpa using hp
  rw[hfz _ (old _ hp')]
  exact hz b off hp'
 ·intro ha
  simpa using hn ha
 ·intro p hp _
  simpa using hp
end Go.Xe
end
