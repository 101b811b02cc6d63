/- What the functions of the layer seat come to: IsResult, and SeatProves. Conditions: none. -/
import Derived.Test.YtelfbgmhleneiaaTUR
import Derived.Test.YtelfbgmhleneiaaTUB
-- MOD TV
namespace Go.Xe.TVX
open Go Go.Xe Go.Proofs
open Nat renaming reduceLeDiff → qA, reduceSub → qB, reduceAdd → qC, reduceEqDiff → qD, reduceLT → qE
open Int renaming reduceNegSucc → qF, reduceEq → qG
open Go.Xe.V renaming seq → sA, block → sB, scope → sC, skip → sD, close → sE
open Go.Xe renaming pth → P
open Go.Xe.Sea
set_option maxRecDepth 100000
set_option maxHeartbeats 3200000
set_option linter.unusedSimpArgs false
noncomputable def d4 : FCode:=(.seq (.run (.go (.box 23 (tm 0)) (P 3)::
.go (.move (.con (.bool false))) (P 6)::
[])) (.seq (.seq (.run (.go (.move (tm 1)) (P 8)::
.go (.len 0 (tm 8)) (P 9)::
.go (.bin .gtr 3 (tm 9) (.con (.int .i64 (.ofNat 11)))) (P 10)::
.go (.move (tm 10)) (P 11)::
.gd (P 11) false (.move (tm 2)) (P 12)::
.gd (P 11) false (.len 0 (tm 12)) (P 13)::
.gd (P 11) false (.bin .gtr 3 (tm 13) (.con (.int .i64 (.ofNat 11)))) (P 14)::
.go (.pick (tm 11) (.con (.bool true)) (tm 14)) (P 15)::
[])) (.cond (tm 15) (.seq (.run (.go (.call (.con (.func (.func 20) ⟨[]⟩ ⟨[]⟩)) []) (P 16)::
.go (.move (tm 16)) (P 6)::
[])) .ret) .skip)) (.seq (.run (.go (.loadN 3 (tm 3)) (P 17)::
.go (.call (.con (.func (.func 22) ⟨[]⟩ ⟨[]⟩)) [tm 17]) (P 18)::
.go (.move (tm 1)) (P 19)::
.go (.call (.con (.func (.func 24) ⟨[]⟩ ⟨[]⟩)) [tm 19]) (P 20)::
.go (.move (tm 2)) (P 21)::
.go (.call (.con (.func (.func 24) ⟨[]⟩ ⟨[]⟩)) [tm 21]) (P 22)::
.go (.call (.con (.func (.func 29) ⟨[]⟩ ⟨[]⟩)) [(tm 18),(tm 20),(tm 22)]) (P 23)::
.go (.move (tm 23)) (P 7)::
[])) (.seq (.run (.go (.move (tm 7)) (P 24)::
.go (.loadN 3 (tm 3)) (P 25)::
.go (.move (tm 1)) (P 26)::
.go (.call (.con (.func (.func 25) ⟨[]⟩ ⟨[]⟩)) [(tm 25),(tm 26)]) (P 27)::
.go (.bin .eql 26 (tm 27) (.con (.int .i64 (.ofNat 0)))) (P 28)::
.go (.move (tm 28)) (P 29)::
.gd (P 29) true (.loadN 3 (tm 3)) (P 30)::
.gd (P 29) true (.move (tm 1)) (P 31)::
.gd (P 29) true (.move (tm 2)) (P 32)::
.gd (P 29) true (.call (.con (.func (.func 30) ⟨[]⟩ ⟨[]⟩)) [(tm 30),(tm 31),(tm 32)]) (P 33)::
.go (.pick (tm 29) (tm 33) (.con (.bool false))) (P 34)::
.go (.bin .eql 4 (tm 24) (tm 34)) (P 35)::
.go (.move (tm 35)) (P 36)::
.gd (P 36) true (.call (.con (.func (.func 20) ⟨[]⟩ ⟨[]⟩)) []) (P 37)::
.go (.pick (tm 36) (tm 37) (.con (.bool false))) (P 38)::
.go (.move (tm 38)) (P 6)::
[])) .ret))))
theorem otc_hi {m S : Int} {v : Nat→Int} (hv : vok v) (hS : 0≤S∧S≤61) (hv8 : ∀ p,¬ p<8→v p=0) (p : Nat) : 0≤(otc m S v).1 p∧(otc m S v).2 p≤S:=by
 have F0:=otc_fin (m:=m) hv hS hv8
 have hbd:=Fin.bd F0 hS.1
 refine⟨(hbd.1 p).1,?_⟩
 rcases F0.2 with⟨_,_,e⟩|⟨_,_,e⟩|⟨_,e1,_,e⟩
 ·rw[e];exact (hbd.1 p).2
 ·rw[e];exact (hbd.1 p).2
 ·have:=hbd.2.1 p
  by_cases hp : p<8
  ·have:=sm_each F0.1.nn hp
   omega
  ·rw[e];unfold Sea.up;rw[if_neg (fun k=>hp (mem_tp.1 k).1)];exact (hbd.1 p).2
end Go.Xe.TVX
/- What the functions of the layer seat come to: SeatNext. Conditions: none. -/
-- MOD TV
namespace Go.Xe.TVX
open Go Go.Xe Go.Proofs
open Nat renaming reduceLeDiff → qA, reduceSub → qB, reduceAdd → qC, reduceEqDiff → qD, reduceLT → qE
open Int renaming reduceNegSucc → qF, reduceEq → qG
open Go.Xe.V renaming seq → sA, block → sB, scope → sC, skip → sD, close → sE
open Go.Xe renaming pth → P
open Go.Xe.Sea
set_option maxRecDepth 100000
set_option maxHeartbeats 3200000
set_option linter.unusedSimpArgs false
noncomputable def d5 : FCode:=(.seq (.run (.go (.box 23 (tm 0)) (P 2)::
.go (.move (.con (.bool false))) (P 4)::
[])) (.seq (.seq (.run (.go (.move (tm 1)) (P 17)::
.go (.len 0 (tm 17)) (P 18)::
.go (.bin .gtr 3 (tm 18) (.con (.int .i64 (.ofNat 11)))) (P 19)::
[])) (.cond (tm 19) (.seq (.run (.go (.call (.con (.func (.func 20) ⟨[]⟩ ⟨[]⟩)) []) (P 20)::
.go (.move (tm 20)) (P 4)::
[])) .ret) .skip)) (.seq (.run (.go (.loadN 3 (tm 2)) (P 22)::
.go (.call (.con (.func (.func 22) ⟨[]⟩ ⟨[]⟩)) [tm 22]) (P 23)::
.go (.move (tm 1)) (P 24)::
.go (.call (.con (.func (.func 24) ⟨[]⟩ ⟨[]⟩)) [tm 24]) (P 25)::
.go (.call (.con (.func (.func 31) ⟨[]⟩ ⟨[]⟩)) [(tm 23),(tm 25)]) (P 26)::
.go (.move (tm 26)) (P 21)::
.go (.extract (tm 21) 0) (P 27)::
.go (.extract (tm 21) 1) (P 28)::
.go (.move (tm 27)) (P 5)::
.go (.move (tm 28)) (P 6)::
[])) (.seq (.run (.go (.loadN 3 (tm 2)) (P 30)::
.go (.call (.con (.func (.func 22) ⟨[]⟩ ⟨[]⟩)) [tm 30]) (P 31)::
.go (.move (tm 1)) (P 32)::
.go (.call (.con (.func (.func 24) ⟨[]⟩ ⟨[]⟩)) [tm 32]) (P 33)::
.go (.call (.con (.func (.func 32) ⟨[]⟩ ⟨[]⟩)) [(tm 31),(tm 33)]) (P 34)::
.go (.move (tm 34)) (P 29)::
.go (.extract (tm 29) 0) (P 35)::
.go (.extract (tm 29) 1) (P 36)::
.go (.move (tm 35)) (P 7)::
.go (.move (tm 36)) (P 8)::
[])) (.seq (.run (.go (.loadN 3 (tm 2)) (P 37)::
.go (.move (tm 1)) (P 38)::
.go (.call (.con (.func (.func 25) ⟨[]⟩ ⟨[]⟩)) [(tm 37),(tm 38)]) (P 39)::
.go (.move (tm 39)) (P 9)::
[])) (.seq (.seq (.run (.go (.move (tm 9)) (P 40)::
.go (.bin .neq 26 (tm 40) (.con (.int .i64 (.ofNat 0)))) (P 41)::
[])) (.cond (tm 41) (.seq (.run (.go (.move (tm 6)) (P 42)::
.go (.move (tm 9)) (P 43)::
.go (.bin .eql 26 (tm 42) (tm 43)) (P 44)::
.go (.move (tm 44)) (P 45)::
.gd (P 45) true (.move (tm 8)) (P 46)::
.gd (P 45) true (.move (tm 9)) (P 47)::
.gd (P 45) true (.bin .eql 26 (tm 46) (tm 47)) (P 48)::
.go (.pick (tm 45) (tm 48) (.con (.bool false))) (P 49)::
.go (.move (tm 49)) (P 50)::
.gd (P 50) true (.move (tm 5)) (P 51)::
.gd (P 50) true (.bin .eql 3 (tm 51) (.con (.int .i64 (.ofNat 0)))) (P 52)::
.go (.pick (tm 50) (tm 52) (.con (.bool false))) (P 53)::
.go (.move (tm 53)) (P 54)::
.gd (P 54) true (.move (tm 7)) (P 55)::
.gd (P 54) true (.bin .eql 3 (tm 55) (.con (.int .i64 (.ofNat 0)))) (P 56)::
.go (.pick (tm 54) (tm 56) (.con (.bool false))) (P 57)::
.go (.move (tm 57)) (P 58)::
.gd (P 58) true (.call (.con (.func (.func 20) ⟨[]⟩ ⟨[]⟩)) []) (P 59)::
.go (.pick (tm 58) (tm 59) (.con (.bool false))) (P 60)::
.go (.move (tm 60)) (P 4)::
[])) .ret) .skip)) (.seq (.run (.go (.loadN 3 (tm 2)) (P 62)::
.go (.move (tm 1)) (P 63)::
.go (.call (.con (.func (.func 27) ⟨[]⟩ ⟨[]⟩)) [(tm 62),(tm 63)]) (P 64)::
.go (.move (tm 64)) (P 61)::
.go (.extract (tm 61) 0) (P 65)::
.go (.extract (tm 61) 1) (P 66)::
.go (.move (tm 65)) (P 10)::
.go (.move (tm 66)) (P 11)::
[])) (.seq (.run (.go (.loadN 3 (tm 2)) (P 68)::
.go (.call (.con (.func (.func 33) ⟨[]⟩ ⟨[]⟩)) [tm 68]) (P 69)::
.go (.move (tm 1)) (P 70)::
.go (.call (.con (.func (.func 27) ⟨[]⟩ ⟨[]⟩)) [(tm 69),(tm 70)]) (P 71)::
.go (.move (tm 71)) (P 67)::
.go (.extract (tm 67) 0) (P 72)::
.go (.extract (tm 67) 1) (P 73)::
.go (.move (tm 72)) (P 12)::
.go (.move (tm 73)) (P 13)::
[])) (.seq (.run (.go (.move (.con (.int .i64 (.negSucc 0)))) (P 14)::
.go (.move (.con (.int .i64 (.negSucc 0)))) (P 15)::
[])) (.seq (.seq (.run (.go (.move (tm 1)) (P 74)::
.go (.len 0 (tm 74)) (P 75)::
.go (.bin .sub 3 (tm 75) (.con (.int .i64 (.ofNat 1)))) (P 76)::
.go (.move (tm 76)) (P 16)::
[])) (.block 0 (.loop (.seq (.seq (.run (.go (.move (tm 16)) (P 77)::
.go (.bin .geq 3 (tm 77) (.con (.int .i64 (.ofNat 0)))) (P 78)::
.go (.move (tm 78)) (P 79)::
.gd (P 79) true (.move (tm 11)) (P 80)::
.go (.pick (tm 79) (tm 80) (.con (.bool false))) (P 81)::
.go (.move (tm 81)) (P 82)::
.gd (P 82) true (.move (tm 13)) (P 83)::
.go (.pick (tm 82) (tm 83) (.con (.bool false))) (P 84)::
[])) (.cond (tm 84) .skip (.exit 0))) (.seq (.block 1 (.seq (.seq (.draw 9 (.go (.move (tm 12)) (P 87)::
.go (.move (tm 16)) (P 88)::
.go (.indexAddr none 1 (tm 87) (tm 88)) (P 89)::
.go (.load1 (tm 89)) (P 90)::
.go (.move (tm 10)) (P 91)::
.go (.move (tm 16)) (P 92)::
.go (.indexAddr none 1 (tm 91) (tm 92)) (P 93)::
.go (.load1 (tm 93)) (P 94)::
.go (.bin .gtr 3 (tm 90) (tm 94)) (P 95)::
[]) [.ok,.ok,.ok,.ok,.ok,.ok,.ok,.ok,.ok]) (.cond (tm 95) (.run (.go (.move (tm 16)) (P 96)::
.go (.move (tm 96)) (P 14)::
[])) .skip)) (.seq (.draw 9 (.go (.move (tm 12)) (P 97)::
.go (.move (tm 16)) (P 98)::
.go (.indexAddr none 1 (tm 97) (tm 98)) (P 99)::
.go (.load1 (tm 99)) (P 100)::
.go (.move (tm 10)) (P 101)::
.go (.move (tm 16)) (P 102)::
.go (.indexAddr none 1 (tm 101) (tm 102)) (P 103)::
.go (.load1 (tm 103)) (P 104)::
.go (.bin .lss 3 (tm 100) (tm 104)) (P 105)::
[]) [.ok,.ok,.ok,.ok,.ok,.ok,.ok,.ok,.ok]) (.cond (tm 105) (.run (.go (.move (tm 16)) (P 106)::
.go (.move (tm 106)) (P 15)::
[])) .skip)))) (.run (.go (.move (tm 16)) (P 85)::
.go (.bin .sub 3 (tm 85) (.con (.int .i64 (.ofNat 1)))) (P 86)::
.go (.move (tm 86)) (P 16)::
[]))))))) (.seq (.block 2 (.seq (.run (.go (.move (tm 11)) (P 115)::
.go (.un .not (tm 115)) (P 116)::
.go (.move (tm 116)) (P 117)::
.gd (P 117) false (.move (tm 13)) (P 118)::
.gd (P 117) false (.un .not (tm 118)) (P 119)::
.go (.pick (tm 117) (.con (.bool true)) (tm 119)) (P 120)::
.go (.move (tm 120)) (P 114)::
[])) (.cond (tm 114) (.seq (.run (.go (.move (tm 8)) (P 121)::
.go (.bin .neq 26 (tm 121) (.con (.int .i64 (.ofNat 10)))) (P 122)::
.go (.move (tm 122)) (P 123)::
.gd (P 123) false (.move (tm 7)) (P 124)::
.gd (P 123) false (.bin .neq 3 (tm 124) (.con (.int .i64 (.ofNat 0)))) (P 125)::
.go (.pick (tm 123) (.con (.bool true)) (tm 125)) (P 126)::
[])) (.cond (tm 126) (.seq (.run (.go (.move (.con (.bool false))) (P 4)::
[])) .ret) .skip)) (.seq (.run (.go (.move (tm 15)) (P 128)::
.go (.bin .lss 3 (tm 128) (.con (.int .i64 (.ofNat 0)))) (P 129)::
.go (.move (tm 129)) (P 127)::
[])) (.cond (tm 127) (.seq (.run (.go (.move (tm 8)) (P 130)::
.go (.bin .neq 26 (tm 130) (.con (.int .i64 (.ofNat 7)))) (P 131)::
.go (.move (tm 131)) (P 132)::
.gd (P 132) false (.move (tm 7)) (P 133)::
.gd (P 132) false (.bin .neq 3 (tm 133) (.con (.int .i64 (.ofNat 0)))) (P 134)::
.go (.pick (tm 132) (.con (.bool true)) (tm 134)) (P 135)::
[])) (.cond (tm 135) (.seq (.run (.go (.move (.con (.bool false))) (P 4)::
[])) .ret) .skip)) (.seq (.run (.go (.move (tm 8)) (P 107)::
.go (.bin .neq 26 (tm 107) (.con (.int .i64 (.ofNat 0)))) (P 108)::
.go (.move (tm 108)) (P 109)::
.gd (P 109) false (.move (tm 7)) (P 110)::
.gd (P 109) false (.move (tm 15)) (P 111)::
.gd (P 109) false (.bin .neq 3 (tm 110) (tm 111)) (P 112)::
.go (.pick (tm 109) (.con (.bool true)) (tm 112)) (P 113)::
[])) (.cond (tm 113) (.seq (.run (.go (.move (.con (.bool false))) (P 4)::
[])) .ret) .skip))))))) (.seq (.block 3 (.seq (.run (.go (.fieldAddr 0 (tm 2)) (P 137)::
.go (.load1 (tm 137)) (P 138)::
.go (.bin .eql 5 (tm 138) (.con (.int .u8 (.ofNat 5)))) (P 139)::
.go (.move (tm 139)) (P 136)::
[])) (.cond (tm 136) (.seq (.run (.go (.move (tm 6)) (P 140)::
.go (.bin .eql 26 (tm 140) (.con (.int .i64 (.ofNat 8)))) (P 141)::
.go (.move (tm 141)) (P 142)::
.gd (P 142) true (.move (tm 5)) (P 143)::
.gd (P 142) true (.bin .eql 3 (tm 143) (.con (.int .i64 (.ofNat 0)))) (P 144)::
.go (.pick (tm 142) (tm 144) (.con (.bool false))) (P 145)::
.go (.move (tm 145)) (P 146)::
.gd (P 146) true (.call (.con (.func (.func 20) ⟨[]⟩ ⟨[]⟩)) []) (P 147)::
.go (.pick (tm 146) (tm 147) (.con (.bool false))) (P 148)::
.go (.move (tm 148)) (P 4)::
[])) .ret) (.seq (.run (.go (.loadN 3 (tm 2)) (P 150)::
.go (.move (tm 1)) (P 151)::
.go (.call (.con (.func (.func 34) ⟨[]⟩ ⟨[]⟩)) [(tm 150),(tm 151)]) (P 152)::
.go (.un .not (tm 152)) (P 153)::
.go (.move (tm 153)) (P 149)::
[])) (.cond (tm 149) (.seq (.run (.go (.move (tm 6)) (P 154)::
.go (.bin .eql 26 (tm 154) (.con (.int .i64 (.ofNat 7)))) (P 155)::
.go (.move (tm 155)) (P 156)::
.gd (P 156) true (.move (tm 5)) (P 157)::
.gd (P 156) true (.bin .eql 3 (tm 157) (.con (.int .i64 (.ofNat 0)))) (P 158)::
.go (.pick (tm 156) (tm 158) (.con (.bool false))) (P 159)::
.go (.move (tm 159)) (P 160)::
.gd (P 160) true (.call (.con (.func (.func 20) ⟨[]⟩ ⟨[]⟩)) []) (P 161)::
.go (.pick (tm 160) (tm 161) (.con (.bool false))) (P 162)::
.go (.move (tm 162)) (P 4)::
[])) .ret) (.seq (.run (.go (.move (tm 11)) (P 164)::
.go (.un .not (tm 164)) (P 165)::
.go (.move (tm 165)) (P 166)::
.gd (P 166) false (.move (tm 13)) (P 167)::
.gd (P 166) false (.un .not (tm 167)) (P 168)::
.go (.pick (tm 166) (.con (.bool true)) (tm 168)) (P 169)::
.go (.move (tm 169)) (P 163)::
[])) (.cond (tm 163) (.seq (.run (.go (.move (tm 6)) (P 170)::
.go (.bin .eql 26 (tm 170) (.con (.int .i64 (.ofNat 10)))) (P 171)::
.go (.move (tm 171)) (P 172)::
.gd (P 172) true (.move (tm 5)) (P 173)::
.gd (P 172) true (.bin .eql 3 (tm 173) (.con (.int .i64 (.ofNat 0)))) (P 174)::
.go (.pick (tm 172) (tm 174) (.con (.bool false))) (P 175)::
.go (.move (tm 175)) (P 176)::
.gd (P 176) true (.call (.con (.func (.func 20) ⟨[]⟩ ⟨[]⟩)) []) (P 177)::
.go (.pick (tm 176) (tm 177) (.con (.bool false))) (P 178)::
.go (.move (tm 178)) (P 4)::
[])) .ret) .skip))))))) (.seq (.run (.go (.move (tm 6)) (P 179)::
.go (.bin .eql 26 (tm 179) (.con (.int .i64 (.ofNat 0)))) (P 180)::
.go (.move (tm 180)) (P 181)::
.gd (P 181) true (.move (tm 5)) (P 182)::
.gd (P 181) true (.move (tm 14)) (P 183)::
.gd (P 181) true (.bin .eql 3 (tm 182) (tm 183)) (P 184)::
.go (.pick (tm 181) (tm 184) (.con (.bool false))) (P 185)::
.go (.move (tm 185)) (P 186)::
.gd (P 186) true (.call (.con (.func (.func 20) ⟨[]⟩ ⟨[]⟩)) []) (P 187)::
.go (.pick (tm 186) (tm 187) (.con (.bool false))) (P 188)::
.go (.move (tm 188)) (P 4)::
[])) .ret)))))))))))))
theorem RSL.b {m S L : Int} {l : List Int} {X : Heap} {w : Value} (h : RSL m S L l X w) : ∃ (y : Value) (c : Bool),w=.tuple ⟨[y,.bool c]⟩∧(c=true↔sure m S (vl L l))∧(c=true→LS X y (fl l.length (otc m S (vl L l)).1)):=by
 rcases h with⟨hs,y,e,q⟩|⟨hs,e⟩
 ·exact⟨y,true,e,iff_of_true rfl hs,fun _=>q⟩
 ·exact⟨_,false,e,iff_of_false (by simp) hs,fun k=>by cases k⟩
end Go.Xe.TVX
/- What the functions of the layer seat come to: more votes, and the only result. Conditions: none. -/
-- MOD TV
namespace Go.Xe.TVX
open Go Go.Xe Go.Proofs
open Nat renaming reduceLeDiff → qA, reduceSub → qB, reduceAdd → qC, reduceEqDiff → qD, reduceLT → qE
open Int renaming reduceNegSucc → qF, reduceEq → qG
open Go.Xe.V renaming seq → sA, block → sB, scope → sC, skip → sD, close → sE
open Go.Xe renaming pth → P
open Go.Xe.Sea
set_option maxRecDepth 100000
set_option maxHeartbeats 3200000
set_option linter.unusedSimpArgs false
section
open Classical
theorem cn_mono {P Q : Nat→Prop} {n : Nat} (h : ∀ t,t<n→P t→Q t) : cn P n≤cn Q n:=
 sm_le fun t ht=>by
  by_cases k : P t
  ·rw[if_pos k,if_pos (h t ht k)];omega
  ·rw[if_neg k];split<;>omega
theorem ck_mono {v v' : Nat→Int} {n : Nat} {P Q : Nat→Nat→Prop} (hv : ∀ q,q<8→0<v q→0<v' q) (h : ∀ q t,q<8→0<v q→t<n→P q t→Q q t) : ck v n P≤ck v' n Q:=
 sm_le fun q hq=>by
  by_cases k : 0<v q
  ·rw[if_pos k,if_pos (hv q hq k)]
   exact cn_mono fun t ht=>h q t hq k ht
  ·rw[if_neg k]
   have:=(cn_nn (Q q) n).1
   split<;>omega
end
theorem own_cmp {m S : Int} {v v' : Nat→Int} (h5 : m≠5) {k : Nat} (h : 0<v k) (h' : 0<v' k) (s t : Int) : qlt (clq m S v k s) (clq m S v k t)↔qlt (clq m S v' k s) (clq m S v' k t):=by
 have e : ∀ (u : Nat→Int) (a : Int),clq m S u k a=(u k*u k*1,dsq m a):=fun u a=>by unfold clq;rw[if_neg h5,Int.mul_one]
 rw[e,e,e,e]
 exact (qlt_scale (a:=(1,dsq m s)) (b:=(1,dsq m t)) (Int.mul_pos h h)).trans (qlt_scale (a:=(1,dsq m s)) (b:=(1,dsq m t)) (Int.mul_pos h' h')).symm
theorem clq_more {m S : Int} {v v' : Nat→Int} (h5 : m≠5) {k : Nat} (h0 : 0≤v k) (h : v k≤v' k) {s : Int} (hs : 0≤s) : ¬ qlt (clq m S v' k s) (clq m S v k s):=by
 unfold clq
 rw[if_neg h5,if_neg h5]
 have d0:=dsq_nn (m:=m) hs
 have hsq : v k*v k≤v' k*v' k:=Int.mul_le_mul h h h0 (by omega)
 unfold qlt
 split
 ·simp only;omega
 ·simp only
  have:=Int.mul_le_mul_of_nonneg_right hsq d0
  omega
theorem otc_no {m S : Int} {v : Nat→Int} (hv : vok v) (hS : 0≤S∧S≤61) (hv8 : ∀ p,¬ p<8→v p=0) {p : Nat} (h : ¬ 0<v p) : (otc m S v).1 p=0∧(otc m S v).2 p=0:=by
 have F:=otc_fin (m:=m) hv hS hv8
 have e:=F.1.adm p (fun k=>h k.2)
 refine⟨e,?_⟩
 rcases F.2 with⟨_,_,k⟩|⟨_,_,k⟩|⟨_,_,_,k⟩
 ·rw[k];exact e
 ·rw[k];exact e
 ·rw[k];unfold Sea.up;rw[if_neg (fun k=>h (mem_tp.1 k).2.1)];exact e
theorem mono {m S : Int} {v v' : Nat→Int} (h5 : m≠5) (hv : vok v) (hv' : vok v') (hS : 0≤S∧S≤61) (hv8 : ∀ p,¬ p<8→v p=0) (hv8' : ∀ p,¬ p<8→v' p=0) {k : Nat} (hk : k<8) (h1 : v' k≤v k) (h2 : ∀ q,q≠k→v q≤v' q) :
  (otc m S v').1 k≤(otc m S v).1 k∧(otc m S v').2 k≤(otc m S v).2 k:=by
 obtain⟨n,hn⟩ : ∃ n : Nat,S=n:=⟨S.toNat,by omega⟩
 have i1:=otc_hi (m:=m) hv hS hv8 k
 have i2:=otc_hi (m:=m) hv' hS hv8' k
 have b1:=(Fin.bd (otc_fin (m:=m) hv hS hv8) hS.1).2.1 k
 have b2:=(Fin.bd (otc_fin (m:=m) hv' hS hv8') hS.1).2.1 k
 by_cases vk' : 0<v' k
 rotate_left
 ·have:=otc_no (m:=m) hv' hS hv8' vk'
  omega
 have vk : 0<v k:=by omega
 have pos : ∀ q,q<8→0<v q→0<v' q:=fun q hq hvq=>by
  by_cases e : q=k
  ·subst e;exact vk'
  ·have:=h2 q e;omega
 have kk : ∀ s,0≤s→¬ qlt (clq m S v k s) (clq m S v' k s):=fun s hs=>clq_more h5 (by omega) h1 hs
 have qq : ∀ q s,q≠k→0<v q→0≤s→¬ qlt (clq m S v' q s) (clq m S v q s):=fun q s e hvq hs=>clq_more h5 (by omega) (h2 q e) hs
 have ok : ∀ q (t : Int),q<8→0<v q→0≤t→qok (clq m S v q t):=fun q t hq hvq ht=>clq_ok hv hS hq hvq ht
 have ok' : ∀ q (t : Int),q<8→0<v q→0≤t→qok (clq m S v' q t):=fun q t hq hvq ht=>clq_ok hv' hS hq (pos q hq hvq) ht
 constructor
 ·apply Decidable.by_contra
  intro hh
  obtain⟨s,hs⟩ : ∃ s : Nat,(otc m S v).1 k=s:=⟨((otc m S v).1 k).toNat,by omega⟩
  have hsn : s<n:=by omega
  have A:=(spread (p:=k) (s:=s) hn h5 hv hS hv8 hk vk hsn).1
  have B:=(spread (p:=k) (s:=s) hn h5 hv' hS hv8' hk vk' hsn).1
  have c : ck v n (fun q t=>¬ qlt (clq m S v q t) (clq m S v k s))≤ck v' n (fun q t=>¬ qlt (clq m S v' q t) (clq m S v' k s)):=ck_mono pos fun q t hq hvq _ hp=>by
   by_cases e : q=k
   ·subst e
    exact fun hh=>hp ((own_cmp h5 vk vk' _ _).2 hh)
   ·exact qlt_neg (ok' q t hq hvq (by omega)) (ok q t hq hvq (by omega)) (ok' k s hk vk (by omega)) (qq q t e hvq (by omega)) (qlt_neg (ok q t hq hvq (by omega)) (ok k s hk vk (by omega)) (ok' k s hk vk (by omega)) hp (kk s (by omega)))
  have:=A.1 (Int.le_trans c (B.2 (by omega)))
  omega
 ·apply Decidable.by_contra
  intro hh
  obtain⟨s,hs⟩ : ∃ s : Nat,(otc m S v).2 k=s:=⟨((otc m S v).2 k).toNat,by omega⟩
  have hsn : s<n:=by omega
  have A:=(spread (p:=k) (s:=s) hn h5 hv hS hv8 hk vk hsn).2
  have B:=(spread (p:=k) (s:=s) hn h5 hv' hS hv8' hk vk' hsn).2
  have c : ck v n (fun q t=>qlt (clq m S v k s) (clq m S v q t))≤ck v' n (fun q t=>qlt (clq m S v' k s) (clq m S v' q t)):=ck_mono pos fun q t hq hvq _ hp=>by
   by_cases e : q=k
   ·subst e
    exact (own_cmp h5 vk vk' _ _).1 hp
   ·exact qlt_le (ok' k s hk vk (by omega)) (ok q t hq hvq (by omega)) (ok' q t hq hvq (by omega)) (le_qlt (ok' k s hk vk (by omega)) (ok k s hk vk (by omega)) (ok q t hq hvq (by omega)) (kk s (by omega)) hp) (qq q t e hvq (by omega))
  have:=A.1 (Int.lt_of_le_of_lt c (B.2 (by omega)))
  omega
theorem jo_iff {m S : Int} {v s : Nat→Int} (hv : vok v) (hS : 0≤S∧S≤61) (hv8 : ∀ p,¬ p<8→v p=0) (hs : ∀ p,p<8→0≤s p∧s p≤100) : jo m S v s↔sure m S v∧eq8 s (otc m S v).1:=by
 obtain⟨f1,f2,f3⟩:=fu_max (m:=m) hv hS (fun p hp=>(hs p hp).1) (Nat.le_refl (adl v 8).length)
 obtain⟨l1,l2,l3⟩:=la_min (m:=m) (s:=s) hv hS (Nat.le_refl (adl v 8).length)
 have JR:=jr_iff (m:=m) hv hS hs
 have IR:=is_res (m:=m) hv hS hv8 (fun p hp=>(hs p hp).1)
 have F0:=otc_fin (m:=m) hv hS hv8
 have hbd:=Fin.bd F0 hS.1
 have hsb:=sm_bd hv
 have no:=fun p (h : ¬ 0<v p)=>otc_no (m:=m) hv hS hv8 h
 -- a single result is one
 have gl : sure m S v→eq8 s (otc m S v).1→gal S v s:=fun h1 h2=>by
  have R:=(otc_res hv hS hv8 h1).1
  exact⟨fun p hp k=>R.1 p hp (by rw[← h2 p hp];exact k),(sm_cong fun p hp=>h2 p hp).trans R.2⟩
 by_cases hg : gal S v s
 rotate_left
 ·unfold jo
  rw[if_neg (fun hh=>hg hh.1)]
  exact⟨fun h=>absurd h hg,fun h=>absurd (gl h.1 h.2) hg⟩
 by_cases hd : due S v=0
 ·unfold jo
  rw[if_neg (fun hh=>hh.2 hd)]
  refine⟨fun _=>?_,fun _=>hg⟩
  have hs0 : ∀ p,p<8→s p=0:=fun p hp=>by
   have h0:=hg.2
   rw[hd] at h0
   have h1:=(hs p hp).1
   apply Decidable.by_contra
   intro hh
   have:=sm_lt (s:=fun _=>0) (t:=s) (n:=8) (p:=p) (fun i hi=>(hs i hi).1) hp (by omega)
   rw[sm_0] at this
   omega
  have hz : ∀ p,p<8→(otc m S v).1 p=0∧(otc m S v).2 p=0:=fun p hp=>by
   by_cases hN : 0<sm v 8
   ·have hS0 : S=0:=by
     unfold due at hd
     rw[if_neg (by omega)] at hd
     exact hd
    have:=otc_hi (m:=m) hv hS hv8 p
    have:=hbd.2.1 p
    omega
   ·exact no p (fun hh=>hN ((sm_pos' hv).2 ⟨p,hp,hh⟩))
  exact⟨fun p hp=>by rw[(hz p hp).1,(hz p hp).2],fun p hp=>by rw[(hz p hp).1];exact hs0 p hp⟩
 have hN : 0<sm v 8:=by
  apply Decidable.by_contra
  intro hh
  exact hd (by unfold due;rw[if_pos (by omega)])
 have hdue : due S v=S:=by unfold due;rw[if_neg (by omega)]
 have hsum : sm s 8=S:=by rw[← hdue];exact hg.2
 have hS0 : S≠0:=fun k=>hd (by rw[hdue];exact k)
 have votes : ∀ p,p<8→0<s p→0<v p:=fun p hp h=>by
  have h1:=hg.1 p hp
  have h2:=(hv p hp).1
  apply Decidable.by_contra
  intro hh
  exact h1 ⟨h,by omega⟩
 unfold jo
 rw[if_pos ⟨hg,hd⟩]
 constructor
 ·intro h
  have hj : jr m S v s:=by unfold jr;rw[if_pos ⟨hg,hd⟩];exact qlt_asymm f1 l1 h
  have R:=IR.1 (JR.1 hj)
  have key : ∀ p,p<8→(otc m S v).1 p=(otc m S v).2 p:=by
   rcases F0.2 with⟨hno,_⟩|⟨_,_,e⟩|⟨_,e1,e2,e3⟩
   ·obtain⟨p,hp,hvp⟩:=(sm_pos' hv).1 hN
    exact absurd hvp (hno p hp)
   ·intro p _;rw[e]
   ·exfalso
    have hT : ∀ {p},(otc m S v).1 p<(otc m S v).2 p→p∈tp v (fun p=>clq m S v p ((otc m S v).1 p)) 8∧(otc m S v).2 p=(otc m S v).1 p+1:=fun {p} hlt=>by
     rw[e3] at hlt ⊢
     unfold Sea.up at hlt ⊢
     split at hlt
     ·rename_i k;rw[if_pos k];exact⟨k,rfl⟩
     ·omega
    have hup : sm (otc m S v).2 8=sm (otc m S v).1 8+(tp v (fun p=>clq m S v p ((otc m S v).1 p)) 8).length:=by
     rw[e3];exact sm_up tp_nodup (fun q hq=>(mem_tp.1 hq).1)
    obtain⟨q,hq,hql⟩ : ∃ q,q<8∧(otc m S v).1 q<s q:=by
     apply Decidable.by_contra
     intro k
     have:=sm_le (s:=s) (t:=(otc m S v).1) (n:=8) (fun q hq=>Decidable.by_contra fun k2=>k ⟨q,hq,by omega⟩)
     omega
    obtain⟨x,hx,hxl⟩ : ∃ x,x<8∧s x<(otc m S v).2 x:=by
     apply Decidable.by_contra
     intro k
     have:=sm_le (s:=(otc m S v).2) (t:=s) (n:=8) (fun q hq=>Decidable.by_contra fun k2=>k ⟨q,hq,by omega⟩)
     omega
    have rq:=R.1 q hq
    have rx:=R.1 x hx
    have tq:=hT (show (otc m S v).1 q<(otc m S v).2 q by omega)
    have tx:=hT (show (otc m S v).1 x<(otc m S v).2 x by omega)
    have mq:=mem_tp.1 tq.1
    have mx:=mem_tp.1 tx.1
    obtain⟨i,hi,ei⟩:=pix_of hx mx.2.1
    obtain⟨j,hj',ej⟩:=pix_of hq mq.2.1
    have k1:=f2 i hi
    have k2:=l2 j hj' (by rw[ej];have:=hbd.1 q;omega)
    rw[ei,show s x=(otc m S v).1 x by omega] at k1
    rw[ej,show s q-1=(otc m S v).1 q by omega] at k2
    have o1:=clq_ok (m:=m) hv hS hx mx.2.1 (hbd.1 x).1
    have o2:=clq_ok (m:=m) hv hS hq mq.2.1 (hbd.1 q).1
    have k3:=le_qlt (lw_ok o1).1 f1 l1 k1 h
    have k4:=qlt_le (lw_ok o1).1 l1 (lw_ok o2).1 k3 k2
    exact mx.2.2 q hq mq.2.1 ((lw_lt o1 o2).1 k4)
  exact⟨key,fun p hp=>by have:=R.1 p hp;have:=key p hp;omega⟩
 ·rintro⟨hsu,he⟩
  obtain⟨q0,hq0,hsq0⟩ : ∃ q,q<8∧0<s q:=by
   apply Decidable.by_contra
   intro k
   have:=sm_le (s:=s) (t:=fun _=>0) (n:=8) (fun q hq=>Decidable.by_contra fun k2=>k ⟨q,hq,by omega⟩)
   rw[sm_0] at this
   omega
  have o01 : qok (0,1):=⟨by simp,by simp,by simp⟩
  have e01 : lw (0,1)=(0,1):=by decide
  -- each quotient with a seat is greater than what is left
  have big : ∀ q,q<8→0<s q→qlt (fu m S v s (adl v 8).length) (lw (clq m S v q (s q-1))):=by
   intro q hq hsq
   have vq:=votes q hq hsq
   have o2:=clq_ok (m:=m) hv hS hq vq (s:=s q-1) (by omega)
   have eq:=he q hq
   rcases f3 with f3|⟨i,hi,f3⟩
   ·rw[f3,← e01,lw_lt o01 o2]
    by_cases h5 : m=5
    ·subst h5
     have b:=shr_bd hv hS hq
     rcases (fact5 hv hS hv8 hN hq vq).1 with k|⟨k,r⟩
     ·rw[cl5,if_pos (by omega)];exact qlt_nzz (by simp) rfl o01 ⟨by simp,by simp,by simp⟩
     ·rw[cl5,if_neg (by omega),if_pos (by omega),r05];exact r
    ·have d0:=dsq_nn (m:=m) (s:=s q-1) (by omega)
     have v2:=Int.mul_pos vq vq
     unfold clq
     rw[if_neg h5,qlt_nz (by simp)]
     simp only
     omega
   ·obtain⟨_,hp,hvp,_⟩:=pix_at (v:=v) hi
    have o1:=clq_ok (m:=m) hv hS hp hvp (hs _ hp).1
    rw[f3,lw_lt o1 o2,he _ hp,eq]
    exact sharp hv hS hv8 hN hq vq hp hvp (by omega)
  rcases l3 with l3|⟨j,hj,hsj,l3⟩
  ·have vq:=votes q0 hq0 hsq0
   have o2:=clq_ok (m:=m) hv hS hq0 vq (s:=s q0-1) (by omega)
   have b2:=lw_qb o2 (clq_qb hv hS hq0 (by have:=hs q0 hq0;omega))
   refine qlt_le f1 (lw_ok o2).1 l1 (big q0 hq0 hsq0) ?_
   rw[l3]
   by_cases hz : (lw (clq m S v q0 (s q0-1))).2=0
   ·rw[qlt_z rfl hz]
    have:=b2.1
    simp only
    omega
   ·exact qlt_zn rfl hz ⟨by simp,by simp,by simp⟩ (lw_ok o2).1
  ·obtain⟨_,hq,_,_⟩:=pix_at (v:=v) hj
   rw[l3]
   exact big _ hq hsj
end Go.Xe.TVX
