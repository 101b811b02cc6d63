/- What the functions of the layer seat come to: the largest remainders. Conditions: none. -/
import Derived.Test.YtelfbgmhleneiaaTUM
import Derived.Test.YtelfbgmhleneiaaTUG
-- MOD TV
namespace Go.Xe.TVX
open Go Go.Xe Go.Proofs
open Nat renaming reduceLeDiff → qA, reduceSub → qB, reduceAdd → qC, reduceEqDiff → qD, reduceLT → qE
open Int renaming reduceNegSucc → qF, reduceEq → qG
open Go.Xe.V renaming seq → sA, block → sB, scope → sC, skip → sD, close → sE
open Go.Xe renaming pth → P
open Go.Xe.Sea
set_option maxRecDepth 100000
set_option maxHeartbeats 3200000
set_option linter.unusedSimpArgs false
section
variable {v : Nat→Int} {c : Nat→Int→Q2}
end
end Go.Xe.TVX
/- What the functions of the layer seat come to: Remainders. Conditions: none. -/
-- MOD TV
namespace Go.Xe.TVX
open Go Go.Xe Go.Proofs
open Nat renaming reduceLeDiff → qA, reduceSub → qB, reduceAdd → qC, reduceEqDiff → qD, reduceLT → qE
open Int renaming reduceNegSucc → qF, reduceEq → qG
open Go.Xe.V renaming seq → sA, block → sB, scope → sC, skip → sD, close → sE
open Go.Xe renaming pth → P
open Go.Xe.Sea
set_option maxRecDepth 100000
set_option maxHeartbeats 3200000
set_option linter.unusedSimpArgs false
end Go.Xe.TVX
/- What the functions of the layer seat come to: SeatGives. Conditions: none. -/
-- MOD TV
-- NOCODE 23
namespace Go.Xe.TVX
open Go Go.Xe Go.Proofs
open Nat renaming reduceLeDiff → qA, reduceSub → qB, reduceAdd → qC, reduceEqDiff → qD, reduceLT → qE
open Int renaming reduceNegSucc → qF, reduceEq → qG
open Go.Xe.V renaming seq → sA, block → sB, scope → sC, skip → sD, close → sE
open Go.Xe renaming pth → P
open Go.Xe.Sea
set_option maxRecDepth 100000
set_option maxHeartbeats 3200000
set_option linter.unusedSimpArgs false
noncomputable def d3 : FCode:=(.seq (.run (.go (.box 23 (tm 0)) (P 2)::
.go (.move (.con (.bool false))) (P 4)::
[])) (.seq (.seq (.run (.go (.move (tm 1)) (P 11)::
.go (.len 0 (tm 11)) (P 12)::
.go (.bin .gtr 3 (tm 12) (.con (.int .i64 (.ofNat 11)))) (P 13)::
[])) (.cond (tm 13) (.seq (.run (.go (.call (.con (.func (.func 20) ⟨[]⟩ ⟨[]⟩)) []) (P 14)::
.go (.move (tm 14)) (P 4)::
[])) .ret) .skip)) (.seq (.run (.go (.loadN 3 (tm 2)) (P 15)::
.go (.call (.con (.func (.func 22) ⟨[]⟩ ⟨[]⟩)) [tm 15]) (P 16)::
.go (.call (.con (.func (.func 21) ⟨[]⟩ ⟨[]⟩)) [tm 16]) (P 17)::
.go (.move (tm 17)) (P 5)::
[])) (.seq (.run (.go (.loadN 3 (tm 2)) (P 19)::
.go (.call (.con (.func (.func 22) ⟨[]⟩ ⟨[]⟩)) [tm 19]) (P 20)::
.go (.move (tm 1)) (P 21)::
.go (.call (.con (.func (.func 24) ⟨[]⟩ ⟨[]⟩)) [tm 21]) (P 22)::
.go (.call (.con (.func (.func 23) ⟨[]⟩ ⟨[]⟩)) [(tm 20),(tm 22)]) (P 23)::
.go (.move (tm 23)) (P 18)::
.go (.extract (tm 18) 0) (P 24)::
.go (.extract (tm 18) 1) (P 25)::
.go (.move (tm 24)) (P 6)::
.go (.move (tm 25)) (P 7)::
[])) (.seq (.run (.go (.loadN 3 (tm 2)) (P 26)::
.go (.move (tm 1)) (P 27)::
.go (.call (.con (.func (.func 25) ⟨[]⟩ ⟨[]⟩)) [(tm 26),(tm 27)]) (P 28)::
.go (.move (tm 28)) (P 8)::
[])) (.seq (.seq (.run (.go (.move (tm 5)) (P 29)::
.go (.loadN 3 (tm 2)) (P 30)::
.go (.call (.con (.func (.func 26) ⟨[]⟩ ⟨[]⟩)) [tm 30]) (P 31)::
.go (.bin .neq 26 (tm 29) (tm 31)) (P 32)::
[])) (.cond (tm 32) (.seq (.run (.go (.move (.con (.bool false))) (P 4)::
[])) .ret) .skip)) (.seq (.seq (.run (.go (.move (tm 8)) (P 33)::
.go (.bin .neq 26 (tm 33) (.con (.int .i64 (.ofNat 0)))) (P 34)::
[])) (.cond (tm 34) (.seq (.run (.go (.move (tm 7)) (P 35)::
.go (.move (tm 8)) (P 36)::
.go (.bin .eql 26 (tm 35) (tm 36)) (P 37)::
.go (.move (tm 37)) (P 38)::
.gd (P 38) true (.move (tm 6)) (P 39)::
.gd (P 38) true (.len 0 (tm 39)) (P 40)::
.gd (P 38) true (.bin .eql 3 (tm 40) (.con (.int .i64 (.ofNat 0)))) (P 41)::
.go (.pick (tm 38) (tm 41) (.con (.bool false))) (P 42)::
.go (.move (tm 42)) (P 43)::
.gd (P 43) true (.call (.con (.func (.func 20) ⟨[]⟩ ⟨[]⟩)) []) (P 44)::
.go (.pick (tm 43) (tm 44) (.con (.bool false))) (P 45)::
.go (.move (tm 45)) (P 4)::
[])) .ret) .skip)) (.seq (.run (.go (.loadN 3 (tm 2)) (P 47)::
.go (.move (tm 1)) (P 48)::
.go (.call (.con (.func (.func 27) ⟨[]⟩ ⟨[]⟩)) [(tm 47),(tm 48)]) (P 49)::
.go (.move (tm 49)) (P 46)::
.go (.extract (tm 46) 0) (P 50)::
.go (.extract (tm 46) 1) (P 51)::
.go (.move (tm 50)) (P 9)::
.go (.move (tm 51)) (P 10)::
[])) (.seq (.seq (.run (.go (.move (tm 10)) (P 52)::
.go (.un .not (tm 52)) (P 53)::
[])) (.cond (tm 53) (.seq (.run (.go (.move (tm 7)) (P 54)::
.go (.bin .eql 26 (tm 54) (.con (.int .i64 (.ofNat 10)))) (P 55)::
.go (.move (tm 55)) (P 56)::
.gd (P 56) true (.move (tm 6)) (P 57)::
.gd (P 56) true (.len 0 (tm 57)) (P 58)::
.gd (P 56) true (.bin .eql 3 (tm 58) (.con (.int .i64 (.ofNat 0)))) (P 59)::
.go (.pick (tm 56) (tm 59) (.con (.bool false))) (P 60)::
.go (.move (tm 60)) (P 61)::
.gd (P 61) true (.call (.con (.func (.func 20) ⟨[]⟩ ⟨[]⟩)) []) (P 62)::
.go (.pick (tm 61) (tm 62) (.con (.bool false))) (P 63)::
.go (.move (tm 63)) (P 4)::
[])) .ret) .skip)) (.seq (.run (.go (.move (tm 7)) (P 64)::
.go (.bin .eql 26 (tm 64) (.con (.int .i64 (.ofNat 0)))) (P 65)::
.go (.move (tm 65)) (P 66)::
.gd (P 66) true (.move (tm 6)) (P 67)::
.gd (P 66) true (.move (tm 9)) (P 68)::
.gd (P 66) true (.call (.con (.func (.func 28) ⟨[]⟩ ⟨[]⟩)) [(tm 67),(tm 68)]) (P 69)::
.go (.pick (tm 66) (tm 69) (.con (.bool false))) (P 70)::
.go (.move (tm 70)) (P 71)::
.gd (P 71) true (.call (.con (.func (.func 20) ⟨[]⟩ ⟨[]⟩)) []) (P 72)::
.go (.pick (tm 71) (tm 72) (.con (.bool false))) (P 73)::
.go (.move (tm 73)) (P 4)::
[])) .ret))))))))))
def RSL (m S L : Int) (l : List Int) (X : Heap) (w : Value) : Prop:=(sure m S (vl L l)∧∃ y,w=.tuple ⟨[y,.bool true]⟩∧LS X y (fl l.length (otc m S (vl L l)).1))∨(¬ sure m S (vl L l)∧w=.tuple ⟨[.slice none 0 0,.bool false]⟩)
end Go.Xe.TVX
/- What the functions of the layer seat come to: SeatProves. Conditions: none. -/
-- MOD TV
namespace Go.Xe.TVX
open Go Go.Xe Go.Proofs
open Nat renaming reduceLeDiff → qA, reduceSub → qB, reduceAdd → qC, reduceEqDiff → qD, reduceLT → qE
open Int renaming reduceNegSucc → qF, reduceEq → qG
open Go.Xe.V renaming seq → sA, block → sB, scope → sC, skip → sD, close → sE
open Go.Xe renaming pth → P
open Go.Xe.Sea
set_option maxRecDepth 100000
set_option maxHeartbeats 3200000
set_option linter.unusedSimpArgs false
section
variable {m S : Int} {v : Nat→Int}
end
end Go.Xe.TVX
/- What the functions of the layer seat come to: IsResult, and SeatProves. Conditions: none. -/
-- MOD TV
namespace Go.Xe.TVX
open Go Go.Xe Go.Proofs
open Nat renaming reduceLeDiff → qA, reduceSub → qB, reduceAdd → qC, reduceEqDiff → qD, reduceLT → qE
open Int renaming reduceNegSucc → qF, reduceEq → qG
open Go.Xe.V renaming seq → sA, block → sB, scope → sC, skip → sD, close → sE
open Go.Xe renaming pth → P
open Go.Xe.Sea
set_option maxRecDepth 100000
set_option maxHeartbeats 3200000
set_option linter.unusedSimpArgs false
noncomputable def d4 : FCode:=(.seq (.run (.go (.box 23 (tm 0)) (P 3)::
.go (.move (.con (.bool false))) (P 6)::
[])) (.seq (.seq (.run (.go (.move (tm 1)) (P 8)::
.go (.len 0 (tm 8)) (P 9)::
.go (.bin .gtr 3 (tm 9) (.con (.int .i64 (.ofNat 11)))) (P 10)::
.go (.move (tm 10)) (P 11)::
.gd (P 11) false (.move (tm 2)) (P 12)::
.gd (P 11) false (.len 0 (tm 12)) (P 13)::
.gd (P 11) false (.bin .gtr 3 (tm 13) (.con (.int .i64 (.ofNat 11)))) (P 14)::
.go (.pick (tm 11) (.con (.bool true)) (tm 14)) (P 15)::
[])) (.cond (tm 15) (.seq (.run (.go (.call (.con (.func (.func 20) ⟨[]⟩ ⟨[]⟩)) []) (P 16)::
.go (.move (tm 16)) (P 6)::
[])) .ret) .skip)) (.seq (.run (.go (.loadN 3 (tm 3)) (P 17)::
.go (.call (.con (.func (.func 22) ⟨[]⟩ ⟨[]⟩)) [tm 17]) (P 18)::
.go (.move (tm 1)) (P 19)::
.go (.call (.con (.func (.func 24) ⟨[]⟩ ⟨[]⟩)) [tm 19]) (P 20)::
.go (.move (tm 2)) (P 21)::
.go (.call (.con (.func (.func 24) ⟨[]⟩ ⟨[]⟩)) [tm 21]) (P 22)::
.go (.call (.con (.func (.func 29) ⟨[]⟩ ⟨[]⟩)) [(tm 18),(tm 20),(tm 22)]) (P 23)::
.go (.move (tm 23)) (P 7)::
[])) (.seq (.run (.go (.move (tm 7)) (P 24)::
.go (.loadN 3 (tm 3)) (P 25)::
.go (.move (tm 1)) (P 26)::
.go (.call (.con (.func (.func 25) ⟨[]⟩ ⟨[]⟩)) [(tm 25),(tm 26)]) (P 27)::
.go (.bin .eql 26 (tm 27) (.con (.int .i64 (.ofNat 0)))) (P 28)::
.go (.move (tm 28)) (P 29)::
.gd (P 29) true (.loadN 3 (tm 3)) (P 30)::
.gd (P 29) true (.move (tm 1)) (P 31)::
.gd (P 29) true (.move (tm 2)) (P 32)::
.gd (P 29) true (.call (.con (.func (.func 30) ⟨[]⟩ ⟨[]⟩)) [(tm 30),(tm 31),(tm 32)]) (P 33)::
.go (.pick (tm 29) (tm 33) (.con (.bool false))) (P 34)::
.go (.bin .eql 4 (tm 24) (tm 34)) (P 35)::
.go (.move (tm 35)) (P 36)::
.gd (P 36) true (.call (.con (.func (.func 20) ⟨[]⟩ ⟨[]⟩)) []) (P 37)::
.go (.pick (tm 36) (tm 37) (.con (.bool false))) (P 38)::
.go (.move (tm 38)) (P 6)::
[])) .ret))))
theorem otc_hi {m S : Int} {v : Nat→Int} (hv : vok v) (hS : 0≤S∧S≤61) (hv8 : ∀ p,¬ p<8→v p=0) (p : Nat) : 0≤(otc m S v).1 p∧(otc m S v).2 p≤S:=by
 have F0:=otc_fin (m:=m) hv hS hv8
 have hbd:=Fin.bd F0 hS.1
 refine⟨(hbd.1 p).1,?_⟩
 rcases F0.2 with⟨_,_,e⟩|⟨_,_,e⟩|⟨_,e1,_,e⟩
 ·rw[e];exact (hbd.1 p).2
 ·rw[e];exact (hbd.1 p).2
 ·have:=hbd.2.1 p
  by_cases hp : p<8
  ·have:=sm_each F0.1.nn hp
   omega
  ·rw[e];unfold Sea.up;rw[if_neg (fun k=>hp (mem_tp.1 k).1)];exact (hbd.1 p).2
end Go.Xe.TVX
/- What the functions of the layer seat come to: SeatNext. Conditions: none. -/
-- MOD TV
namespace Go.Xe.TVX
open Go Go.Xe Go.Proofs
open Nat renaming reduceLeDiff → qA, reduceSub → qB, reduceAdd → qC, reduceEqDiff → qD, reduceLT → qE
open Int renaming reduceNegSucc → qF, reduceEq → qG
open Go.Xe.V renaming seq → sA, block → sB, scope → sC, skip → sD, close → sE
open Go.Xe renaming pth → P
open Go.Xe.Sea
set_option maxRecDepth 100000
set_option maxHeartbeats 3200000
set_option linter.unusedSimpArgs false
noncomputable def d5 : FCode:=(.seq (.run (.go (.box 23 (tm 0)) (P 2)::
.go (.move (.con (.bool false))) (P 4)::
[])) (.seq (.seq (.run (.go (.move (tm 1)) (P 17)::
.go (.len 0 (tm 17)) (P 18)::
.go (.bin .gtr 3 (tm 18) (.con (.int .i64 (.ofNat 11)))) (P 19)::
[])) (.cond (tm 19) (.seq (.run (.go (.call (.con (.func (.func 20) ⟨[]⟩ ⟨[]⟩)) []) (P 20)::
.go (.move (tm 20)) (P 4)::
[])) .ret) .skip)) (.seq (.run (.go (.loadN 3 (tm 2)) (P 22)::
.go (.call (.con (.func (.func 22) ⟨[]⟩ ⟨[]⟩)) [tm 22]) (P 23)::
.go (.move (tm 1)) (P 24)::
.go (.call (.con (.func (.func 24) ⟨[]⟩ ⟨[]⟩)) [tm 24]) (P 25)::
.go (.call (.con (.func (.func 31) ⟨[]⟩ ⟨[]⟩)) [(tm 23),(tm 25)]) (P 26)::
.go (.move (tm 26)) (P 21)::
.go (.extract (tm 21) 0) (P 27)::
.go (.extract (tm 21) 1) (P 28)::
.go (.move (tm 27)) (P 5)::
.go (.move (tm 28)) (P 6)::
[])) (.seq (.run (.go (.loadN 3 (tm 2)) (P 30)::
.go (.call (.con (.func (.func 22) ⟨[]⟩ ⟨[]⟩)) [tm 30]) (P 31)::
.go (.move (tm 1)) (P 32)::
.go (.call (.con (.func (.func 24) ⟨[]⟩ ⟨[]⟩)) [tm 32]) (P 33)::
.go (.call (.con (.func (.func 32) ⟨[]⟩ ⟨[]⟩)) [(tm 31),(tm 33)]) (P 34)::
.go (.move (tm 34)) (P 29)::
.go (.extract (tm 29) 0) (P 35)::
.go (.extract (tm 29) 1) (P 36)::
.go (.move (tm 35)) (P 7)::
.go (.move (tm 36)) (P 8)::
[])) (.seq (.run (.go (.loadN 3 (tm 2)) (P 37)::
.go (.move (tm 1)) (P 38)::
.go (.call (.con (.func (.func 25) ⟨[]⟩ ⟨[]⟩)) [(tm 37),(tm 38)]) (P 39)::
.go (.move (tm 39)) (P 9)::
[])) (.seq (.seq (.run (.go (.move (tm 9)) (P 40)::
.go (.bin .neq 26 (tm 40) (.con (.int .i64 (.ofNat 0)))) (P 41)::
[])) (.cond (tm 41) (.seq (.run (.go (.move (tm 6)) (P 42)::
.go (.move (tm 9)) (P 43)::
.go (.bin .eql 26 (tm 42) (tm 43)) (P 44)::
.go (.move (tm 44)) (P 45)::
.gd (P 45) true (.move (tm 8)) (P 46)::
.gd (P 45) true (.move (tm 9)) (P 47)::
.gd (P 45) true (.bin .eql 26 (tm 46) (tm 47)) (P 48)::
.go (.pick (tm 45) (tm 48) (.con (.bool false))) (P 49)::
.go (.move (tm 49)) (P 50)::
.gd (P 50) true (.move (tm 5)) (P 51)::
.gd (P 50) true (.bin .eql 3 (tm 51) (.con (.int .i64 (.ofNat 0)))) (P 52)::
.go (.pick (tm 50) (tm 52) (.con (.bool false))) (P 53)::
.go (.move (tm 53)) (P 54)::
.gd (P 54) true (.move (tm 7)) (P 55)::
.gd (P 54) true (.bin .eql 3 (tm 55) (.con (.int .i64 (.ofNat 0)))) (P 56)::
.go (.pick (tm 54) (tm 56) (.con (.bool false))) (P 57)::
.go (.move (tm 57)) (P 58)::
.gd (P 58) true (.call (.con (.func (.func 20) ⟨[]⟩ ⟨[]⟩)) []) (P 59)::
.go (.pick (tm 58) (tm 59) (.con (.bool false))) (P 60)::
.go (.move (tm 60)) (P 4)::
[])) .ret) .skip)) (.seq (.run (.go (.loadN 3 (tm 2)) (P 62)::
.go (.move (tm 1)) (P 63)::
.go (.call (.con (.func (.func 27) ⟨[]⟩ ⟨[]⟩)) [(tm 62),(tm 63)]) (P 64)::
.go (.move (tm 64)) (P 61)::
.go (.extract (tm 61) 0) (P 65)::
.go (.extract (tm 61) 1) (P 66)::
.go (.move (tm 65)) (P 10)::
.go (.move (tm 66)) (P 11)::
[])) (.seq (.run (.go (.loadN 3 (tm 2)) (P 68)::
.go (.call (.con (.func (.func 33) ⟨[]⟩ ⟨[]⟩)) [tm 68]) (P 69)::
.go (.move (tm 1)) (P 70)::
.go (.call (.con (.func (.func 27) ⟨[]⟩ ⟨[]⟩)) [(tm 69),(tm 70)]) (P 71)::
.go (.move (tm 71)) (P 67)::
.go (.extract (tm 67) 0) (P 72)::
.go (.extract (tm 67) 1) (P 73)::
.go (.move (tm 72)) (P 12)::
.go (.move (tm 73)) (P 13)::
[])) (.seq (.run (.go (.move (.con (.int .i64 (.negSucc 0)))) (P 14)::
.go (.move (.con (.int .i64 (.negSucc 0)))) (P 15)::
[])) (.seq (.seq (.run (.go (.move (tm 1)) (P 74)::
.go (.len 0 (tm 74)) (P 75)::
.go (.bin .sub 3 (tm 75) (.con (.int .i64 (.ofNat 1)))) (P 76)::
.go (.move (tm 76)) (P 16)::
[])) (.block 0 (.loop (.seq (.seq (.run (.go (.move (tm 16)) (P 77)::
.go (.bin .geq 3 (tm 77) (.con (.int .i64 (.ofNat 0)))) (P 78)::
.go (.move (tm 78)) (P 79)::
.gd (P 79) true (.move (tm 11)) (P 80)::
.go (.pick (tm 79) (tm 80) (.con (.bool false))) (P 81)::
.go (.move (tm 81)) (P 82)::
.gd (P 82) true (.move (tm 13)) (P 83)::
.go (.pick (tm 82) (tm 83) (.con (.bool false))) (P 84)::
[])) (.cond (tm 84) .skip (.exit 0))) (.seq (.block 1 (.seq (.seq (.draw 9 (.go (.move (tm 12)) (P 87)::
.go (.move (tm 16)) (P 88)::
.go (.indexAddr none 1 (tm 87) (tm 88)) (P 89)::
.go (.load1 (tm 89)) (P 90)::
.go (.move (tm 10)) (P 91)::
.go (.move (tm 16)) (P 92)::
.go (.indexAddr none 1 (tm 91) (tm 92)) (P 93)::
.go (.load1 (tm 93)) (P 94)::
.go (.bin .gtr 3 (tm 90) (tm 94)) (P 95)::
[]) [.ok,.ok,.ok,.ok,.ok,.ok,.ok,.ok,.ok]) (.cond (tm 95) (.run (.go (.move (tm 16)) (P 96)::
.go (.move (tm 96)) (P 14)::
[])) .skip)) (.seq (.draw 9 (.go (.move (tm 12)) (P 97)::
.go (.move (tm 16)) (P 98)::
.go (.indexAddr none 1 (tm 97) (tm 98)) (P 99)::
.go (.load1 (tm 99)) (P 100)::
.go (.move (tm 10)) (P 101)::
.go (.move (tm 16)) (P 102)::
.go (.indexAddr none 1 (tm 101) (tm 102)) (P 103)::
.go (.load1 (tm 103)) (P 104)::
.go (.bin .lss 3 (tm 100) (tm 104)) (P 105)::
[]) [.ok,.ok,.ok,.ok,.ok,.ok,.ok,.ok,.ok]) (.cond (tm 105) (.run (.go (.move (tm 16)) (P 106)::
.go (.move (tm 106)) (P 15)::
[])) .skip)))) (.run (.go (.move (tm 16)) (P 85)::
.go (.bin .sub 3 (tm 85) (.con (.int .i64 (.ofNat 1)))) (P 86)::
.go (.move (tm 86)) (P 16)::
[]))))))) (.seq (.block 2 (.seq (.run (.go (.move (tm 11)) (P 115)::
.go (.un .not (tm 115)) (P 116)::
.go (.move (tm 116)) (P 117)::
.gd (P 117) false (.move (tm 13)) (P 118)::
.gd (P 117) false (.un .not (tm 118)) (P 119)::
.go (.pick (tm 117) (.con (.bool true)) (tm 119)) (P 120)::
.go (.move (tm 120)) (P 114)::
[])) (.cond (tm 114) (.seq (.run (.go (.move (tm 8)) (P 121)::
.go (.bin .neq 26 (tm 121) (.con (.int .i64 (.ofNat 10)))) (P 122)::
.go (.move (tm 122)) (P 123)::
.gd (P 123) false (.move (tm 7)) (P 124)::
.gd (P 123) false (.bin .neq 3 (tm 124) (.con (.int .i64 (.ofNat 0)))) (P 125)::
.go (.pick (tm 123) (.con (.bool true)) (tm 125)) (P 126)::
[])) (.cond (tm 126) (.seq (.run (.go (.move (.con (.bool false))) (P 4)::
[])) .ret) .skip)) (.seq (.run (.go (.move (tm 15)) (P 128)::
.go (.bin .lss 3 (tm 128) (.con (.int .i64 (.ofNat 0)))) (P 129)::
.go (.move (tm 129)) (P 127)::
[])) (.cond (tm 127) (.seq (.run (.go (.move (tm 8)) (P 130)::
.go (.bin .neq 26 (tm 130) (.con (.int .i64 (.ofNat 7)))) (P 131)::
.go (.move (tm 131)) (P 132)::
.gd (P 132) false (.move (tm 7)) (P 133)::
.gd (P 132) false (.bin .neq 3 (tm 133) (.con (.int .i64 (.ofNat 0)))) (P 134)::
.go (.pick (tm 132) (.con (.bool true)) (tm 134)) (P 135)::
[])) (.cond (tm 135) (.seq (.run (.go (.move (.con (.bool false))) (P 4)::
[])) .ret) .skip)) (.seq (.run (.go (.move (tm 8)) (P 107)::
.go (.bin .neq 26 (tm 107) (.con (.int .i64 (.ofNat 0)))) (P 108)::
.go (.move (tm 108)) (P 109)::
.gd (P 109) false (.move (tm 7)) (P 110)::
.gd (P 109) false (.move (tm 15)) (P 111)::
.gd (P 109) false (.bin .neq 3 (tm 110) (tm 111)) (P 112)::
.go (.pick (tm 109) (.con (.bool true)) (tm 112)) (P 113)::
[])) (.cond (tm 113) (.seq (.run (.go (.move (.con (.bool false))) (P 4)::
[])) .ret) .skip))))))) (.seq (.block 3 (.seq (.run (.go (.fieldAddr 0 (tm 2)) (P 137)::
.go (.load1 (tm 137)) (P 138)::
.go (.bin .eql 5 (tm 138) (.con (.int .u8 (.ofNat 5)))) (P 139)::
.go (.move (tm 139)) (P 136)::
[])) (.cond (tm 136) (.seq (.run (.go (.move (tm 6)) (P 140)::
.go (.bin .eql 26 (tm 140) (.con (.int .i64 (.ofNat 8)))) (P 141)::
.go (.move (tm 141)) (P 142)::
.gd (P 142) true (.move (tm 5)) (P 143)::
.gd (P 142) true (.bin .eql 3 (tm 143) (.con (.int .i64 (.ofNat 0)))) (P 144)::
.go (.pick (tm 142) (tm 144) (.con (.bool false))) (P 145)::
.go (.move (tm 145)) (P 146)::
.gd (P 146) true (.call (.con (.func (.func 20) ⟨[]⟩ ⟨[]⟩)) []) (P 147)::
.go (.pick (tm 146) (tm 147) (.con (.bool false))) (P 148)::
.go (.move (tm 148)) (P 4)::
[])) .ret) (.seq (.run (.go (.loadN 3 (tm 2)) (P 150)::
.go (.move (tm 1)) (P 151)::
.go (.call (.con (.func (.func 34) ⟨[]⟩ ⟨[]⟩)) [(tm 150),(tm 151)]) (P 152)::
.go (.un .not (tm 152)) (P 153)::
.go (.move (tm 153)) (P 149)::
[])) (.cond (tm 149) (.seq (.run (.go (.move (tm 6)) (P 154)::
.go (.bin .eql 26 (tm 154) (.con (.int .i64 (.ofNat 7)))) (P 155)::
.go (.move (tm 155)) (P 156)::
.gd (P 156) true (.move (tm 5)) (P 157)::
.gd (P 156) true (.bin .eql 3 (tm 157) (.con (.int .i64 (.ofNat 0)))) (P 158)::
.go (.pick (tm 156) (tm 158) (.con (.bool false))) (P 159)::
.go (.move (tm 159)) (P 160)::
.gd (P 160) true (.call (.con (.func (.func 20) ⟨[]⟩ ⟨[]⟩)) []) (P 161)::
.go (.pick (tm 160) (tm 161) (.con (.bool false))) (P 162)::
.go (.move (tm 162)) (P 4)::
[])) .ret) (.seq (.run (.go (.move (tm 11)) (P 164)::
.go (.un .not (tm 164)) (P 165)::
.go (.move (tm 165)) (P 166)::
.gd (P 166) false (.move (tm 13)) (P 167)::
.gd (P 166) false (.un .not (tm 167)) (P 168)::
.go (.pick (tm 166) (.con (.bool true)) (tm 168)) (P 169)::
.go (.move (tm 169)) (P 163)::
[])) (.cond (tm 163) (.seq (.run (.go (.move (tm 6)) (P 170)::
.go (.bin .eql 26 (tm 170) (.con (.int .i64 (.ofNat 10)))) (P 171)::
.go (.move (tm 171)) (P 172)::
.gd (P 172) true (.move (tm 5)) (P 173)::
.gd (P 172) true (.bin .eql 3 (tm 173) (.con (.int .i64 (.ofNat 0)))) (P 174)::
.go (.pick (tm 172) (tm 174) (.con (.bool false))) (P 175)::
.go (.move (tm 175)) (P 176)::
.gd (P 176) true (.call (.con (.func (.func 20) ⟨[]⟩ ⟨[]⟩)) []) (P 177)::
.go (.pick (tm 176) (tm 177) (.con (.bool false))) (P 178)::
.go (.move (tm 178)) (P 4)::
[])) .ret) .skip))))))) (.seq (.run (.go (.move (tm 6)) (P 179)::
.go (.bin .eql 26 (tm 179) (.con (.int .i64 (.ofNat 0)))) (P 180)::
.go (.move (tm 180)) (P 181)::
.gd (P 181) true (.move (tm 5)) (P 182)::
.gd (P 181) true (.move (tm 14)) (P 183)::
.gd (P 181) true (.bin .eql 3 (tm 182) (tm 183)) (P 184)::
.go (.pick (tm 181) (tm 184) (.con (.bool false))) (P 185)::
.go (.move (tm 185)) (P 186)::
.gd (P 186) true (.call (.con (.func (.func 20) ⟨[]⟩ ⟨[]⟩)) []) (P 187)::
.go (.pick (tm 186) (tm 187) (.con (.bool false))) (P 188)::
.go (.move (tm 188)) (P 4)::
[])) .ret)))))))))))))
theorem RSL.b {m S L : Int} {l : List Int} {X : Heap} {w : Value} (h : RSL m S L l X w) : ∃ (y : Value) (c : Bool),w=.tuple ⟨[y,.bool c]⟩∧(c=true↔sure m S (vl L l))∧(c=true→LS X y (fl l.length (otc m S (vl L l)).1)):=by
 rcases h with⟨hs,y,e,q⟩|⟨hs,e⟩
 ·exact⟨y,true,e,iff_of_true rfl hs,fun _=>q⟩
 ·exact⟨_,false,e,iff_of_false (by simp) hs,fun k=>by cases k⟩
end Go.Xe.TVX
