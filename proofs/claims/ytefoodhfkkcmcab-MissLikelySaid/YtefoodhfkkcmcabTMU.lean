/- What the statements MissWays and MissPascal come to. Conditions: none. -/
import Derived.Test.YtefoodhfkkcmcabTMZ
-- MOD TM
namespace Go.Xe.TMX
open Go Go.Xe Go.Proofs Go.Xe.Mth
open Nat (reduceLeDiff reduceSub reduceAdd reduceEqDiff reduceLT)
open Int (reduceNegSucc reduceEq)
set_option maxRecDepth 100000
set_option maxHeartbeats 3200000
set_option linter.unusedSimpArgs false
noncomputable def d3 : FCode := (.seq (.run (.go (.box 23 (.tmp (pth 2))) (pth 5)::
.go (.move (.con (.bool false))) (pth 6)::
[])) (.seq (.run (.go (.move (.tmp (pth 0))) (pth 10)::
.go (.move (.tmp (pth 1))) (pth 11)::
.go (.call (.con (.func (.func 19) ⟨[]⟩ ⟨[]⟩)) [(.tmp (pth 10)),(.tmp (pth 11))]) (pth 12)::
.go (.move (.tmp (pth 12))) (pth 9)::
.go (.extract (.tmp (pth 9)) 0) (pth 13)::
.go (.extract (.tmp (pth 9)) 1) (pth 14)::
.go (.move (.tmp (pth 13))) (pth 7)::
.go (.move (.tmp (pth 14))) (pth 8)::
[])) (.seq (.seq (.draw 6 (.go (.loadN 4 (.tmp (pth 5))) (pth 15)::
.go (.call (.con (.func (.func 21) ⟨[]⟩ ⟨[]⟩)) [(.tmp (pth 15))]) (pth 16)::
.go (.call (.con (.func (.func 20) ⟨[]⟩ ⟨[]⟩)) [(.tmp (pth 16))]) (pth 17)::
.go (.loadN 4 (.tmp (pth 5))) (pth 18)::
.go (.call (.con (.func (.func 22) ⟨[]⟩ ⟨[]⟩)) [(.tmp (pth 18))]) (pth 19)::
.go (.bin .neq 24 (.tmp (pth 17)) (.tmp (pth 19))) (pth 20)::
[]) [.ok,.ok,.ok,.rd none (.loadN 4 (.tmp (pth 5))) (some (pth 18)) [0,2],.ok,.ok]) (.cond (.tmp (pth 20)) (.seq (.run (.go (.move (.con (.bool false))) (pth 6)::
[])) .ret) .skip)) (.seq (.seq (.run (.go (.move (.tmp (pth 0))) (pth 21)::
.go (.call (.con (.func (.func 23) ⟨[]⟩ ⟨[]⟩)) [(.tmp (pth 21)),(.con (.int .i64 (.ofNat 0))),(.con (.int .i64 (.ofNat 60)))]) (pth 22)::
.go (.un .not (.tmp (pth 22))) (pth 23)::
.go (.move (.tmp (pth 23))) (pth 24)::
.gd (pth 24) false (.move (.tmp (pth 1))) (pth 25)::
.gd (pth 24) false (.call (.con (.func (.func 23) ⟨[]⟩ ⟨[]⟩)) [(.tmp (pth 25)),(.con (.int .i64 (.ofNat 0))),(.con (.int .i64 (.ofNat 60)))]) (pth 26)::
.gd (pth 24) false (.un .not (.tmp (pth 26))) (pth 27)::
.go (.pick (.tmp (pth 24)) (.con (.bool true)) (.tmp (pth 27))) (pth 28)::
[])) (.cond (.tmp (pth 28)) (.seq (.run (.go (.move (.tmp (pth 8))) (pth 29)::
.go (.bin .eql 24 (.tmp (pth 29)) (.con (.int .i64 (.ofNat 2)))) (pth 30)::
.go (.move (.tmp (pth 30))) (pth 31)::
.gd (pth 31) true (.move (.tmp (pth 7))) (pth 32)::
.gd (pth 31) true (.bin .eql 3 (.tmp (pth 32)) (.con (.int .i64 (.ofNat 0)))) (pth 33)::
.go (.pick (.tmp (pth 31)) (.tmp (pth 33)) (.con (.bool false))) (pth 34)::
.go (.move (.tmp (pth 34))) (pth 35)::
.gd (pth 35) true (.call (.con (.func (.func 24) ⟨[]⟩ ⟨[]⟩)) []) (pth 36)::
.go (.pick (.tmp (pth 35)) (.tmp (pth 36)) (.con (.bool false))) (pth 37)::
.go (.move (.tmp (pth 37))) (pth 6)::
[])) .ret) .skip)) (.seq (.run (.go (.move (.tmp (pth 8))) (pth 38)::
.go (.bin .eql 24 (.tmp (pth 38)) (.con (.int .i64 (.ofNat 0)))) (pth 39)::
.go (.move (.tmp (pth 39))) (pth 40)::
.gd (pth 40) true (.move (.tmp (pth 7))) (pth 41)::
.gd (pth 40) true (.move (.tmp (pth 0))) (pth 42)::
.gd (pth 40) true (.move (.tmp (pth 1))) (pth 43)::
.gd (pth 40) true (.call (.con (.func (.func 25) ⟨[]⟩ ⟨[]⟩)) [(.tmp (pth 42)),(.tmp (pth 43))]) (pth 44)::
.gd (pth 40) true (.bin .eql 3 (.tmp (pth 41)) (.tmp (pth 44))) (pth 45)::
.go (.pick (.tmp (pth 40)) (.tmp (pth 45)) (.con (.bool false))) (pth 46)::
.go (.move (.tmp (pth 46))) (pth 47)::
.gd (pth 47) true (.call (.con (.func (.func 24) ⟨[]⟩ ⟨[]⟩)) []) (pth 48)::
.go (.pick (.tmp (pth 47)) (.tmp (pth 48)) (.con (.bool false))) (pth 49)::
.go (.move (.tmp (pth 49))) (pth 6)::
[])) .ret)))))
def wv (n k : Int) : Prop := (0 ≤ n ∧ n ≤ 60) ∧ (0 ≤ k ∧ k ≤ 60)
instance (n k : Int) : Decidable (wv n k) := by unfold wv; infer_instance
end Go.Xe.TMX
