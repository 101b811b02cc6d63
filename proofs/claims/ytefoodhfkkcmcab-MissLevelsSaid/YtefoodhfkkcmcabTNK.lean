/- What the statement MissConfident comes to. Conditions: none. -/
import Derived.Test.YtefoodhfkkcmcabTNI
import Derived.Test.YtefoodhfkkcmcabTNA
-- MOD TM
namespace Go.Xe.TMX
open Go Go.Xe Go.Proofs Go.Xe.Mth
open Nat (reduceLeDiff reduceSub reduceAdd reduceEqDiff reduceLT)
open Int (reduceNegSucc reduceEq)
set_option maxRecDepth 100000
set_option maxHeartbeats 3200000
set_option linter.unusedSimpArgs false
theorem tot1 {z : Q4} {n q : Int} (h1 : arq z) (h2 : lv n q) : tot [z] n q = if lfq n q z = [] then (0, 0, 9) else (mn (lfq n q z), mx (lfq n q z), 0) := by
  unfold tot
  rw [if_neg (by simp), if_neg (by simpa using h1), if_neg (by simpa using h2)]
  by_cases h : lfq n q z = []
  · rw [if_pos ⟨z, by simp, h⟩, if_pos h]
  · rw [if_neg (by simpa using h), if_neg h]; simp
theorem tot_err {z : Q4} {n q : Int} (h1 : arq z) (h2 : lv n q) : (tot [z] n q).2.2 = 0 ∨ (tot [z] n q).2.2 = 9 := by
  rw [tot1 h1 h2]; split <;> simp
end Go.Xe.TMX
/- What the statement MissNobody comes to. Conditions: none. -/
-- MOD TM
namespace Go.Xe.TMX
open Go Go.Xe Go.Proofs Go.Xe.Mth
open Nat (reduceLeDiff reduceSub reduceAdd reduceEqDiff reduceLT)
open Int (reduceNegSucc reduceEq)
set_option maxRecDepth 100000
set_option maxHeartbeats 3200000
set_option linter.unusedSimpArgs false
theorem lfq_nat (a b c d n q : Nat) : lfq n q ((a : Int), (b : Int), (c : Int), (d : Int)) = leftL a b c d n q := by unfold lfq; simp only [Int.toNat_natCast]
end Go.Xe.TMX
