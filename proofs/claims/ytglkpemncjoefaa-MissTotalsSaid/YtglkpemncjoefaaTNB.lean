/- What the statement MissChances comes to. Conditions: none. -/
import Derived.Test.YtglkpemncjoefaaTMR
-- MOD TM
namespace Go.Xe.TMX
open Go Go.Xe Go.Proofs Go.Xe.Mth
open Nat renaming reduceLeDiff → qA, reduceSub → qB, reduceAdd → qC, reduceEqDiff → qD, reduceLT → qE
open Int renaming reduceNegSucc → qF, reduceEq → qG
open Go.Xe.V renaming seq → sA, block → sB, scope → sC, skip → sD, close → sE
open Go.Xe renaming pth → P
set_option maxRecDepth 100000
set_option maxHeartbeats 3200000
set_option linter.unusedSimpArgs false
noncomputable def d4 : FCode := (.seq (.run (.go (.box 23 (.tmp (P 0))) (P 2)::
.go (.move (.con (.bool false))) (P 4)::
[])) (.seq (.run (.go (.loadN 4 (.tmp (P 2))) (P 13)::
.go (.call (.con (.func (.func 21) ⟨[]⟩ ⟨[]⟩)) [(.tmp (P 13))]) (P 14)::
.go (.move (.tmp (P 1))) (P 15)::
.go (.call (.con (.func (.func 26) ⟨[]⟩ ⟨[]⟩)) [(.tmp (P 14)),(.tmp (P 15))]) (P 16)::
.go (.move (.tmp (P 16))) (P 12)::
.go (.extract (.tmp (P 12)) 0) (P 17)::
.go (.extract (.tmp (P 12)) 1) (P 18)::
.go (.alloc 36 [(.int .i64 (.ofNat 0)),(.int .i64 (.ofNat 0))]) (P 5)::
.un (.store 2 (.tmp (P 5)) (.tmp (P 17)))::
.go (.move (.tmp (P 18))) (P 6)::
[])) (.seq (.run (.go (.loadN 4 (.tmp (P 2))) (P 20)::
.go (.call (.con (.func (.func 21) ⟨[]⟩ ⟨[]⟩)) [(.tmp (P 20))]) (P 21)::
.go (.move (.tmp (P 1))) (P 22)::
.go (.call (.con (.func (.func 27) ⟨[]⟩ ⟨[]⟩)) [(.tmp (P 21)),(.tmp (P 22)),(.con (.bool true))]) (P 23)::
.go (.move (.tmp (P 23))) (P 19)::
.go (.extract (.tmp (P 19)) 0) (P 24)::
.go (.extract (.tmp (P 19)) 1) (P 25)::
.go (.alloc 36 [(.int .i64 (.ofNat 0)),(.int .i64 (.ofNat 0))]) (P 7)::
.un (.store 2 (.tmp (P 7)) (.tmp (P 24)))::
.go (.move (.tmp (P 25))) (P 8)::
[])) (.seq (.run (.go (.loadN 4 (.tmp (P 2))) (P 27)::
.go (.call (.con (.func (.func 21) ⟨[]⟩ ⟨[]⟩)) [(.tmp (P 27))]) (P 28)::
.go (.move (.tmp (P 1))) (P 29)::
.go (.call (.con (.func (.func 27) ⟨[]⟩ ⟨[]⟩)) [(.tmp (P 28)),(.tmp (P 29)),(.con (.bool false))]) (P 30)::
.go (.move (.tmp (P 30))) (P 26)::
.go (.extract (.tmp (P 26)) 0) (P 31)::
.go (.extract (.tmp (P 26)) 1) (P 32)::
.go (.alloc 36 [(.int .i64 (.ofNat 0)),(.int .i64 (.ofNat 0))]) (P 9)::
.un (.store 2 (.tmp (P 9)) (.tmp (P 31)))::
.go (.move (.tmp (P 32))) (P 10)::
[])) (.seq (.run (.go (.loadN 4 (.tmp (P 2))) (P 33)::
.go (.call (.con (.func (.func 22) ⟨[]⟩ ⟨[]⟩)) [(.tmp (P 33))]) (P 34)::
.go (.move (.tmp (P 34))) (P 11)::
[])) (.seq (.seq (.run (.go (.move (.tmp (P 11))) (P 35)::
.go (.bin .eql 24 (.tmp (P 35)) (.con (.int .i64 (.ofNat 0)))) (P 36)::
.go (.move (.tmp (P 36))) (P 37)::
.gd (P 37) true (.move (.tmp (P 1))) (P 38)::
.gd (P 37) true (.fieldAddr 1 (.tmp (P 2))) (P 39)::
.gd (P 37) true (.load1 (.tmp (P 39))) (P 40)::
.gd (P 37) true (.call (.con (.func (.func 23) ⟨[]⟩ ⟨[]⟩)) [(.tmp (P 38)),(.con (.int .i64 (.ofNat 0))),(.tmp (P 40))]) (P 41)::
.gd (P 37) true (.un .not (.tmp (P 41))) (P 42)::
.go (.pick (.tmp (P 37)) (.tmp (P 42)) (.con (.bool false))) (P 43)::
[])) (.cond (.tmp (P 43)) (.run (.go (.move (.con (.int .i64 (.ofNat 2)))) (P 11)::
[])) .skip)) (.seq (.seq (.run (.go (.move (.tmp (P 6))) (P 44)::
.go (.move (.tmp (P 11))) (P 45)::
.go (.bin .neq 24 (.tmp (P 44)) (.tmp (P 45))) (P 46)::
.go (.move (.tmp (P 46))) (P 47)::
.gd (P 47) false (.move (.tmp (P 8))) (P 48)::
.gd (P 47) false (.move (.tmp (P 11))) (P 49)::
.gd (P 47) false (.bin .neq 24 (.tmp (P 48)) (.tmp (P 49))) (P 50)::
.go (.pick (.tmp (P 47)) (.con (.bool true)) (.tmp (P 50))) (P 51)::
.go (.move (.tmp (P 51))) (P 52)::
.gd (P 52) false (.move (.tmp (P 10))) (P 53)::
.gd (P 52) false (.move (.tmp (P 11))) (P 54)::
.gd (P 52) false (.bin .neq 24 (.tmp (P 53)) (.tmp (P 54))) (P 55)::
.go (.pick (.tmp (P 52)) (.con (.bool true)) (.tmp (P 55))) (P 56)::
[])) (.cond (.tmp (P 56)) (.seq (.run (.go (.move (.con (.bool false))) (P 4)::
[])) .ret) .skip)) (.seq (.seq (.run (.go (.move (.tmp (P 11))) (P 57)::
.go (.bin .neq 24 (.tmp (P 57)) (.con (.int .i64 (.ofNat 0)))) (P 58)::
[])) (.cond (.tmp (P 58)) (.seq (.run (.go (.loadN 2 (.tmp (P 5))) (P 59)::
.go (.build [(.int .i64 (.ofNat 0)),(.int .i64 (.ofNat 0))] []) (P 60)::
.go (.bin .eql 36 (.tmp (P 59)) (.tmp (P 60))) (P 61)::
.go (.move (.tmp (P 61))) (P 62)::
.gd (P 62) true (.loadN 2 (.tmp (P 7))) (P 63)::
.gd (P 62) true (.build [(.int .i64 (.ofNat 0)),(.int .i64 (.ofNat 0))] []) (P 64)::
.gd (P 62) true (.bin .eql 36 (.tmp (P 63)) (.tmp (P 64))) (P 65)::
.go (.pick (.tmp (P 62)) (.tmp (P 65)) (.con (.bool false))) (P 66)::
.go (.move (.tmp (P 66))) (P 67)::
.gd (P 67) true (.loadN 2 (.tmp (P 9))) (P 68)::
.gd (P 67) true (.build [(.int .i64 (.ofNat 0)),(.int .i64 (.ofNat 0))] []) (P 69)::
.gd (P 67) true (.bin .eql 36 (.tmp (P 68)) (.tmp (P 69))) (P 70)::
.go (.pick (.tmp (P 67)) (.tmp (P 70)) (.con (.bool false))) (P 71)::
.go (.move (.tmp (P 71))) (P 72)::
.gd (P 72) true (.call (.con (.func (.func 24) ⟨[]⟩ ⟨[]⟩)) []) (P 73)::
.go (.pick (.tmp (P 72)) (.tmp (P 73)) (.con (.bool false))) (P 74)::
.go (.move (.tmp (P 74))) (P 4)::
[])) .ret) .skip)) (.seq (.draw 39 (.go (.loadN 2 (.tmp (P 5))) (P 75)::
.go (.loadN 4 (.tmp (P 2))) (P 76)::
.go (.move (.tmp (P 1))) (P 77)::
.go (.fieldAddr 3 (.tmp (P 2))) (P 78)::
.go (.load1 (.tmp (P 78))) (P 79)::
.go (.fieldAddr 3 (.tmp (P 2))) (P 80)::
.go (.load1 (.tmp (P 80))) (P 81)::
.go (.call (.con (.func (.func 30) ⟨[]⟩ ⟨[]⟩)) [(.tmp (P 76)),(.tmp (P 77)),(.tmp (P 79)),(.tmp (P 81))]) (P 82)::
.go (.call (.con (.func (.func 29) ⟨[]⟩ ⟨[]⟩)) [(.tmp (P 82))]) (P 83)::
.go (.call (.con (.func (.func 28) ⟨[]⟩ ⟨[]⟩)) [(.tmp (P 83))]) (P 84)::
.go (.bin .eql 36 (.tmp (P 75)) (.tmp (P 84))) (P 85)::
.go (.move (.tmp (P 85))) (P 86)::
.gd (P 86) true (.loadN 2 (.tmp (P 7))) (P 87)::
.gd (P 86) true (.loadN 4 (.tmp (P 2))) (P 88)::
.gd (P 86) true (.move (.tmp (P 1))) (P 89)::
.gd (P 86) true (.fieldAddr 3 (.tmp (P 2))) (P 90)::
.gd (P 86) true (.load1 (.tmp (P 90))) (P 91)::
.gd (P 86) true (.call (.con (.func (.func 30) ⟨[]⟩ ⟨[]⟩)) [(.tmp (P 88)),(.tmp (P 89)),(.con (.int .i64 (.ofNat 0))),(.tmp (P 91))]) (P 92)::
.gd (P 86) true (.call (.con (.func (.func 29) ⟨[]⟩ ⟨[]⟩)) [(.tmp (P 92))]) (P 93)::
.gd (P 86) true (.call (.con (.func (.func 28) ⟨[]⟩ ⟨[]⟩)) [(.tmp (P 93))]) (P 94)::
.gd (P 86) true (.bin .eql 36 (.tmp (P 87)) (.tmp (P 94))) (P 95)::
.go (.pick (.tmp (P 86)) (.tmp (P 95)) (.con (.bool false))) (P 96)::
.go (.move (.tmp (P 96))) (P 97)::
.gd (P 97) true (.loadN 2 (.tmp (P 9))) (P 98)::
.gd (P 97) true (.loadN 4 (.tmp (P 2))) (P 99)::
.gd (P 97) true (.move (.tmp (P 1))) (P 100)::
.gd (P 97) true (.fieldAddr 3 (.tmp (P 2))) (P 101)::
.gd (P 97) true (.load1 (.tmp (P 101))) (P 102)::
.gd (P 97) true (.fieldAddr 2 (.tmp (P 2))) (P 103)::
.gd (P 97) true (.load1 (.tmp (P 103))) (P 104)::
.gd (P 97) true (.call (.con (.func (.func 30) ⟨[]⟩ ⟨[]⟩)) [(.tmp (P 99)),(.tmp (P 100)),(.tmp (P 102)),(.tmp (P 104))]) (P 105)::
.gd (P 97) true (.call (.con (.func (.func 29) ⟨[]⟩ ⟨[]⟩)) [(.tmp (P 105))]) (P 106)::
.gd (P 97) true (.call (.con (.func (.func 28) ⟨[]⟩ ⟨[]⟩)) [(.tmp (P 106))]) (P 107)::
.gd (P 97) true (.bin .eql 36 (.tmp (P 98)) (.tmp (P 107))) (P 108)::
.go (.pick (.tmp (P 97)) (.tmp (P 108)) (.con (.bool false))) (P 109)::
.go (.move (.tmp (P 109))) (P 110)::
.gd (P 110) true (.call (.con (.func (.func 24) ⟨[]⟩ ⟨[]⟩)) []) (P 111)::
.go (.pick (.tmp (P 110)) (.tmp (P 111)) (.con (.bool false))) (P 112)::
.go (.move (.tmp (P 112))) (P 4)::
[]) [.rd none (.loadN 2 (.tmp (P 5))) (some (P 75)) [8,9,10],.ok,.ok,.ok,.ok,.ok,.ok,.ok,.ok,.ok,.ok,.ok,.rd (some ((P 86),true)) (.loadN 2 (.tmp (P 7))) (some (P 87)) [18,19,20],.ok,.ok,.ok,.ok,.ok,.ok,.ok,.ok,.ok,.ok,.rd (some ((P 97),true)) (.loadN 2 (.tmp (P 9))) (some (P 98)) [31,32,33],.ok,.ok,.ok,.ok,.ok,.ok,.ok,.ok,.ok,.ok,.ok,.ok,.ok,.ok,.ok]) .ret)))))))))
theorem wf_big {n : Nat} (h : n ≤ 4611686018427387904) : (Lit.int .i64 (n : Int)).wf = true := by
  simp only[Lit.wf, Bool.and_eq_true, decide_eq_true_eq]
  show (-9223372036854775808 : Int) ≤ n ∧ (n : Int) ≤ 9223372036854775807
  omega
end Go.Xe.TMX
/- What the statement MissAll comes to. Conditions: none. -/
-- MOD TM
namespace Go.Xe.TMX
open Go Go.Xe Go.Proofs Go.Xe.Mth
open Nat renaming reduceLeDiff → qA, reduceSub → qB, reduceAdd → qC, reduceEqDiff → qD, reduceLT → qE
open Int renaming reduceNegSucc → qF, reduceEq → qG
open Go.Xe.V renaming seq → sA, block → sB, scope → sC, skip → sD, close → sE
open Go.Xe renaming pth → P
set_option maxRecDepth 100000
set_option maxHeartbeats 3200000
set_option linter.unusedSimpArgs false
theorem ar_nat {a b c d : Int} (h : ar a b c d) : ∃ a' b' c' d' : Nat, a = a' ∧ b = b' ∧ c = c' ∧ d = d' ∧ a' + b' ≤ 50 ∧ c' ≤ a' ∧ d' ≤ c' := by
  obtain ⟨⟨⟨h1, h2⟩, ⟨h3, h4⟩, h5⟩, ⟨h6, h7⟩, h8, h9⟩ := h
  exact ⟨a.toNat, b.toNat, c.toNat, d.toNat, by omega, by omega, by omega, by omega, by omega, by omega, by omega⟩
end Go.Xe.TMX
/- What the functions of the layer miss come to: fractions compared. Conditions: none. -/
-- MOD TM
namespace Go.Xe.TMX
open Go Go.Xe Go.Proofs Go.Xe.Mth
open Nat renaming reduceLeDiff → qA, reduceSub → qB, reduceAdd → qC, reduceEqDiff → qD, reduceLT → qE
open Int renaming reduceNegSucc → qF, reduceEq → qG
open Go.Xe.V renaming seq → sA, block → sB, scope → sC, skip → sD, close → sE
open Go.Xe renaming pth → P
set_option maxRecDepth 100000
set_option maxHeartbeats 3200000
set_option linter.unusedSimpArgs false
noncomputable def d93 : FCode := (.seq (.run (.go (.move (.con (.int .u64 (.ofNat 0)))) (P 4)::
.go (.move (.con (.int .u64 (.ofNat 0)))) (P 5)::
[])) (.seq (.run (.go (.move (.tmp (P 0))) (P 14)::
.go (.bin .and 135 (.tmp (P 14)) (.con (.int .u64 (.ofNat 4294967295)))) (P 15)::
.go (.move (.tmp (P 15))) (P 6)::
[])) (.seq (.run (.go (.move (.tmp (P 0))) (P 16)::
.go (.bin .shr 135 (.tmp (P 16)) (.con (.int .u64 (.ofNat 32)))) (P 17)::
.go (.move (.tmp (P 17))) (P 7)::
[])) (.seq (.run (.go (.move (.tmp (P 1))) (P 18)::
.go (.bin .and 135 (.tmp (P 18)) (.con (.int .u64 (.ofNat 4294967295)))) (P 19)::
.go (.move (.tmp (P 19))) (P 8)::
[])) (.seq (.run (.go (.move (.tmp (P 1))) (P 20)::
.go (.bin .shr 135 (.tmp (P 20)) (.con (.int .u64 (.ofNat 32)))) (P 21)::
.go (.move (.tmp (P 21))) (P 9)::
[])) (.seq (.run (.go (.move (.tmp (P 6))) (P 22)::
.go (.move (.tmp (P 8))) (P 23)::
.go (.bin .mul 135 (.tmp (P 22)) (.tmp (P 23))) (P 24)::
.go (.move (.tmp (P 24))) (P 10)::
[])) (.seq (.run (.go (.move (.tmp (P 7))) (P 25)::
.go (.move (.tmp (P 8))) (P 26)::
.go (.bin .mul 135 (.tmp (P 25)) (.tmp (P 26))) (P 27)::
.go (.move (.tmp (P 10))) (P 28)::
.go (.bin .shr 135 (.tmp (P 28)) (.con (.int .u64 (.ofNat 32)))) (P 29)::
.go (.bin .add 135 (.tmp (P 27)) (.tmp (P 29))) (P 30)::
.go (.move (.tmp (P 30))) (P 11)::
[])) (.seq (.run (.go (.move (.tmp (P 11))) (P 31)::
.go (.bin .and 135 (.tmp (P 31)) (.con (.int .u64 (.ofNat 4294967295)))) (P 32)::
.go (.move (.tmp (P 32))) (P 12)::
[])) (.seq (.run (.go (.move (.tmp (P 11))) (P 33)::
.go (.bin .shr 135 (.tmp (P 33)) (.con (.int .u64 (.ofNat 32)))) (P 34)::
.go (.move (.tmp (P 34))) (P 13)::
[])) (.seq (.run (.go (.move (.tmp (P 12))) (P 35)::
.go (.move (.tmp (P 6))) (P 36)::
.go (.move (.tmp (P 9))) (P 37)::
.go (.bin .mul 135 (.tmp (P 36)) (.tmp (P 37))) (P 38)::
.go (.bin .add 135 (.tmp (P 35)) (.tmp (P 38))) (P 39)::
.go (.move (.tmp (P 39))) (P 12)::
[])) (.seq (.run (.go (.move (.tmp (P 7))) (P 40)::
.go (.move (.tmp (P 9))) (P 41)::
.go (.bin .mul 135 (.tmp (P 40)) (.tmp (P 41))) (P 42)::
.go (.move (.tmp (P 13))) (P 43)::
.go (.bin .add 135 (.tmp (P 42)) (.tmp (P 43))) (P 44)::
.go (.move (.tmp (P 12))) (P 45)::
.go (.bin .shr 135 (.tmp (P 45)) (.con (.int .u64 (.ofNat 32)))) (P 46)::
.go (.bin .add 135 (.tmp (P 44)) (.tmp (P 46))) (P 47)::
.go (.move (.tmp (P 47))) (P 4)::
[])) (.seq (.run (.go (.move (.tmp (P 0))) (P 48)::
.go (.move (.tmp (P 1))) (P 49)::
.go (.bin .mul 135 (.tmp (P 48)) (.tmp (P 49))) (P 50)::
.go (.move (.tmp (P 50))) (P 5)::
[])) .ret))))))))))))
theorem de93 : @compF Try.prog (Gl.none Try.prog) Try.f93 2 = .mk d93 (mkTT 51) [(P 0),(P 1)] [.tmp (P 4),.tmp (P 5)] := by kernel_rfl
theorem dg93 : Try.prog.funcs[93]? = some Try.f93 := Try.func93
theorem do93 : okF Try.prog Try.f93 = true := by kernel_rfl
noncomputable def d110 : FCode := (.seq (.run (.go (.move (.con (.bool false))) (P 2)::
[])) (.seq (.run (.go (.move (.tmp (P 0))) (P 3)::
.go (.move (.tmp (P 0))) (P 4)::
.go (.bin .neq 135 (.tmp (P 3)) (.tmp (P 4))) (P 5)::
.go (.move (.tmp (P 5))) (P 2)::
[])) .ret))
theorem de110 : @compF Try.prog (Gl.none Try.prog) Try.f110 1 = .mk d110 (mkTT 6) [(P 0)] [.tmp (P 2)] := by kernel_rfl
theorem dg110 : Try.prog.funcs[110]? = some Try.f110 := Try.func110
theorem do110 : okF Try.prog Try.f110 = true := by kernel_rfl
noncomputable def d95 : FCode := (.seq (.run (.go (.move (.con (.int .i64 (.ofNat 0)))) (P 4)::
[])) (.seq (.run (.go (.move (.tmp (P 0))) (P 7)::
.go (.call (.con (.func (.func 110) ⟨[]⟩ ⟨[]⟩)) [(.tmp (P 7))]) (P 8)::
.go (.move (.tmp (P 8))) (P 5)::
[])) (.seq (.run (.go (.move (.tmp (P 1))) (P 9)::
.go (.call (.con (.func (.func 110) ⟨[]⟩ ⟨[]⟩)) [(.tmp (P 9))]) (P 10)::
.go (.move (.tmp (P 10))) (P 6)::
[])) (.seq (.seq (.run (.go (.move (.tmp (P 5))) (P 11)::
[])) (.cond (.tmp (P 11)) (.seq (.seq (.run (.go (.move (.tmp (P 6))) (P 12)::
[])) (.cond (.tmp (P 12)) (.seq (.run (.go (.move (.con (.int .i64 (.ofNat 0)))) (P 4)::
[])) .ret) .skip)) (.seq (.run (.go (.move (.con (.int .i64 (.negSucc 0)))) (P 4)::
[])) .ret)) .skip)) (.seq (.seq (.run (.go (.move (.tmp (P 6))) (P 13)::
[])) (.cond (.tmp (P 13)) (.seq (.run (.go (.move (.con (.int .i64 (.ofNat 1)))) (P 4)::
[])) .ret) .skip)) (.seq (.seq (.run (.go (.move (.tmp (P 0))) (P 14)::
.go (.move (.tmp (P 1))) (P 15)::
.go (.bin .lss 135 (.tmp (P 14)) (.tmp (P 15))) (P 16)::
[])) (.cond (.tmp (P 16)) (.seq (.run (.go (.move (.con (.int .i64 (.negSucc 0)))) (P 4)::
[])) .ret) .skip)) (.seq (.seq (.run (.go (.move (.tmp (P 0))) (P 17)::
.go (.move (.tmp (P 1))) (P 18)::
.go (.bin .gtr 135 (.tmp (P 17)) (.tmp (P 18))) (P 19)::
[])) (.cond (.tmp (P 19)) (.seq (.run (.go (.move (.con (.int .i64 (.ofNat 1)))) (P 4)::
[])) .ret) .skip)) (.seq (.run (.go (.move (.con (.int .i64 (.ofNat 0)))) (P 4)::
[])) .ret))))))))
theorem de95 : @compF Try.prog (Gl.none Try.prog) Try.f95 2 = .mk d95 (mkTT 20) [(P 0),(P 1)] [.tmp (P 4)] := by kernel_rfl
theorem dg95 : Try.prog.funcs[95]? = some Try.f95 := Try.func95
theorem do95 : okF Try.prog Try.f95 = true := by kernel_rfl
abbrev Q (n : Nat) : Value := .int .u64 (n : Int)
theorem wrap_u (x : Int) : IntKind.u64.wrap x = x % 18446744073709551616 := by
  unfold IntKind.wrap
  have e1 : (2 ^ IntKind.u64.bits : Int) = 18446744073709551616 := by decide
  have e2 : IntKind.u64.signed = false := rfl
  simp only[e1, e2, Bool.false_and, Bool.false_eq_true, if_false]
theorem wrap_u64 {n : Nat} (h : n < 18446744073709551616) : IntKind.u64.wrap (n : Int) = n := by
  rw [wrap_u]; omega
theorem and32 {ty : TypeId} {n : Nat} (h : n < 18446744073709551616) : xbinOp Try.prog .and ty (Q n) (.int .u64 4294967295) = some (Q (n % 4294967296)) := by
  have e : (BitVec.ofInt 64 (n : Int) &&& BitVec.ofInt 64 4294967295).toNat = n % 4294967296 := by
    rw [BitVec.toNat_and]
    have e1 : (BitVec.ofInt 64 (n : Int)).toNat = n := by
      rw [BitVec.toNat_ofInt]; show ((n : Int) % 18446744073709551616).toNat = n; omega
    have e2 : (BitVec.ofInt 64 4294967295).toNat = 2 ^ 32 - 1 := by rfl
    rw [e1, e2, Nat.and_two_pow_sub_one_eq_mod]
  show some (Value.int .u64 (IntKind.u64.wrap (((BitVec.ofInt 64 (n : Int) &&& BitVec.ofInt 64 4294967295).toNat : Nat) : Int))) = _
  rw [e, wrap_u64 (by omega)]
theorem shr32 {ty : TypeId} {n : Nat} : xbinOp Try.prog .shr ty (Q n) (.int .u64 32) = some (Q (n / 4294967296)) := by
  show (if (32 : Int) < 0 then none else some (Value.int .u64 ((n : Int).fdiv (2 ^ (min (32 : Int).toNat 64))))) = _
  rw [if_neg (by omega)]
  have e : (2 : Int) ^ (min (32 : Int).toNat 64) = 4294967296 := by decide
  rw [e, Int.fdiv_eq_ediv_of_nonneg _ (by omega)]
  rfl
theorem mul64 {x y : Nat} : ∃ A B C D, A = (x / 4294967296) * (y / 4294967296) ∧ B = (x / 4294967296) * (y % 4294967296) ∧ C = (x % 4294967296) * (y / 4294967296) ∧ D = (x % 4294967296) * (y % 4294967296) ∧ x * y = A * 18446744073709551616 + (B + C) * 4294967296 + D := by
  refine ⟨_, _, _, _, rfl, rfl, rfl, rfl, ?_⟩
  have hx : x = x / 4294967296 * 4294967296 + x % 4294967296 := by omega
  have hy : y = y / 4294967296 * 4294967296 + y % 4294967296 := by omega
  generalize x / 4294967296 = x1 at *
  generalize x % 4294967296 = x0 at *
  generalize y / 4294967296 = y1 at *
  generalize y % 4294967296 = y0 at *
  subst hx hy
  have e1 : x1 * 4294967296 * (y1 * 4294967296) = x1 * y1 * 18446744073709551616 := by rw [Nat.mul_mul_mul_comm]
  have e2 : x1 * 4294967296 * y0 = x1 * y0 * 4294967296 := Nat.mul_right_comm _ _ _
  have e3 : x0 * (y1 * 4294967296) = x0 * y1 * 4294967296 := (Nat.mul_assoc _ _ _).symm
  rw [Nat.add_mul, Nat.mul_add, Nat.mul_add, e1, e2, e3]
  omega
theorem f93_ok {x y : Nat} (hx : x < 18446744073709551616) (hy : y < 18446744073709551616) (H : Heap) : Gives Try.prog 93 [Q x, Q y] H (.tuple ⟨[Q (x * y / 18446744073709551616), Q (x * y % 18446744073709551616)]⟩) := by
  obtain ⟨A, B, C, D, hA', hB, hC, hD, hs⟩ := mul64 (x := x) (y := y)
  have a0 : x % 4294967296 ≤ 4294967295 := by omega
  have a1 : x / 4294967296 ≤ 4294967295 := by omega
  have b0 : y % 4294967296 ≤ 4294967295 := by omega
  have b1 : y / 4294967296 ≤ 4294967295 := by omega
  have A1 : A ≤ 4294967295 * 4294967295 := hA' ▸ Nat.mul_le_mul a1 b1
  have B1 : B ≤ 4294967295 * 4294967295 := hB ▸ Nat.mul_le_mul a1 b0
  have C1 : C ≤ 4294967295 * 4294967295 := hC ▸ Nat.mul_le_mul a0 b1
  have D1 : D ≤ 4294967295 * 4294967295 := hD ▸ Nat.mul_le_mul a0 b0
  have p1 : ((x % 4294967296 : Nat) : Int) * ((y % 4294967296 : Nat) : Int) = (D : Int) := by rw [hD]; rfl
  have p2 : ((x / 4294967296 : Nat) : Int) * ((y % 4294967296 : Nat) : Int) = (B : Int) := by rw [hB]; rfl
  have p3 : ((x % 4294967296 : Nat) : Int) * ((y / 4294967296 : Nat) : Int) = (C : Int) := by rw [hC]; rfl
  have p4 : ((x / 4294967296 : Nat) : Int) * ((y / 4294967296 : Nat) : Int) = (A : Int) := by rw [hA']; rfl
  have p5 : (x : Int) * (y : Int) = ((x * y : Nat) : Int) := rfl
  have w1 := wrap_u64 (n := D) (by omega)
  have w2 := wrap_u64 (n := B) (by omega)
  have w3 := wrap_u64 (n := C) (by omega)
  have w4 := wrap_u64 (n := A) (by omega)
  have s1 : (B : Int) + ((D / 4294967296 : Nat) : Int) = ((B + D / 4294967296 : Nat) : Int) := rfl
  have w5 := wrap_u64 (n := B + D / 4294967296) (by omega)
  have s2 : (((B + D / 4294967296) % 4294967296 : Nat) : Int) + (C : Int) = (((B + D / 4294967296) % 4294967296 + C : Nat) : Int) := rfl
  have w6 := wrap_u64 (n := (B + D / 4294967296) % 4294967296 + C) (by omega)
  have s3 : (A : Int) + (((B + D / 4294967296) / 4294967296 : Nat) : Int) = ((A + (B + D / 4294967296) / 4294967296 : Nat) : Int) := rfl
  have w7 := wrap_u64 (n := A + (B + D / 4294967296) / 4294967296) (by omega)
  have s4 : ((A + (B + D / 4294967296) / 4294967296 : Nat) : Int) + ((((B + D / 4294967296) % 4294967296 + C) / 4294967296 : Nat) : Int) = ((x * y / 18446744073709551616 : Nat) : Int) := by
    rw [← Int.natCast_add]; congr 1; omega
  have hxy : x * y / 18446744073709551616 < 18446744073709551616 := by omega
  have w8 := wrap_u64 (n := x * y / 18446744073709551616) hxy
  have w9 : IntKind.u64.wrap ((x * y : Nat) : Int) = ((x * y % 18446744073709551616 : Nat) : Int) := by
    rw [wrap_u]; rfl
  have m1 := fun (ty : TypeId) (n : Nat) (h : n < 18446744073709551616) => and32 (ty := ty) (n := n) h
  have m2 := m1 135 x hx
  have m3 := m1 135 y hy
  have m4 := m1 135 (B + D / 4294967296) (by omega)
  have h1 := shr32 (ty := 135) (n := x)
  have h2 := shr32 (ty := 135) (n := y)
  have h3 := shr32 (ty := 135) (n := D)
  have h4 := shr32 (ty := 135) (n := B + D / 4294967296)
  have h5 := shr32 (ty := 135) (n := (B + D / 4294967296) % 4294967296 + C)
  refine F.entryL rfl dg93 do93 de93 rfl (by kernel_rfl) ?_
  simp only[sets]
  refine V.re [(0, Q x), (1, Q y)] (N := 51) (by intro i; simp only[full_st, Full.mk]) (by simp only[Kn, gt_st, full_st, Full.mk, ↓reduceIte, qD, qE, decide_true, and_self]) ?_
  intro t hF hA
  simp only[Kn, and_true] at hA
  (repeat first|apply sA|apply sB|apply sC|apply sD|apply sE)
  refine V.line' (by simp +contextual (disch := first|omega|simp only[nx];omega) only[D4,qF,qG,qA,qB,qC,D5,hF,hA,↓reduceIte,qD,qE]; with_reducible rfl) ?_
  (repeat first|apply sA|apply sB|apply sC|apply sD|apply sE)
  refine V.line' (by simp +contextual (disch := first|omega|simp only[nx];omega) only[D4,qF,qG,qA,qB,qC,D5,hF,hA,↓reduceIte,qD,qE, m2]; with_reducible rfl) ?_
  (repeat first|apply sA|apply sB|apply sC|apply sD|apply sE)
  refine V.line' (by simp +contextual (disch := first|omega|simp only[nx];omega) only[D4,qF,qG,qA,qB,qC,D5,hF,hA,↓reduceIte,qD,qE, h1]; with_reducible rfl) ?_
  (repeat first|apply sA|apply sB|apply sC|apply sD|apply sE)
  refine V.line' (by simp +contextual (disch := first|omega|simp only[nx];omega) only[D4,qF,qG,qA,qB,qC,D5,hF,hA,↓reduceIte,qD,qE, m3]; with_reducible rfl) ?_
  (repeat first|apply sA|apply sB|apply sC|apply sD|apply sE)
  refine V.line' (by simp +contextual (disch := first|omega|simp only[nx];omega) only[D4,qF,qG,qA,qB,qC,D5,hF,hA,↓reduceIte,qD,qE, h2]; with_reducible rfl) ?_
  (repeat first|apply sA|apply sB|apply sC|apply sD|apply sE)
  refine V.re [(0, Q x), (1, Q y), (6, Q (x % 4294967296)), (7, Q (x / 4294967296)), (8, Q (y % 4294967296)), (9, Q (y / 4294967296))] (N := 51) (by intro;simp only[full_st,hF]) (by simp only[Kn, D5,hF,hA,↓reduceIte,qD,qE,and_self,and_true,true_and];try (repeat' constructor)) ?_
  clear hF hA
  intro t hF hA
  simp only[Kn, and_true] at hA
  refine V.line' (by simp +contextual (disch := first|omega|simp only[nx];omega) only[D4,qF,qG,qA,qB,qC,D5,hF,hA,↓reduceIte,qD,qE, p1, w1]; with_reducible rfl) ?_
  (repeat first|apply sA|apply sB|apply sC|apply sD|apply sE)
  refine V.line' (by simp +contextual (disch := first|omega|simp only[nx];omega) only[D4,qF,qG,qA,qB,qC,D5,hF,hA,↓reduceIte,qD,qE, p2, w2, h3, s1, w5]; with_reducible rfl) ?_
  (repeat first|apply sA|apply sB|apply sC|apply sD|apply sE)
  refine V.line' (by simp +contextual (disch := first|omega|simp only[nx];omega) only[D4,qF,qG,qA,qB,qC,D5,hF,hA,↓reduceIte,qD,qE, m4]; with_reducible rfl) ?_
  (repeat first|apply sA|apply sB|apply sC|apply sD|apply sE)
  refine V.line' (by simp +contextual (disch := first|omega|simp only[nx];omega) only[D4,qF,qG,qA,qB,qC,D5,hF,hA,↓reduceIte,qD,qE, h4]; with_reducible rfl) ?_
  (repeat first|apply sA|apply sB|apply sC|apply sD|apply sE)
  refine V.re [(0, Q x), (1, Q y), (6, Q (x % 4294967296)), (7, Q (x / 4294967296)), (9, Q (y / 4294967296)), (12, Q ((B + D / 4294967296) % 4294967296)), (13, Q ((B + D / 4294967296) / 4294967296))] (N := 51) (by intro;simp only[full_st,hF]) (by simp only[Kn, D5,hF,hA,↓reduceIte,qD,qE,and_self,and_true,true_and];try (repeat' constructor)) ?_
  clear hF hA
  intro t hF hA
  simp only[Kn, and_true] at hA
  refine V.line' (by simp +contextual (disch := first|omega|simp only[nx];omega) only[D4,qF,qG,qA,qB,qC,D5,hF,hA,↓reduceIte,qD,qE, p3, w3, s2, w6]; with_reducible rfl) ?_
  (repeat first|apply sA|apply sB|apply sC|apply sD|apply sE)
  refine V.line' (by simp +contextual (disch := first|omega|simp only[nx];omega) only[D4,qF,qG,qA,qB,qC,D5,hF,hA,↓reduceIte,qD,qE, p4, w4, s3, w7, h5, s4, w8]; with_reducible rfl) ?_
  (repeat first|apply sA|apply sB|apply sC|apply sD|apply sE)
  refine V.line' (by simp +contextual (disch := first|omega|simp only[nx];omega) only[D4,qF,qG,qA,qB,qC,D5,hF,hA,↓reduceIte,qD,qE, p5, w9]; with_reducible rfl) ?_
  (repeat first|apply sA|apply sB|apply sC|apply sD|apply sE)
  refine V.ret (V.rets rfl (Lv.retG (by simp +contextual (disch := first|omega|simp only[nx];omega) only[D1, cells_alloc_at, cells_alloc_ne, cells_set_at, cells_set_ne, yres, yres1, yresL, qA, qB, qC, D5,hF,hA,↓reduceIte,qD,qE]; rfl) ?_ ?_))
  · (repeat first | assumption | exact Grow.refl _ | refine Grow.alloc ?_ _ | refine Grow.set ?_ (by first|omega|simp only[nx];omega) _)
  · rfl
def cmpN (a b : Nat) : Int := if a < b then -1 else if b < a then 1 else 0
theorem f110_ok (x : Nat) (H : Heap) : Gives Try.prog 110 [Q x] H (.bool false) := by
  refine F.entryL rfl dg110 do110 de110 rfl (by kernel_rfl) ?_
  simp only[sets]
  refine V.re [(0, Q x)] (N := 6) (by intro i; simp only[full_st, Full.mk]) (by simp only[Kn, gt_st, full_st, Full.mk, ↓reduceIte, qD, qE, decide_true, and_self]) ?_
  intro t hF hA
  simp only[Kn, and_true] at hA
  (repeat first|apply sA|apply sB|apply sC|apply sD|apply sE)
  refine V.line' (by simp +contextual (disch := first|omega|simp only[nx];omega) only[D4,qF,qG,qA,qB,qC,D5,hF,hA,↓reduceIte,qD,qE]; with_reducible rfl) ?_
  (repeat first|apply sA|apply sB|apply sC|apply sD|apply sE)
  refine V.line' (by simp +contextual (disch := first|omega|simp only[nx];omega) only[D4,qF,qG,qA,qB,qC,D5,hF,hA,↓reduceIte,qD,qE, ne_eq, not_true_eq_false]; with_reducible rfl) ?_
  (repeat first|apply sA|apply sB|apply sC|apply sD|apply sE)
  refine V.ret (V.rets rfl (Lv.retG (by simp +contextual (disch := first|omega|simp only[nx];omega) only[D1, cells_alloc_at, cells_alloc_ne, cells_set_at, cells_set_ne, yres, yres1, yresL, qA, qB, qC, D5,hF,hA,↓reduceIte,qD,qE]; rfl) ?_ ?_))
  · (repeat first | assumption | exact Grow.refl _ | refine Grow.alloc ?_ _ | refine Grow.set ?_ (by first|omega|simp only[nx];omega) _)
  · rfl
theorem f95_ok (x y : Nat) (H : Heap) : Gives Try.prog 95 [Q x, Q y] H (I (cmpN x y)) := by
  refine F.entryL rfl dg95 do95 de95 rfl (by kernel_rfl) ?_
  simp only[sets]
  refine V.re [(0, Q x), (1, Q y)] (N := 20) (by intro i; simp only[full_st, Full.mk]) (by simp only[Kn, gt_st, full_st, Full.mk, ↓reduceIte, qD, qE, decide_true, and_self]) ?_
  intro t hF hA
  simp only[Kn, and_true] at hA
  (repeat first|apply sA|apply sB|apply sC|apply sD|apply sE)
  refine V.line' (by simp +contextual (disch := first|omega|simp only[nx];omega) only[D4,qF,qG,qA,qB,qC,D5,hF,hA,↓reduceIte,qD,qE]; with_reducible rfl) ?_
  (repeat first|apply sA|apply sB|apply sC|apply sD|apply sE)
  refine V.run ?_
  refine VI.steps' 1 (by simp +contextual (disch := first|omega|simp only[nx];omega) only[D4,qF,qG,qA,qB,qC,D5,hF,hA,↓reduceIte,qD,qE]; with_reducible rfl) ?_
  simp only[ds]
  refine VI.callA rfl (f110_ok x _) (by simp only[D6,D5,hF,hA,↓reduceIte,qD,qE]; try rfl) (fun H1 g1 => ?_)
  refine VI.line' (by simp +contextual (disch := first|omega|simp only[nx];omega) only[D4,qF,qG,qA,qB,qC,D5,hF,hA,↓reduceIte,qD,qE]; with_reducible rfl) ?_
  (repeat first|apply sA|apply sB|apply sC|apply sD|apply sE)
  refine V.run ?_
  refine VI.steps' 1 (by simp +contextual (disch := first|omega|simp only[nx];omega) only[D4,qF,qG,qA,qB,qC,D5,hF,hA,↓reduceIte,qD,qE]; with_reducible rfl) ?_
  simp only[ds]
  refine VI.callA rfl (f110_ok y _) (by simp only[D6,D5,hF,hA,↓reduceIte,qD,qE]; try rfl) (fun H2 g2 => ?_)
  have gg := g1.trans g2
  refine VI.line' (by simp +contextual (disch := first|omega|simp only[nx];omega) only[D4,qF,qG,qA,qB,qC,D5,hF,hA,↓reduceIte,qD,qE]; with_reducible rfl) ?_
  (repeat first|apply sA|apply sB|apply sC|apply sD|apply sE)
  refine V.line' (by simp +contextual (disch := first|omega|simp only[nx];omega) only[D4,qF,qG,qA,qB,qC,D5,hF,hA,↓reduceIte,qD,qE]; with_reducible rfl) ?_
  (repeat first|apply sA|apply sB|apply sC|apply sD|apply sE)
  refine V.condF (by simp only[D6,D5,hF,hA,↓reduceIte,qD,qE]) ?_
  (repeat first|apply sA|apply sB|apply sC|apply sD|apply sE)
  refine V.line' (by simp +contextual (disch := first|omega|simp only[nx];omega) only[D4,qF,qG,qA,qB,qC,D5,hF,hA,↓reduceIte,qD,qE]; with_reducible rfl) ?_
  (repeat first|apply sA|apply sB|apply sC|apply sD|apply sE)
  refine V.condF (by simp only[D6,D5,hF,hA,↓reduceIte,qD,qE]) ?_
  (repeat first|apply sA|apply sB|apply sC|apply sD|apply sE)
  refine V.line' (by simp +contextual (disch := first|omega|simp only[nx];omega) only[D4,qF,qG,qA,qB,qC,D5,hF,hA,↓reduceIte,qD,qE]; with_reducible rfl) ?_
  (repeat first|apply sA|apply sB|apply sC|apply sD|apply sE)
  refine V.condP (by simp only[D6,D5,hF,hA,↓reduceIte,qD,qE]; rfl) (fun h => ?_) (fun h => ?_)
  · (repeat first|apply sA|apply sB|apply sC|apply sD|apply sE)
    refine V.line' (by simp +contextual (disch := first|omega|simp only[nx];omega) only[D4,qF,qG,qA,qB,qC,D5,hF,hA,↓reduceIte,qD,qE]; with_reducible rfl) ?_
    (repeat first|apply sA|apply sB|apply sC|apply sD|apply sE)
    refine V.ret (V.rets rfl (Lv.retG (by simp +contextual (disch := first|omega|simp only[nx];omega) only[D1, cells_alloc_at, cells_alloc_ne, cells_set_at, cells_set_ne, yres, yres1, yresL, qA, qB, qC, D5,hF,hA,↓reduceIte,qD,qE]; rfl) ?_ ?_))
    · exact gg
    · unfold cmpN; rw [if_pos (by omega)]
  (repeat first|apply sA|apply sB|apply sC|apply sD|apply sE)
  refine V.line' (by simp +contextual (disch := first|omega|simp only[nx];omega) only[D4,qF,qG,qA,qB,qC,D5,hF,hA,↓reduceIte,qD,qE]; with_reducible rfl) ?_
  (repeat first|apply sA|apply sB|apply sC|apply sD|apply sE)
  refine V.condP (by simp only[D6,D5,hF,hA,↓reduceIte,qD,qE]; rfl) (fun h1 => ?_) (fun h1 => ?_)
  · (repeat first|apply sA|apply sB|apply sC|apply sD|apply sE)
    refine V.line' (by simp +contextual (disch := first|omega|simp only[nx];omega) only[D4,qF,qG,qA,qB,qC,D5,hF,hA,↓reduceIte,qD,qE]; with_reducible rfl) ?_
    (repeat first|apply sA|apply sB|apply sC|apply sD|apply sE)
    refine V.ret (V.rets rfl (Lv.retG (by simp +contextual (disch := first|omega|simp only[nx];omega) only[D1, cells_alloc_at, cells_alloc_ne, cells_set_at, cells_set_ne, yres, yres1, yresL, qA, qB, qC, D5,hF,hA,↓reduceIte,qD,qE]; rfl) ?_ ?_))
    · exact gg
    · unfold cmpN; rw [if_neg (by omega), if_pos (by omega)]
  (repeat first|apply sA|apply sB|apply sC|apply sD|apply sE)
  refine V.line' (by simp +contextual (disch := first|omega|simp only[nx];omega) only[D4,qF,qG,qA,qB,qC,D5,hF,hA,↓reduceIte,qD,qE]; with_reducible rfl) ?_
  (repeat first|apply sA|apply sB|apply sC|apply sD|apply sE)
  refine V.ret (V.rets rfl (Lv.retG (by simp +contextual (disch := first|omega|simp only[nx];omega) only[D1, cells_alloc_at, cells_alloc_ne, cells_set_at, cells_set_ne, yres, yres1, yresL, qA, qB, qC, D5,hF,hA,↓reduceIte,qD,qE]; rfl) ?_ ?_))
  · exact gg
  · unfold cmpN; rw [if_neg (by omega), if_neg (by omega)]
end Go.Xe.TMX
