/- What the statement MissChances comes to. Conditions: none. -/
import Derived.Test.YtefoodhfkkcmcabTMR
-- MOD TM
namespace Go.Xe.TMX
open Go Go.Xe Go.Proofs Go.Xe.Mth
open Nat (reduceLeDiff reduceSub reduceAdd reduceEqDiff reduceLT)
open Int (reduceNegSucc reduceEq)
set_option maxRecDepth 100000
set_option maxHeartbeats 3200000
set_option linter.unusedSimpArgs false
noncomputable def d27 : FCode := (.seq (.run (.go (.box 28 (.tmp (pth 0))) (pth 3)::
.go (.alloc 36 [(.int .i64 (.ofNat 0)),(.int .i64 (.ofNat 0))]) (pth 6)::
.go (.move (.con (.int .i64 (.ofNat 0)))) (pth 7)::
[])) (.seq (.run (.go (.loadN 4 (.tmp (pth 3))) (pth 12)::
.go (.move (.tmp (pth 1))) (pth 13)::
.go (.call (.con (.func (.func 56) ⟨[]⟩ ⟨[]⟩)) [(.tmp (pth 12)),(.tmp (pth 13))]) (pth 14)::
.go (.move (.tmp (pth 14))) (pth 11)::
.go (.extract (.tmp (pth 11)) 0) (pth 15)::
.go (.extract (.tmp (pth 11)) 1) (pth 16)::
.go (.alloc 92 [(.int .i64 (.ofNat 0)),(.int .i64 (.ofNat 0)),(.int .i64 (.ofNat 0)),(.int .i64 (.ofNat 0)),.nilFunc]) (pth 8)::
.un (.store 5 (.tmp (pth 8)) (.tmp (pth 15)))::
.go (.move (.tmp (pth 16))) (pth 9)::
[])) (.seq (.seq (.run (.go (.move (.tmp (pth 9))) (pth 17)::
.go (.bin .neq 24 (.tmp (pth 17)) (.con (.int .i64 (.ofNat 0)))) (pth 18)::
[])) (.cond (.tmp (pth 18)) (.seq (.run (.go (.build [(.int .i64 (.ofNat 0)),(.int .i64 (.ofNat 0))] []) (pth 19)::
.go (.move (.tmp (pth 9))) (pth 20)::
.un (.store 2 (.tmp (pth 6)) (.tmp (pth 19)))::
.go (.move (.tmp (pth 20))) (pth 7)::
[])) .ret) .skip)) (.seq (.run (.go (.call (.con (.func (.func 58) ⟨[]⟩ ⟨[]⟩)) []) (pth 21)::
.go (.alloc 98 [.nilFunc]) (pth 10)::
.un (.store 1 (.tmp (pth 10)) (.tmp (pth 21)))::
[])) (.seq (.seq (.run (.go (.move (.tmp (pth 2))) (pth 22)::
[])) (.cond (.tmp (pth 22)) (.run (.go (.call (.con (.func (.func 59) ⟨[]⟩ ⟨[]⟩)) []) (pth 23)::
.un (.store 1 (.tmp (pth 10)) (.tmp (pth 23)))::
[])) .skip)) (.seq (.draw 7 (.go (.loadN 1 (.tmp (pth 10))) (pth 24)::
.go (.loadN 5 (.tmp (pth 8))) (pth 25)::
.go (.move (.tmp (pth 1))) (pth 26)::
.go (.call (.con (.func (.func 61) ⟨[]⟩ ⟨[]⟩)) [(.tmp (pth 25)),(.tmp (pth 26))]) (pth 27)::
.go (.call (.con (.func (.func 60) ⟨[]⟩ ⟨[]⟩)) [(.tmp (pth 24)),(.tmp (pth 27))]) (pth 28)::
.un (.store 2 (.tmp (pth 6)) (.tmp (pth 28)))::
.go (.move (.con (.int .i64 (.ofNat 0)))) (pth 7)::
[]) [.rd none (.loadN 1 (.tmp (pth 10))) (some (pth 24)) [4],.ok,.ok,.ok,.ok,.ok,.ok]) .ret))))))
theorem de27 : @compF Try.prog (Gl.none Try.prog) Try.f27 3 = .mk d27 (mkTT 29) [(pth 0),(pth 1),(pth 2)] [.many (pth 6) 2,.tmp (pth 7)] := by kernel_rfl
theorem dg27 : Try.prog.funcs[27]? = some Try.f27 := Try.func27
theorem do27 : okF Try.prog Try.f27 = true := by kernel_rfl
noncomputable def d4 : FCode := (.seq (.run (.go (.box 23 (.tmp (pth 0))) (pth 2)::
.go (.move (.con (.bool false))) (pth 4)::
[])) (.seq (.run (.go (.loadN 4 (.tmp (pth 2))) (pth 13)::
.go (.call (.con (.func (.func 21) ⟨[]⟩ ⟨[]⟩)) [(.tmp (pth 13))]) (pth 14)::
.go (.move (.tmp (pth 1))) (pth 15)::
.go (.call (.con (.func (.func 26) ⟨[]⟩ ⟨[]⟩)) [(.tmp (pth 14)),(.tmp (pth 15))]) (pth 16)::
.go (.move (.tmp (pth 16))) (pth 12)::
.go (.extract (.tmp (pth 12)) 0) (pth 17)::
.go (.extract (.tmp (pth 12)) 1) (pth 18)::
.go (.alloc 36 [(.int .i64 (.ofNat 0)),(.int .i64 (.ofNat 0))]) (pth 5)::
.un (.store 2 (.tmp (pth 5)) (.tmp (pth 17)))::
.go (.move (.tmp (pth 18))) (pth 6)::
[])) (.seq (.run (.go (.loadN 4 (.tmp (pth 2))) (pth 20)::
.go (.call (.con (.func (.func 21) ⟨[]⟩ ⟨[]⟩)) [(.tmp (pth 20))]) (pth 21)::
.go (.move (.tmp (pth 1))) (pth 22)::
.go (.call (.con (.func (.func 27) ⟨[]⟩ ⟨[]⟩)) [(.tmp (pth 21)),(.tmp (pth 22)),(.con (.bool true))]) (pth 23)::
.go (.move (.tmp (pth 23))) (pth 19)::
.go (.extract (.tmp (pth 19)) 0) (pth 24)::
.go (.extract (.tmp (pth 19)) 1) (pth 25)::
.go (.alloc 36 [(.int .i64 (.ofNat 0)),(.int .i64 (.ofNat 0))]) (pth 7)::
.un (.store 2 (.tmp (pth 7)) (.tmp (pth 24)))::
.go (.move (.tmp (pth 25))) (pth 8)::
[])) (.seq (.run (.go (.loadN 4 (.tmp (pth 2))) (pth 27)::
.go (.call (.con (.func (.func 21) ⟨[]⟩ ⟨[]⟩)) [(.tmp (pth 27))]) (pth 28)::
.go (.move (.tmp (pth 1))) (pth 29)::
.go (.call (.con (.func (.func 27) ⟨[]⟩ ⟨[]⟩)) [(.tmp (pth 28)),(.tmp (pth 29)),(.con (.bool false))]) (pth 30)::
.go (.move (.tmp (pth 30))) (pth 26)::
.go (.extract (.tmp (pth 26)) 0) (pth 31)::
.go (.extract (.tmp (pth 26)) 1) (pth 32)::
.go (.alloc 36 [(.int .i64 (.ofNat 0)),(.int .i64 (.ofNat 0))]) (pth 9)::
.un (.store 2 (.tmp (pth 9)) (.tmp (pth 31)))::
.go (.move (.tmp (pth 32))) (pth 10)::
[])) (.seq (.run (.go (.loadN 4 (.tmp (pth 2))) (pth 33)::
.go (.call (.con (.func (.func 22) ⟨[]⟩ ⟨[]⟩)) [(.tmp (pth 33))]) (pth 34)::
.go (.move (.tmp (pth 34))) (pth 11)::
[])) (.seq (.seq (.run (.go (.move (.tmp (pth 11))) (pth 35)::
.go (.bin .eql 24 (.tmp (pth 35)) (.con (.int .i64 (.ofNat 0)))) (pth 36)::
.go (.move (.tmp (pth 36))) (pth 37)::
.gd (pth 37) true (.move (.tmp (pth 1))) (pth 38)::
.gd (pth 37) true (.fieldAddr 1 (.tmp (pth 2))) (pth 39)::
.gd (pth 37) true (.load1 (.tmp (pth 39))) (pth 40)::
.gd (pth 37) true (.call (.con (.func (.func 23) ⟨[]⟩ ⟨[]⟩)) [(.tmp (pth 38)),(.con (.int .i64 (.ofNat 0))),(.tmp (pth 40))]) (pth 41)::
.gd (pth 37) true (.un .not (.tmp (pth 41))) (pth 42)::
.go (.pick (.tmp (pth 37)) (.tmp (pth 42)) (.con (.bool false))) (pth 43)::
[])) (.cond (.tmp (pth 43)) (.run (.go (.move (.con (.int .i64 (.ofNat 2)))) (pth 11)::
[])) .skip)) (.seq (.seq (.run (.go (.move (.tmp (pth 6))) (pth 44)::
.go (.move (.tmp (pth 11))) (pth 45)::
.go (.bin .neq 24 (.tmp (pth 44)) (.tmp (pth 45))) (pth 46)::
.go (.move (.tmp (pth 46))) (pth 47)::
.gd (pth 47) false (.move (.tmp (pth 8))) (pth 48)::
.gd (pth 47) false (.move (.tmp (pth 11))) (pth 49)::
.gd (pth 47) false (.bin .neq 24 (.tmp (pth 48)) (.tmp (pth 49))) (pth 50)::
.go (.pick (.tmp (pth 47)) (.con (.bool true)) (.tmp (pth 50))) (pth 51)::
.go (.move (.tmp (pth 51))) (pth 52)::
.gd (pth 52) false (.move (.tmp (pth 10))) (pth 53)::
.gd (pth 52) false (.move (.tmp (pth 11))) (pth 54)::
.gd (pth 52) false (.bin .neq 24 (.tmp (pth 53)) (.tmp (pth 54))) (pth 55)::
.go (.pick (.tmp (pth 52)) (.con (.bool true)) (.tmp (pth 55))) (pth 56)::
[])) (.cond (.tmp (pth 56)) (.seq (.run (.go (.move (.con (.bool false))) (pth 4)::
[])) .ret) .skip)) (.seq (.seq (.run (.go (.move (.tmp (pth 11))) (pth 57)::
.go (.bin .neq 24 (.tmp (pth 57)) (.con (.int .i64 (.ofNat 0)))) (pth 58)::
[])) (.cond (.tmp (pth 58)) (.seq (.run (.go (.loadN 2 (.tmp (pth 5))) (pth 59)::
.go (.build [(.int .i64 (.ofNat 0)),(.int .i64 (.ofNat 0))] []) (pth 60)::
.go (.bin .eql 36 (.tmp (pth 59)) (.tmp (pth 60))) (pth 61)::
.go (.move (.tmp (pth 61))) (pth 62)::
.gd (pth 62) true (.loadN 2 (.tmp (pth 7))) (pth 63)::
.gd (pth 62) true (.build [(.int .i64 (.ofNat 0)),(.int .i64 (.ofNat 0))] []) (pth 64)::
.gd (pth 62) true (.bin .eql 36 (.tmp (pth 63)) (.tmp (pth 64))) (pth 65)::
.go (.pick (.tmp (pth 62)) (.tmp (pth 65)) (.con (.bool false))) (pth 66)::
.go (.move (.tmp (pth 66))) (pth 67)::
.gd (pth 67) true (.loadN 2 (.tmp (pth 9))) (pth 68)::
.gd (pth 67) true (.build [(.int .i64 (.ofNat 0)),(.int .i64 (.ofNat 0))] []) (pth 69)::
.gd (pth 67) true (.bin .eql 36 (.tmp (pth 68)) (.tmp (pth 69))) (pth 70)::
.go (.pick (.tmp (pth 67)) (.tmp (pth 70)) (.con (.bool false))) (pth 71)::
.go (.move (.tmp (pth 71))) (pth 72)::
.gd (pth 72) true (.call (.con (.func (.func 24) ⟨[]⟩ ⟨[]⟩)) []) (pth 73)::
.go (.pick (.tmp (pth 72)) (.tmp (pth 73)) (.con (.bool false))) (pth 74)::
.go (.move (.tmp (pth 74))) (pth 4)::
[])) .ret) .skip)) (.seq (.draw 39 (.go (.loadN 2 (.tmp (pth 5))) (pth 75)::
.go (.loadN 4 (.tmp (pth 2))) (pth 76)::
.go (.move (.tmp (pth 1))) (pth 77)::
.go (.fieldAddr 3 (.tmp (pth 2))) (pth 78)::
.go (.load1 (.tmp (pth 78))) (pth 79)::
.go (.fieldAddr 3 (.tmp (pth 2))) (pth 80)::
.go (.load1 (.tmp (pth 80))) (pth 81)::
.go (.call (.con (.func (.func 30) ⟨[]⟩ ⟨[]⟩)) [(.tmp (pth 76)),(.tmp (pth 77)),(.tmp (pth 79)),(.tmp (pth 81))]) (pth 82)::
.go (.call (.con (.func (.func 29) ⟨[]⟩ ⟨[]⟩)) [(.tmp (pth 82))]) (pth 83)::
.go (.call (.con (.func (.func 28) ⟨[]⟩ ⟨[]⟩)) [(.tmp (pth 83))]) (pth 84)::
.go (.bin .eql 36 (.tmp (pth 75)) (.tmp (pth 84))) (pth 85)::
.go (.move (.tmp (pth 85))) (pth 86)::
.gd (pth 86) true (.loadN 2 (.tmp (pth 7))) (pth 87)::
.gd (pth 86) true (.loadN 4 (.tmp (pth 2))) (pth 88)::
.gd (pth 86) true (.move (.tmp (pth 1))) (pth 89)::
.gd (pth 86) true (.fieldAddr 3 (.tmp (pth 2))) (pth 90)::
.gd (pth 86) true (.load1 (.tmp (pth 90))) (pth 91)::
.gd (pth 86) true (.call (.con (.func (.func 30) ⟨[]⟩ ⟨[]⟩)) [(.tmp (pth 88)),(.tmp (pth 89)),(.con (.int .i64 (.ofNat 0))),(.tmp (pth 91))]) (pth 92)::
.gd (pth 86) true (.call (.con (.func (.func 29) ⟨[]⟩ ⟨[]⟩)) [(.tmp (pth 92))]) (pth 93)::
.gd (pth 86) true (.call (.con (.func (.func 28) ⟨[]⟩ ⟨[]⟩)) [(.tmp (pth 93))]) (pth 94)::
.gd (pth 86) true (.bin .eql 36 (.tmp (pth 87)) (.tmp (pth 94))) (pth 95)::
.go (.pick (.tmp (pth 86)) (.tmp (pth 95)) (.con (.bool false))) (pth 96)::
.go (.move (.tmp (pth 96))) (pth 97)::
.gd (pth 97) true (.loadN 2 (.tmp (pth 9))) (pth 98)::
.gd (pth 97) true (.loadN 4 (.tmp (pth 2))) (pth 99)::
.gd (pth 97) true (.move (.tmp (pth 1))) (pth 100)::
.gd (pth 97) true (.fieldAddr 3 (.tmp (pth 2))) (pth 101)::
.gd (pth 97) true (.load1 (.tmp (pth 101))) (pth 102)::
.gd (pth 97) true (.fieldAddr 2 (.tmp (pth 2))) (pth 103)::
.gd (pth 97) true (.load1 (.tmp (pth 103))) (pth 104)::
.gd (pth 97) true (.call (.con (.func (.func 30) ⟨[]⟩ ⟨[]⟩)) [(.tmp (pth 99)),(.tmp (pth 100)),(.tmp (pth 102)),(.tmp (pth 104))]) (pth 105)::
.gd (pth 97) true (.call (.con (.func (.func 29) ⟨[]⟩ ⟨[]⟩)) [(.tmp (pth 105))]) (pth 106)::
.gd (pth 97) true (.call (.con (.func (.func 28) ⟨[]⟩ ⟨[]⟩)) [(.tmp (pth 106))]) (pth 107)::
.gd (pth 97) true (.bin .eql 36 (.tmp (pth 98)) (.tmp (pth 107))) (pth 108)::
.go (.pick (.tmp (pth 97)) (.tmp (pth 108)) (.con (.bool false))) (pth 109)::
.go (.move (.tmp (pth 109))) (pth 110)::
.gd (pth 110) true (.call (.con (.func (.func 24) ⟨[]⟩ ⟨[]⟩)) []) (pth 111)::
.go (.pick (.tmp (pth 110)) (.tmp (pth 111)) (.con (.bool false))) (pth 112)::
.go (.move (.tmp (pth 112))) (pth 4)::
[]) [.rd none (.loadN 2 (.tmp (pth 5))) (some (pth 75)) [8,9,10],.ok,.ok,.ok,.ok,.ok,.ok,.ok,.ok,.ok,.ok,.ok,.rd (some ((pth 86),true)) (.loadN 2 (.tmp (pth 7))) (some (pth 87)) [18,19,20],.ok,.ok,.ok,.ok,.ok,.ok,.ok,.ok,.ok,.ok,.rd (some ((pth 97),true)) (.loadN 2 (.tmp (pth 9))) (some (pth 98)) [31,32,33],.ok,.ok,.ok,.ok,.ok,.ok,.ok,.ok,.ok,.ok,.ok,.ok,.ok,.ok,.ok]) .ret)))))))))
def cf (a b c d u : Int) : List Value := if rd a b c d u = 0 then fr (part a.toNat u.toNat c.toNat d.toNat) (ch (a.toNat + u.toNat) c.toNat) else A2 0 0
def tf (a b c d u : Int) (q : Bool) : List Value := if rd a b c d u = 0 then fr (if q = true then psum a.toNat u.toNat c.toNat 0 (d.toNat + 1) else psum a.toNat u.toNat c.toNat d.toNat (c.toNat + 1 - d.toNat)) (ch (a.toNat + u.toNat) c.toNat) else A2 0 0
theorem tf_nat {a b c d u : Nat} {q : Bool} (h : rd a b c d u = 0) : tf a b c d u q = fr (if q = true then psum a u c 0 (d + 1) else psum a u c d (c + 1 - d)) (ch (a + u) c) := by
  unfold tf; rw [if_pos h]; simp only [Int.toNat_natCast]
theorem rd_nat {a b c d u : Int} (h : rd a b c d u = 0) : ∃ a' b' c' d' u' : Nat, a = a' ∧ b = b' ∧ c = c' ∧ d = d' ∧ u = u' ∧ a' + b' ≤ 50 ∧ u' ≤ b' ∧ c' ≤ a' ∧ d' ≤ c' := by
  obtain ⟨⟨⟨⟨h1, h2⟩, ⟨h3, h4⟩, h5⟩, ⟨h6, h7⟩, h8, h9⟩, h10, h11⟩ := rd_ok h
  exact ⟨a.toNat, b.toNat, c.toNat, d.toNat, u.toNat, by omega, by omega, by omega, by omega, by omega, by omega, by omega, by omega, by omega⟩
theorem f27_ok (a b c d u : Int) (q : Bool) (H : Heap) : Gives Try.prog 27 [.agg ⟨A4 a b c d⟩, I u, .bool q] H (.tuple ⟨[.agg ⟨tf a b c d u q⟩, I (rd a b c d u)]⟩) := by
  refine F.entryL rfl dg27 do27 de27 rfl (by kernel_rfl) ?_
  simp only [sets]
  refine V.re [(0, .agg ⟨A4 a b c d⟩), (1, I u), (2, .bool q)] (N := 29) (by intro i; simp only [full_st, Full.mk]) (by simp only [Kn, gt_st, full_st, Full.mk, ↓reduceIte, reduceEqDiff, reduceLT, decide_true, and_self]) ?_
  intro t hF hA
  simp only [Kn, and_true] at hA
  (repeat first|apply V.seq|apply V.block|apply V.scope|apply V.skip|apply V.close)
  refine V.line' (by simp +contextual (disch := first|omega|simp only [nx];omega) only [D4,reduceNegSucc,reduceEq,reduceLeDiff,reduceSub,reduceAdd,D5,hF,hA,↓reduceIte,reduceEqDiff,reduceLT]; with_reducible rfl) ?_
  refine V.heap (fun X => Grow H X ∧ Bx X H.next (A4 a b c d) 28 ∧ Bx X (H.next + 1) (A2 0 0) 36) ⟨?_, ?_, ?_⟩ ?_
  · (repeat first | assumption | exact Grow.refl _ | refine Grow.alloc ?_ _ | refine Grow.set ?_ (by first|omega|simp only [nx];omega) _)
  · (repeat first | assumption | exact Bx.new _ _ _ | exact Bx.newAt (by first|omega|simp only [nx];omega) | refine Bx.put (by first|omega|simp only [nx];omega) _ _ | refine Bx.alloc ?_ _ | refine Bx.set ?_ (by first|omega|simp only [nx];omega) _)
  · (repeat first | assumption | exact Bx.new _ _ _ | exact Bx.newAt (by first|omega|simp only [nx];omega) | refine Bx.put (by first|omega|simp only [nx];omega) _ _ | refine Bx.alloc ?_ _ | refine Bx.set ?_ (by first|omega|simp only [nx];omega) _)
  rintro H1 ⟨g1, b1, c1⟩
  (repeat first|apply V.seq|apply V.block|apply V.scope|apply V.skip|apply V.close)
  refine V.run ?_
  refine VI.steps' 2 (by simp +contextual (disch := first|omega|simp only [nx];omega) only [D4,reduceNegSucc,reduceEq,reduceLeDiff,reduceSub,reduceAdd,D5,hF,hA,↓reduceIte,reduceEqDiff,reduceLT, b1.2]; with_reducible rfl) ?_
  simp only [ds]
  refine VI.callR (by simp only [D6,D5,hF,hA,↓reduceIte,reduceEqDiff,reduceLT]; try rfl) (f56_ok a b c d u _) (by simp only [D6,D5,hF,hA,↓reduceIte,reduceEqDiff,reduceLT]; try rfl) (fun v2 H2 ⟨g2, h2⟩ => ?_)
  have c2 := c1.grow g2
  have hc2 := c2.1
  have hn1 := c1.1
  rcases h2 with ⟨hr, q2⟩ | ⟨hr, i, j, x, q2, hi, hj, hx, w2⟩
  · subst q2
    have hz : tf a b c d u q = A2 0 0 := by unfold tf; rw [if_neg hr]
    refine VI.line' (by simp +contextual (disch := first|omega|simp only [nx];omega) only [D4,reduceNegSucc,reduceEq,reduceLeDiff,reduceSub,reduceAdd,D5,hF,hA,↓reduceIte,reduceEqDiff,reduceLT]; with_reducible rfl) ?_
    (repeat first|apply V.seq|apply V.block|apply V.scope|apply V.skip|apply V.close)
    refine V.line' (by simp +contextual (disch := first|omega|simp only [nx];omega) only [D4,reduceNegSucc,reduceEq,reduceLeDiff,reduceSub,reduceAdd,D5,hF,hA,↓reduceIte,reduceEqDiff,reduceLT, ne_eq, hr, not_false_eq_true]; with_reducible rfl) ?_
    (repeat first|apply V.seq|apply V.block|apply V.scope|apply V.skip|apply V.close)
    refine V.condT (by simp only [D6,D5,hF,hA,↓reduceIte,reduceEqDiff,reduceLT]) ?_
    (repeat first|apply V.seq|apply V.block|apply V.scope|apply V.skip|apply V.close)
    refine V.line' (by simp +contextual (disch := first|omega|simp only [nx];omega) only [D4,reduceNegSucc,reduceEq,reduceLeDiff,reduceSub,reduceAdd,D5,hF,hA,↓reduceIte,reduceEqDiff,reduceLT, c2.2]; with_reducible rfl) ?_
    (repeat first|apply V.seq|apply V.block|apply V.scope|apply V.skip|apply V.close)
    refine V.ret (V.rets rfl (Lv.retG (by simp +contextual (disch := first|omega|simp only [nx];omega) only [D1, cells_alloc_at, cells_alloc_ne, cells_set_at, cells_set_ne, yres, yres1, yresL, reduceLeDiff, reduceSub, reduceAdd, D5,hF,hA,↓reduceIte,reduceEqDiff,reduceLT, cells_set]; rfl) ?_ ?_))
    · have gg := g1.trans g2
      (repeat first | assumption | exact Grow.refl _ | refine Grow.alloc ?_ _ | refine Grow.set ?_ (by first|omega|simp only [nx];omega) _)
    · rw [hz]
  · subst q2
    rw [hr]
    obtain ⟨a, b, c, d, u, rfl, rfl, rfl, rfl, rfl, k1, k2, k3, k4⟩ := rd_nat hr
    rw [tf_nat hr]
    refine VI.line' (by simp +contextual (disch := first|omega|simp only [nx];omega) only [D4,reduceNegSucc,reduceEq,reduceLeDiff,reduceSub,reduceAdd,D5,hF,hA,↓reduceIte,reduceEqDiff,reduceLT]; with_reducible rfl) ?_
    refine V.heap (fun X => Grow H2 X ∧ Bx X H2.next [I a, I b, I c, I d, cw i j] 92) ⟨?_, ?_⟩ ?_
    · (repeat first | assumption | exact Grow.refl _ | refine Grow.alloc ?_ _ | refine Grow.set ?_ (by first|omega|simp only [nx];omega) _)
    · (repeat first | assumption | exact Bx.new _ _ _ | exact Bx.newAt (by first|omega|simp only [nx];omega) | refine Bx.put (by first|omega|simp only [nx];omega) _ _ | refine Bx.alloc ?_ _ | refine Bx.set ?_ (by first|omega|simp only [nx];omega) _)
    rintro H3 ⟨g3, e3⟩
    have w3 := w2.grow g3
    have c3 := c2.grow g3
    have n3 := e3.1
    (repeat first|apply V.seq|apply V.block|apply V.scope|apply V.skip|apply V.close)
    refine V.line' (by simp +contextual (disch := first|omega|simp only [nx];omega) only [D4,reduceNegSucc,reduceEq,reduceLeDiff,reduceSub,reduceAdd,D5,hF,hA,↓reduceIte,reduceEqDiff,reduceLT, ne_eq, not_true_eq_false]; with_reducible rfl) ?_
    (repeat first|apply V.seq|apply V.block|apply V.scope|apply V.skip|apply V.close)
    refine V.condF (by simp only [D6,D5,hF,hA,↓reduceIte,reduceEqDiff,reduceLT]) ?_
    (repeat first|apply V.seq|apply V.block|apply V.scope|apply V.skip|apply V.close)
    refine V.run ?_
    refine VI.callA rfl (f58_ok _) (by simp only [D6,D5,hF,hA,↓reduceIte,reduceEqDiff,reduceLT]; try rfl) (fun H4 g4 => ?_)
    refine VI.line' (by simp +contextual (disch := first|omega|simp only [nx];omega) only [D4,reduceNegSucc,reduceEq,reduceLeDiff,reduceSub,reduceAdd,D5,hF,hA,↓reduceIte,reduceEqDiff,reduceLT]; with_reducible rfl) ?_
    refine V.heap (fun X => Grow H4 X ∧ Bx X H4.next [.func (.func 81) ⟨[]⟩ ⟨[]⟩] 98) ⟨?_, ?_⟩ ?_
    · (repeat first | assumption | exact Grow.refl _ | refine Grow.alloc ?_ _ | refine Grow.set ?_ (by first|omega|simp only [nx];omega) _)
    · (repeat first | assumption | exact Bx.new _ _ _ | exact Bx.newAt (by first|omega|simp only [nx];omega) | refine Bx.put (by first|omega|simp only [nx];omega) _ _ | refine Bx.alloc ?_ _ | refine Bx.set ?_ (by first|omega|simp only [nx];omega) _)
    rintro H5 ⟨g5, r5⟩
    have g35 := g4.trans g5
    have w5 := w3.grow g35
    have c5 := c3.grow g35
    have e5 := e3.grow g35
    have n4 := g4.1
    have n5 := r5.1
    (repeat first|apply V.seq|apply V.block|apply V.scope|apply V.skip|apply V.close)
    refine V.line' (by simp +contextual (disch := first|omega|simp only [nx];omega) only [D4,reduceNegSucc,reduceEq,reduceLeDiff,reduceSub,reduceAdd,D5,hF,hA,↓reduceIte,reduceEqDiff,reduceLT]; with_reducible rfl) ?_
    (repeat first|apply V.seq|apply V.block|apply V.scope|apply V.skip|apply V.close)
    refine V.cut (fun e t m X => e = .normal ∧ m = [] ∧ Grow H4 X ∧ Bx X (H.next + 1) (A2 0 0) 36 ∧ Bx X H2.next [I a, I b, I c, I d, cw i j] 92 ∧ Wy X i j x ∧ Bx X H4.next [.func (.func (if q = true then 82 else 81)) ⟨[]⟩ ⟨[]⟩] 98 ∧ Full 29 t ∧ Kn [(1, I u), (6, PT (H.next + 1)), (8, PT H2.next), (10, PT H4.next)] t) ?_ ?_
    · cases q with
      | true =>
        refine V.condT (by simp only [D6,D5,hF,hA,↓reduceIte,reduceEqDiff,reduceLT]) ?_
        (repeat first|apply V.seq|apply V.block|apply V.scope|apply V.skip|apply V.close)
        refine V.run ?_
        refine VI.callA rfl (f59_ok _) (by simp only [D6,D5,hF,hA,↓reduceIte,reduceEqDiff,reduceLT]; try rfl) (fun H6 g6 => ?_)
        have r6 := r5.grow g6
        have w6 := w5.grow g6
        have c6 := c5.grow g6
        have e6 := e5.grow g6
        refine VI.line' (by simp +contextual (disch := first|omega|simp only [nx];omega) only [D4,reduceNegSucc,reduceEq,reduceLeDiff,reduceSub,reduceAdd,D5,hF,hA,↓reduceIte,reduceEqDiff,reduceLT, r6.2]; with_reducible rfl) ?_
        have gs : GrowX H4.next H6 (H6.set H4.next (.cells ⟨[.func (.func 82) ⟨[]⟩ ⟨[]⟩]⟩ 98 true)) := ((Grow.refl H6).x _).set _
        refine ⟨rfl, rfl, ?_, c6.growX gs (by omega), e6.growX gs (by omega), w6.growS (U := (· = H4.next)) (GrowS.x gs rfl) (by have := w5.1.1; have := w2.1.1; omega) (by have := w2.2.1.1; omega) (by obtain ⟨_, hm, _⟩ := w2.2.2.2.2; have := hm.1; omega), ⟨r6.1, cells_set _ _ _ _ _⟩, (by intro i; simp only [full_st, hF]), (by simp only [Kn, D5,hF,hA,↓reduceIte,reduceEqDiff,reduceLT, and_self, and_true, true_and]; try (repeat' constructor))⟩
        have gg := g5.trans g6
        (repeat first | assumption | exact Grow.refl _ | refine Grow.alloc ?_ _ | refine Grow.set ?_ (by first|omega|simp only [nx];omega) _)
      | false =>
        refine V.condF (by simp only [D6,D5,hF,hA,↓reduceIte,reduceEqDiff,reduceLT]) ?_
        (repeat first|apply V.seq|apply V.block|apply V.scope|apply V.skip|apply V.close)
        exact ⟨rfl, rfl, g5, c5, e5, w5, r5, (by intro i; simp only [full_st, hF]), (by simp only [Kn, D5,hF,hA,↓reduceIte,reduceEqDiff,reduceLT, and_self, and_true, true_and]; try (repeat' constructor))⟩
    clear hF hA
    rintro e t m H7 ⟨rfl, rfl, g7, c7, e7, w7, r7, hF, hA⟩
    simp only [Kn, and_true] at hA
    (repeat first|apply V.seq|apply V.block|apply V.scope|apply V.skip|apply V.close)
    refine V.draw ?_
    refine VD.dins 3 (by simp +contextual (disch := first|omega|simp only [nx];omega) only [D4,reduceNegSucc,reduceEq,reduceLeDiff,reduceSub,reduceAdd,D5,hF,hA,↓reduceIte,reduceEqDiff,reduceLT, r7.2, e7.2]; with_reducible rfl) ?_
    simp only [ds]
    refine VD.callR (by simp only [D6,D5,hF,hA,↓reduceIte,reduceEqDiff,reduceLT]; try rfl) (f61_ok (b := b) (d := d) (u := u) (by omega) k3 w7) (by simp only [D6,D5,hF,hA,↓reduceIte,reduceEqDiff,reduceLT]; try rfl) (fun v8 H8 ⟨p, q8, hp8, g8, w8, s8⟩ => ?_)
    subst q8
    have hx2 : x < H2.next := by obtain ⟨_, hm, _⟩ := w2.2.2.2.2; exact hm.1
    have n7 := g7.1
    have c8 := c7.growX g8 (by omega)
    have r8 := r7.growX g8 (by omega)
    have hq1 := psum_le (a := a) (u := u) (c := c) (f := 0) (n := d + 1) (by omega)
    have hq2 := psum_le (a := a) (u := u) (c := c) (f := d) (n := c + 1 - d) (by omega)
    refine VD.callA (by simp only [D6,D5,hF,hA,↓reduceIte,reduceEqDiff,reduceLT]; try rfl) (f60_ok (g := if q = true then 82 else 81) (n := if q = true then psum a u c 0 (d + 1) else psum a u c d (c + 1 - d)) (by omega) k3 s8 (by split <;> assumption) (fun H' g => by cases q; exact f81_ok (by omega) (by omega) k4 (s8.grow g); exact f82_ok (by omega) (by omega) k4 (s8.grow g))) (by simp only [D6,D5,hF,hA,↓reduceIte,reduceEqDiff,reduceLT]; try rfl) (fun H9 g9 => ?_)
    have c9 := c8.grow g9
    have r9 := r8.grow g9
    have hc9 := c9.1
    refine VD.lineD' (by simp +contextual (disch := first|omega|simp only [nx];omega) only [D4,reduceNegSucc,reduceEq,reduceLeDiff,reduceSub,reduceAdd,D5,hF,hA,↓reduceIte,reduceEqDiff,reduceLT, c9.2]; with_reducible rfl) ?_ ?_ rfl ?_
    · have n8 := g8.1
      have n9 := g9.1
      simp only [monoG, List.cons_append, List.nil_append, Heap.next_set, Heap.next_alloc, Nat.le_refl, true_and, and_true] <;> omega
    · simp only [dcAll, dcOk, wantD, List.cons_append, List.nil_append, true_and, and_true]
      exact fun _ q hq => by simp only [List.mem_cons, List.not_mem_nil, or_false] at hq; (repeat (rcases hq with rfl | hq; exact ⟨_, _, _, rfl, (by simp +contextual (disch := first|omega|simp only [nx];omega) only [D4,reduceNegSucc,reduceEq,reduceLeDiff,reduceSub,reduceAdd,D5,hF,hA,↓reduceIte,reduceEqDiff,reduceLT, r7.2, r8.2, r9.2]; with_reducible rfl), fun p hp => by cases hp; simp only [D5,hF,hA,↓reduceIte,reduceEqDiff,reduceLT]; first | exact vEq_An | simp [vEq, vEq0, all2]⟩)); (try (subst hq; exact ⟨_, _, _, rfl, (by simp +contextual (disch := first|omega|simp only [nx];omega) only [D4,reduceNegSucc,reduceEq,reduceLeDiff,reduceSub,reduceAdd,D5,hF,hA,↓reduceIte,reduceEqDiff,reduceLT, r7.2, r8.2, r9.2]; with_reducible rfl), fun p hp => by cases hp; simp only [D5,hF,hA,↓reduceIte,reduceEqDiff,reduceLT]; first | exact vEq_An | simp [vEq, vEq0, all2]⟩))
    (repeat first|apply V.seq|apply V.block|apply V.scope|apply V.skip|apply V.close)
    refine V.ret (V.rets rfl (Lv.retG (by simp +contextual (disch := first|omega|simp only [nx];omega) only [D1, cells_alloc_at, cells_alloc_ne, cells_set_at, cells_set_ne, yres, yres1, yresL, reduceLeDiff, reduceSub, reduceAdd, D5,hF,hA,↓reduceIte,reduceEqDiff,reduceLT, cells_set]; rfl) ?_ ?_))
    · have t1 : GrowX x H1 H9 := (((((g2.trans g3).trans g4).trans g7).x x).trans g8).trans (g9.x x)
      have gg : Grow H H9 := GrowX.grow t1 g1 (by have := g1.1; omega)
      (repeat first | assumption | exact Grow.refl _ | refine Grow.alloc ?_ _ | refine Grow.set ?_ (by first|omega|simp only [nx];omega) _)
    · rfl
theorem psum_1 (a u c d : Nat) : psum a u c d 1 = part a u c d := by simp [psum, sm]
end Go.Xe.TMX
