/- What the statement MissChances comes to. Conditions: none. -/
import Derived.Test.YtefoodhfkkcmcabTMR
-- MOD TM
namespace Go.Xe.TMX
open Go Go.Xe Go.Proofs Go.Xe.Mth
open Nat (reduceLeDiff reduceSub reduceAdd reduceEqDiff reduceLT)
open Int (reduceNegSucc reduceEq)
set_option maxRecDepth 100000
set_option maxHeartbeats 3200000
set_option linter.unusedSimpArgs false
noncomputable def d26 : FCode := (.seq (.run (.go (.box 28 (.tmp (pth 0))) (pth 2)::
.go (.alloc 36 [(.int .i64 (.ofNat 0)),(.int .i64 (.ofNat 0))]) (pth 4)::
.go (.move (.con (.int .i64 (.ofNat 0)))) (pth 5)::
[])) (.seq (.run (.go (.loadN 4 (.tmp (pth 2))) (pth 9)::
.go (.move (.tmp (pth 1))) (pth 10)::
.go (.call (.con (.func (.func 56) ⟨[]⟩ ⟨[]⟩)) [(.tmp (pth 9)),(.tmp (pth 10))]) (pth 11)::
.go (.move (.tmp (pth 11))) (pth 8)::
.go (.extract (.tmp (pth 8)) 0) (pth 12)::
.go (.extract (.tmp (pth 8)) 1) (pth 13)::
.go (.alloc 92 [(.int .i64 (.ofNat 0)),(.int .i64 (.ofNat 0)),(.int .i64 (.ofNat 0)),(.int .i64 (.ofNat 0)),.nilFunc]) (pth 6)::
.un (.store 5 (.tmp (pth 6)) (.tmp (pth 12)))::
.go (.move (.tmp (pth 13))) (pth 7)::
[])) (.seq (.seq (.run (.go (.move (.tmp (pth 7))) (pth 14)::
.go (.bin .neq 24 (.tmp (pth 14)) (.con (.int .i64 (.ofNat 0)))) (pth 15)::
[])) (.cond (.tmp (pth 15)) (.seq (.run (.go (.build [(.int .i64 (.ofNat 0)),(.int .i64 (.ofNat 0))] []) (pth 16)::
.go (.move (.tmp (pth 7))) (pth 17)::
.un (.store 2 (.tmp (pth 4)) (.tmp (pth 16)))::
.go (.move (.tmp (pth 17))) (pth 5)::
[])) .ret) .skip)) (.seq (.run (.go (.loadN 5 (.tmp (pth 6))) (pth 18)::
.go (.move (.tmp (pth 1))) (pth 19)::
.go (.call (.con (.func (.func 57) ⟨[]⟩ ⟨[]⟩)) [(.tmp (pth 18)),(.tmp (pth 19))]) (pth 20)::
.un (.store 2 (.tmp (pth 4)) (.tmp (pth 20)))::
.go (.move (.con (.int .i64 (.ofNat 0)))) (pth 5)::
[])) .ret))))
theorem de26 : @compF Try.prog (Gl.none Try.prog) Try.f26 2 = .mk d26 (mkTT 21) [(pth 0),(pth 1)] [.many (pth 4) 2,.tmp (pth 5)] := by kernel_rfl
theorem dg26 : Try.prog.funcs[26]? = some Try.f26 := Try.func26
theorem do26 : okF Try.prog Try.f26 = true := by kernel_rfl
noncomputable def d4 : FCode := (.seq (.run (.go (.box 23 (.tmp (pth 0))) (pth 2)::
.go (.move (.con (.bool false))) (pth 4)::
[])) (.seq (.run (.go (.loadN 4 (.tmp (pth 2))) (pth 13)::
.go (.call (.con (.func (.func 21) ⟨[]⟩ ⟨[]⟩)) [(.tmp (pth 13))]) (pth 14)::
.go (.move (.tmp (pth 1))) (pth 15)::
.go (.call (.con (.func (.func 26) ⟨[]⟩ ⟨[]⟩)) [(.tmp (pth 14)),(.tmp (pth 15))]) (pth 16)::
.go (.move (.tmp (pth 16))) (pth 12)::
.go (.extract (.tmp (pth 12)) 0) (pth 17)::
.go (.extract (.tmp (pth 12)) 1) (pth 18)::
.go (.alloc 36 [(.int .i64 (.ofNat 0)),(.int .i64 (.ofNat 0))]) (pth 5)::
.un (.store 2 (.tmp (pth 5)) (.tmp (pth 17)))::
.go (.move (.tmp (pth 18))) (pth 6)::
[])) (.seq (.run (.go (.loadN 4 (.tmp (pth 2))) (pth 20)::
.go (.call (.con (.func (.func 21) ⟨[]⟩ ⟨[]⟩)) [(.tmp (pth 20))]) (pth 21)::
.go (.move (.tmp (pth 1))) (pth 22)::
.go (.call (.con (.func (.func 27) ⟨[]⟩ ⟨[]⟩)) [(.tmp (pth 21)),(.tmp (pth 22)),(.con (.bool true))]) (pth 23)::
.go (.move (.tmp (pth 23))) (pth 19)::
.go (.extract (.tmp (pth 19)) 0) (pth 24)::
.go (.extract (.tmp (pth 19)) 1) (pth 25)::
.go (.alloc 36 [(.int .i64 (.ofNat 0)),(.int .i64 (.ofNat 0))]) (pth 7)::
.un (.store 2 (.tmp (pth 7)) (.tmp (pth 24)))::
.go (.move (.tmp (pth 25))) (pth 8)::
[])) (.seq (.run (.go (.loadN 4 (.tmp (pth 2))) (pth 27)::
.go (.call (.con (.func (.func 21) ⟨[]⟩ ⟨[]⟩)) [(.tmp (pth 27))]) (pth 28)::
.go (.move (.tmp (pth 1))) (pth 29)::
.go (.call (.con (.func (.func 27) ⟨[]⟩ ⟨[]⟩)) [(.tmp (pth 28)),(.tmp (pth 29)),(.con (.bool false))]) (pth 30)::
.go (.move (.tmp (pth 30))) (pth 26)::
.go (.extract (.tmp (pth 26)) 0) (pth 31)::
.go (.extract (.tmp (pth 26)) 1) (pth 32)::
.go (.alloc 36 [(.int .i64 (.ofNat 0)),(.int .i64 (.ofNat 0))]) (pth 9)::
.un (.store 2 (.tmp (pth 9)) (.tmp (pth 31)))::
.go (.move (.tmp (pth 32))) (pth 10)::
[])) (.seq (.run (.go (.loadN 4 (.tmp (pth 2))) (pth 33)::
.go (.call (.con (.func (.func 22) ⟨[]⟩ ⟨[]⟩)) [(.tmp (pth 33))]) (pth 34)::
.go (.move (.tmp (pth 34))) (pth 11)::
[])) (.seq (.seq (.run (.go (.move (.tmp (pth 11))) (pth 35)::
.go (.bin .eql 24 (.tmp (pth 35)) (.con (.int .i64 (.ofNat 0)))) (pth 36)::
.go (.move (.tmp (pth 36))) (pth 37)::
.gd (pth 37) true (.move (.tmp (pth 1))) (pth 38)::
.gd (pth 37) true (.fieldAddr 1 (.tmp (pth 2))) (pth 39)::
.gd (pth 37) true (.load1 (.tmp (pth 39))) (pth 40)::
.gd (pth 37) true (.call (.con (.func (.func 23) ⟨[]⟩ ⟨[]⟩)) [(.tmp (pth 38)),(.con (.int .i64 (.ofNat 0))),(.tmp (pth 40))]) (pth 41)::
.gd (pth 37) true (.un .not (.tmp (pth 41))) (pth 42)::
.go (.pick (.tmp (pth 37)) (.tmp (pth 42)) (.con (.bool false))) (pth 43)::
[])) (.cond (.tmp (pth 43)) (.run (.go (.move (.con (.int .i64 (.ofNat 2)))) (pth 11)::
[])) .skip)) (.seq (.seq (.run (.go (.move (.tmp (pth 6))) (pth 44)::
.go (.move (.tmp (pth 11))) (pth 45)::
.go (.bin .neq 24 (.tmp (pth 44)) (.tmp (pth 45))) (pth 46)::
.go (.move (.tmp (pth 46))) (pth 47)::
.gd (pth 47) false (.move (.tmp (pth 8))) (pth 48)::
.gd (pth 47) false (.move (.tmp (pth 11))) (pth 49)::
.gd (pth 47) false (.bin .neq 24 (.tmp (pth 48)) (.tmp (pth 49))) (pth 50)::
.go (.pick (.tmp (pth 47)) (.con (.bool true)) (.tmp (pth 50))) (pth 51)::
.go (.move (.tmp (pth 51))) (pth 52)::
.gd (pth 52) false (.move (.tmp (pth 10))) (pth 53)::
.gd (pth 52) false (.move (.tmp (pth 11))) (pth 54)::
.gd (pth 52) false (.bin .neq 24 (.tmp (pth 53)) (.tmp (pth 54))) (pth 55)::
.go (.pick (.tmp (pth 52)) (.con (.bool true)) (.tmp (pth 55))) (pth 56)::
[])) (.cond (.tmp (pth 56)) (.seq (.run (.go (.move (.con (.bool false))) (pth 4)::
[])) .ret) .skip)) (.seq (.seq (.run (.go (.move (.tmp (pth 11))) (pth 57)::
.go (.bin .neq 24 (.tmp (pth 57)) (.con (.int .i64 (.ofNat 0)))) (pth 58)::
[])) (.cond (.tmp (pth 58)) (.seq (.run (.go (.loadN 2 (.tmp (pth 5))) (pth 59)::
.go (.build [(.int .i64 (.ofNat 0)),(.int .i64 (.ofNat 0))] []) (pth 60)::
.go (.bin .eql 36 (.tmp (pth 59)) (.tmp (pth 60))) (pth 61)::
.go (.move (.tmp (pth 61))) (pth 62)::
.gd (pth 62) true (.loadN 2 (.tmp (pth 7))) (pth 63)::
.gd (pth 62) true (.build [(.int .i64 (.ofNat 0)),(.int .i64 (.ofNat 0))] []) (pth 64)::
.gd (pth 62) true (.bin .eql 36 (.tmp (pth 63)) (.tmp (pth 64))) (pth 65)::
.go (.pick (.tmp (pth 62)) (.tmp (pth 65)) (.con (.bool false))) (pth 66)::
.go (.move (.tmp (pth 66))) (pth 67)::
.gd (pth 67) true (.loadN 2 (.tmp (pth 9))) (pth 68)::
.gd (pth 67) true (.build [(.int .i64 (.ofNat 0)),(.int .i64 (.ofNat 0))] []) (pth 69)::
.gd (pth 67) true (.bin .eql 36 (.tmp (pth 68)) (.tmp (pth 69))) (pth 70)::
.go (.pick (.tmp (pth 67)) (.tmp (pth 70)) (.con (.bool false))) (pth 71)::
.go (.move (.tmp (pth 71))) (pth 72)::
.gd (pth 72) true (.call (.con (.func (.func 24) ⟨[]⟩ ⟨[]⟩)) []) (pth 73)::
.go (.pick (.tmp (pth 72)) (.tmp (pth 73)) (.con (.bool false))) (pth 74)::
.go (.move (.tmp (pth 74))) (pth 4)::
[])) .ret) .skip)) (.seq (.draw 39 (.go (.loadN 2 (.tmp (pth 5))) (pth 75)::
.go (.loadN 4 (.tmp (pth 2))) (pth 76)::
.go (.move (.tmp (pth 1))) (pth 77)::
.go (.fieldAddr 3 (.tmp (pth 2))) (pth 78)::
.go (.load1 (.tmp (pth 78))) (pth 79)::
.go (.fieldAddr 3 (.tmp (pth 2))) (pth 80)::
.go (.load1 (.tmp (pth 80))) (pth 81)::
.go (.call (.con (.func (.func 30) ⟨[]⟩ ⟨[]⟩)) [(.tmp (pth 76)),(.tmp (pth 77)),(.tmp (pth 79)),(.tmp (pth 81))]) (pth 82)::
.go (.call (.con (.func (.func 29) ⟨[]⟩ ⟨[]⟩)) [(.tmp (pth 82))]) (pth 83)::
.go (.call (.con (.func (.func 28) ⟨[]⟩ ⟨[]⟩)) [(.tmp (pth 83))]) (pth 84)::
.go (.bin .eql 36 (.tmp (pth 75)) (.tmp (pth 84))) (pth 85)::
.go (.move (.tmp (pth 85))) (pth 86)::
.gd (pth 86) true (.loadN 2 (.tmp (pth 7))) (pth 87)::
.gd (pth 86) true (.loadN 4 (.tmp (pth 2))) (pth 88)::
.gd (pth 86) true (.move (.tmp (pth 1))) (pth 89)::
.gd (pth 86) true (.fieldAddr 3 (.tmp (pth 2))) (pth 90)::
.gd (pth 86) true (.load1 (.tmp (pth 90))) (pth 91)::
.gd (pth 86) true (.call (.con (.func (.func 30) ⟨[]⟩ ⟨[]⟩)) [(.tmp (pth 88)),(.tmp (pth 89)),(.con (.int .i64 (.ofNat 0))),(.tmp (pth 91))]) (pth 92)::
.gd (pth 86) true (.call (.con (.func (.func 29) ⟨[]⟩ ⟨[]⟩)) [(.tmp (pth 92))]) (pth 93)::
.gd (pth 86) true (.call (.con (.func (.func 28) ⟨[]⟩ ⟨[]⟩)) [(.tmp (pth 93))]) (pth 94)::
.gd (pth 86) true (.bin .eql 36 (.tmp (pth 87)) (.tmp (pth 94))) (pth 95)::
.go (.pick (.tmp (pth 86)) (.tmp (pth 95)) (.con (.bool false))) (pth 96)::
.go (.move (.tmp (pth 96))) (pth 97)::
.gd (pth 97) true (.loadN 2 (.tmp (pth 9))) (pth 98)::
.gd (pth 97) true (.loadN 4 (.tmp (pth 2))) (pth 99)::
.gd (pth 97) true (.move (.tmp (pth 1))) (pth 100)::
.gd (pth 97) true (.fieldAddr 3 (.tmp (pth 2))) (pth 101)::
.gd (pth 97) true (.load1 (.tmp (pth 101))) (pth 102)::
.gd (pth 97) true (.fieldAddr 2 (.tmp (pth 2))) (pth 103)::
.gd (pth 97) true (.load1 (.tmp (pth 103))) (pth 104)::
.gd (pth 97) true (.call (.con (.func (.func 30) ⟨[]⟩ ⟨[]⟩)) [(.tmp (pth 99)),(.tmp (pth 100)),(.tmp (pth 102)),(.tmp (pth 104))]) (pth 105)::
.gd (pth 97) true (.call (.con (.func (.func 29) ⟨[]⟩ ⟨[]⟩)) [(.tmp (pth 105))]) (pth 106)::
.gd (pth 97) true (.call (.con (.func (.func 28) ⟨[]⟩ ⟨[]⟩)) [(.tmp (pth 106))]) (pth 107)::
.gd (pth 97) true (.bin .eql 36 (.tmp (pth 98)) (.tmp (pth 107))) (pth 108)::
.go (.pick (.tmp (pth 97)) (.tmp (pth 108)) (.con (.bool false))) (pth 109)::
.go (.move (.tmp (pth 109))) (pth 110)::
.gd (pth 110) true (.call (.con (.func (.func 24) ⟨[]⟩ ⟨[]⟩)) []) (pth 111)::
.go (.pick (.tmp (pth 110)) (.tmp (pth 111)) (.con (.bool false))) (pth 112)::
.go (.move (.tmp (pth 112))) (pth 4)::
[]) [.rd none (.loadN 2 (.tmp (pth 5))) (some (pth 75)) [8,9,10],.ok,.ok,.ok,.ok,.ok,.ok,.ok,.ok,.ok,.ok,.ok,.rd (some ((pth 86),true)) (.loadN 2 (.tmp (pth 7))) (some (pth 87)) [18,19,20],.ok,.ok,.ok,.ok,.ok,.ok,.ok,.ok,.ok,.ok,.rd (some ((pth 97),true)) (.loadN 2 (.tmp (pth 9))) (some (pth 98)) [31,32,33],.ok,.ok,.ok,.ok,.ok,.ok,.ok,.ok,.ok,.ok,.ok,.ok,.ok,.ok,.ok]) .ret)))))))))
def cf (a b c d u : Int) : List Value := if rd a b c d u = 0 then fr (part a.toNat u.toNat c.toNat d.toNat) (ch (a.toNat + u.toNat) c.toNat) else A2 0 0
theorem cf_nat {a b c d u : Nat} (h : rd a b c d u = 0) : cf a b c d u = fr (part a u c d) (ch (a + u) c) := by
  unfold cf; rw [if_pos h]; simp only [Int.toNat_natCast]
theorem rd_nat {a b c d u : Int} (h : rd a b c d u = 0) : ∃ a' b' c' d' u' : Nat, a = a' ∧ b = b' ∧ c = c' ∧ d = d' ∧ u = u' ∧ a' + b' ≤ 50 ∧ u' ≤ b' ∧ c' ≤ a' ∧ d' ≤ c' := by
  obtain ⟨⟨⟨⟨h1, h2⟩, ⟨h3, h4⟩, h5⟩, ⟨h6, h7⟩, h8, h9⟩, h10, h11⟩ := rd_ok h
  exact ⟨a.toNat, b.toNat, c.toNat, d.toNat, u.toNat, by omega, by omega, by omega, by omega, by omega, by omega, by omega, by omega, by omega⟩
theorem f26_ok (a b c d u : Int) (H : Heap) : Gives Try.prog 26 [.agg ⟨A4 a b c d⟩, I u] H (.tuple ⟨[.agg ⟨cf a b c d u⟩, I (rd a b c d u)]⟩) := by
  refine F.entryL rfl dg26 do26 de26 rfl (by kernel_rfl) ?_
  simp only [sets]
  refine V.re [(0, .agg ⟨A4 a b c d⟩), (1, I u)] (N := 21) (by intro i; simp only [full_st, Full.mk]) (by simp only [Kn, gt_st, full_st, Full.mk, ↓reduceIte, reduceEqDiff, reduceLT, decide_true, and_self]) ?_
  intro t hF hA
  simp only [Kn, and_true] at hA
  (repeat first|apply V.seq|apply V.block|apply V.scope|apply V.skip|apply V.close)
  refine V.line' (by simp +contextual (disch := first|omega|simp only [nx];omega) only [D4, reduceNegSucc, reduceEq, reduceLeDiff, reduceSub, reduceAdd, D5, hF, hA, ↓reduceIte, reduceEqDiff, reduceLT]; with_reducible rfl) ?_
  refine V.heap (fun X => Grow H X ∧ Bx X H.next (A4 a b c d) 28 ∧ Bx X (H.next + 1) (A2 0 0) 36) ⟨?_, ?_, ?_⟩ ?_
  · (repeat first | assumption | exact Grow.refl _ | refine Grow.alloc ?_ _ | refine Grow.set ?_ (by first|omega|simp only [nx];omega) _)
  · (repeat first | assumption | exact Bx.new _ _ _ | exact Bx.newAt (by first|omega|simp only [nx];omega) | refine Bx.put (by first|omega|simp only [nx];omega) _ _ | refine Bx.alloc ?_ _ | refine Bx.set ?_ (by first|omega|simp only [nx];omega) _)
  · (repeat first | assumption | exact Bx.new _ _ _ | exact Bx.newAt (by first|omega|simp only [nx];omega) | refine Bx.put (by first|omega|simp only [nx];omega) _ _ | refine Bx.alloc ?_ _ | refine Bx.set ?_ (by first|omega|simp only [nx];omega) _)
  rintro H1 ⟨g1, b1, c1⟩
  (repeat first|apply V.seq|apply V.block|apply V.scope|apply V.skip|apply V.close)
  refine V.run ?_
  refine VI.steps' 2 (by simp +contextual (disch := first|omega|simp only [nx];omega) only [D4, reduceNegSucc, reduceEq, reduceLeDiff, reduceSub, reduceAdd, D5, hF, hA, ↓reduceIte, reduceEqDiff, reduceLT, b1.2]; with_reducible rfl) ?_
  simp only [ds]
  refine VI.callR (by simp only [D6, D5, hF, hA, ↓reduceIte, reduceEqDiff, reduceLT]; try rfl) (f56_ok a b c d u _) (by simp only [D6, D5, hF, hA, ↓reduceIte, reduceEqDiff, reduceLT]; try rfl) (fun v2 H2 ⟨g2, h2⟩ => ?_)
  have c2 := c1.grow g2
  have hc2 := c2.1
  have hn1 := c1.1
  rcases h2 with ⟨hr, q2⟩ | ⟨hr, i, j, x, q2, hi, hj, hx, w2⟩
  · subst q2
    have hz : cf a b c d u = A2 0 0 := by unfold cf; rw [if_neg hr]
    refine VI.line' (by simp +contextual (disch := first|omega|simp only [nx];omega) only [D4, reduceNegSucc, reduceEq, reduceLeDiff, reduceSub, reduceAdd, D5, hF, hA, ↓reduceIte, reduceEqDiff, reduceLT]; with_reducible rfl) ?_
    (repeat first|apply V.seq|apply V.block|apply V.scope|apply V.skip|apply V.close)
    refine V.line' (by simp +contextual (disch := first|omega|simp only [nx];omega) only [D4, reduceNegSucc, reduceEq, reduceLeDiff, reduceSub, reduceAdd, D5, hF, hA, ↓reduceIte, reduceEqDiff, reduceLT, ne_eq, hr, not_false_eq_true]; with_reducible rfl) ?_
    (repeat first|apply V.seq|apply V.block|apply V.scope|apply V.skip|apply V.close)
    refine V.condT (by simp only [D6, D5, hF, hA, ↓reduceIte, reduceEqDiff, reduceLT]) ?_
    (repeat first|apply V.seq|apply V.block|apply V.scope|apply V.skip|apply V.close)
    refine V.line' (by simp +contextual (disch := first|omega|simp only [nx];omega) only [D4, reduceNegSucc, reduceEq, reduceLeDiff, reduceSub, reduceAdd, D5, hF, hA, ↓reduceIte, reduceEqDiff, reduceLT, c2.2]; with_reducible rfl) ?_
    (repeat first|apply V.seq|apply V.block|apply V.scope|apply V.skip|apply V.close)
    refine V.ret (V.rets rfl (Lv.retG (by simp +contextual (disch := first|omega|simp only [nx];omega) only [D1, cells_alloc_at, cells_alloc_ne, cells_set_at, cells_set_ne, yres, yres1, yresL, reduceLeDiff, reduceSub, reduceAdd, D5, hF, hA, ↓reduceIte, reduceEqDiff, reduceLT, cells_set]; rfl) ?_ ?_))
    · have gg := g1.trans g2
      (repeat first | assumption | exact Grow.refl _ | refine Grow.alloc ?_ _ | refine Grow.set ?_ (by first|omega|simp only [nx];omega) _)
    · rw [hz]
  · subst q2
    rw [hr]
    obtain ⟨a, b, c, d, u, rfl, rfl, rfl, rfl, rfl, k1, k2, k3, k4⟩ := rd_nat hr
    rw [cf_nat hr]
    refine VI.line' (by simp +contextual (disch := first|omega|simp only [nx];omega) only [D4, reduceNegSucc, reduceEq, reduceLeDiff, reduceSub, reduceAdd, D5, hF, hA, ↓reduceIte, reduceEqDiff, reduceLT]; with_reducible rfl) ?_
    refine V.heap (fun X => Grow H2 X ∧ Bx X H2.next [I a, I b, I c, I d, cw i j] 92) ⟨?_, ?_⟩ ?_
    · (repeat first | assumption | exact Grow.refl _ | refine Grow.alloc ?_ _ | refine Grow.set ?_ (by first|omega|simp only [nx];omega) _)
    · (repeat first | assumption | exact Bx.new _ _ _ | exact Bx.newAt (by first|omega|simp only [nx];omega) | refine Bx.put (by first|omega|simp only [nx];omega) _ _ | refine Bx.alloc ?_ _ | refine Bx.set ?_ (by first|omega|simp only [nx];omega) _)
    rintro H3 ⟨g3, e3⟩
    have w3 := w2.grow g3
    have c3 := c2.grow g3
    (repeat first|apply V.seq|apply V.block|apply V.scope|apply V.skip|apply V.close)
    refine V.line' (by simp +contextual (disch := first|omega|simp only [nx];omega) only [D4, reduceNegSucc, reduceEq, reduceLeDiff, reduceSub, reduceAdd, D5, hF, hA, ↓reduceIte, reduceEqDiff, reduceLT, ne_eq, not_true_eq_false]; with_reducible rfl) ?_
    (repeat first|apply V.seq|apply V.block|apply V.scope|apply V.skip|apply V.close)
    refine V.condF (by simp only [D6, D5, hF, hA, ↓reduceIte, reduceEqDiff, reduceLT]) ?_
    (repeat first|apply V.seq|apply V.block|apply V.scope|apply V.skip|apply V.close)
    refine V.run ?_
    refine VI.steps' 2 (by simp +contextual (disch := first|omega|simp only [nx];omega) only [D4, reduceNegSucc, reduceEq, reduceLeDiff, reduceSub, reduceAdd, D5, hF, hA, ↓reduceIte, reduceEqDiff, reduceLT, e3.2]; with_reducible rfl) ?_
    simp only [ds]
    refine VI.callR (by simp only [D6, D5, hF, hA, ↓reduceIte, reduceEqDiff, reduceLT]; try rfl) (f57_ok (b := b) (d := d) (u := u) (by omega) k3 k4 w3) (by simp only [D6, D5, hF, hA, ↓reduceIte, reduceEqDiff, reduceLT]; try rfl) (fun v4 H4 ⟨q4, g4, w4⟩ => ?_)
    subst q4
    have c4 := c3.growX g4 (by omega)
    have hc4 := c4.1
    refine VI.line' (by simp +contextual (disch := first|omega|simp only [nx];omega) only [D4, reduceNegSucc, reduceEq, reduceLeDiff, reduceSub, reduceAdd, D5, hF, hA, ↓reduceIte, reduceEqDiff, reduceLT, c4.2]; with_reducible rfl) ?_
    (repeat first|apply V.seq|apply V.block|apply V.scope|apply V.skip|apply V.close)
    refine V.ret (V.rets rfl (Lv.retG (by simp +contextual (disch := first|omega|simp only [nx];omega) only [D1, cells_alloc_at, cells_alloc_ne, cells_set_at, cells_set_ne, yres, yres1, yresL, reduceLeDiff, reduceSub, reduceAdd, D5, hF, hA, ↓reduceIte, reduceEqDiff, reduceLT, cells_set]; rfl) ?_ ?_))
    · have gg : Grow H H4 := GrowX.grow (GrowX.trans ((g2.trans g3).x x) g4) g1 (by have := g1.1; omega)
      (repeat first | assumption | exact Grow.refl _ | refine Grow.alloc ?_ _ | refine Grow.set ?_ (by first|omega|simp only [nx];omega) _)
    · rfl
end Go.Xe.TMX
/- What the statement MissAll comes to. Conditions: none. -/
-- MOD TM
namespace Go.Xe.TMX
open Go Go.Xe Go.Proofs Go.Xe.Mth
open Nat (reduceLeDiff reduceSub reduceAdd reduceEqDiff reduceLT)
open Int (reduceNegSucc reduceEq)
set_option maxRecDepth 100000
set_option maxHeartbeats 3200000
set_option linter.unusedSimpArgs false
noncomputable def d50 : FCode := (.seq (.run (.go (.box 36 (.tmp (pth 1))) (pth 4)::
.go (.move (.con (.int .i64 (.ofNat 0)))) (pth 6)::
.go (.move (.con (.bool false))) (pth 7)::
[])) (.seq (.seq (.run (.go (.fieldAddr 1 (.tmp (pth 4))) (pth 8)::
.go (.load1 (.tmp (pth 8))) (pth 9)::
.go (.bin .lss 3 (.tmp (pth 9)) (.con (.int .i64 (.ofNat 1)))) (pth 10)::
.go (.move (.tmp (pth 10))) (pth 11)::
.gd (pth 11) false (.move (.tmp (pth 2))) (pth 12)::
.gd (pth 11) false (.fieldAddr 1 (.tmp (pth 4))) (pth 13)::
.gd (pth 11) false (.load1 (.tmp (pth 13))) (pth 14)::
.gd (pth 11) false (.bin .rem 3 (.tmp (pth 12)) (.tmp (pth 14))) (pth 15)::
.gd (pth 11) false (.bin .neq 3 (.tmp (pth 15)) (.con (.int .i64 (.ofNat 0)))) (pth 16)::
.go (.pick (.tmp (pth 11)) (.con (.bool true)) (.tmp (pth 16))) (pth 17)::
.go (.move (.tmp (pth 17))) (pth 18)::
.gd (pth 18) false (.fieldAddr 0 (.tmp (pth 4))) (pth 19)::
.gd (pth 18) false (.load1 (.tmp (pth 19))) (pth 20)::
.gd (pth 18) false (.bin .lss 3 (.tmp (pth 20)) (.con (.int .i64 (.ofNat 0)))) (pth 21)::
.go (.pick (.tmp (pth 18)) (.con (.bool true)) (.tmp (pth 21))) (pth 22)::
.go (.move (.tmp (pth 22))) (pth 23)::
.gd (pth 23) false (.fieldAddr 0 (.tmp (pth 4))) (pth 24)::
.gd (pth 23) false (.load1 (.tmp (pth 24))) (pth 25)::
.gd (pth 23) false (.fieldAddr 1 (.tmp (pth 4))) (pth 26)::
.gd (pth 23) false (.load1 (.tmp (pth 26))) (pth 27)::
.gd (pth 23) false (.bin .gtr 3 (.tmp (pth 25)) (.tmp (pth 27))) (pth 28)::
.go (.pick (.tmp (pth 23)) (.con (.bool true)) (.tmp (pth 28))) (pth 29)::
[])) (.cond (.tmp (pth 29)) (.seq (.run (.go (.move (.con (.int .i64 (.ofNat 0)))) (pth 6)::
.go (.move (.con (.bool false))) (pth 7)::
[])) .ret) .skip)) (.seq (.draw 11 (.go (.move (.tmp (pth 0))) (pth 30)::
.go (.fieldAddr 0 (.tmp (pth 4))) (pth 31)::
.go (.load1 (.tmp (pth 31))) (pth 32)::
.go (.move (.tmp (pth 2))) (pth 33)::
.go (.fieldAddr 1 (.tmp (pth 4))) (pth 34)::
.go (.load1 (.tmp (pth 34))) (pth 35)::
.go (.bin .quo 3 (.tmp (pth 33)) (.tmp (pth 35))) (pth 36)::
.go (.bin .mul 3 (.tmp (pth 32)) (.tmp (pth 36))) (pth 37)::
.go (.bin .add 3 (.tmp (pth 30)) (.tmp (pth 37))) (pth 38)::
.go (.move (.tmp (pth 38))) (pth 6)::
.go (.move (.con (.bool true))) (pth 7)::
[]) [.ok,.ok,.ok,.ok,.ok,.ok,.ok,.ok,.ok,.ok,.ok]) .ret)))
theorem de50 : @compF Try.prog (Gl.none Try.prog) Try.f50 3 = .mk d50 (mkTT 39) [(pth 0),(pth 1),(pth 2)] [.tmp (pth 6),.tmp (pth 7)] := by kernel_rfl
theorem dg50 : Try.prog.funcs[50]? = some Try.f50 := Try.func50
theorem do50 : okF Try.prog Try.f50 = true := by kernel_rfl
theorem rd_of {a b c d u : Nat} (h1 : a + b ≤ 50) (h2 : u ≤ b) (h3 : c ≤ a) (h4 : d ≤ c) : rd a b c d u = 0 := by
  have hv : ar a b c d := by unfold ar pr; omega
  unfold rd
  rw [if_neg (not_not_intro hv), if_neg (by omega)]
theorem ar_nat {a b c d : Int} (h : ar a b c d) : ∃ a' b' c' d' : Nat, a = a' ∧ b = b' ∧ c = c' ∧ d = d' ∧ a' + b' ≤ 50 ∧ c' ≤ a' ∧ d' ≤ c' := by
  obtain ⟨⟨⟨h1, h2⟩, ⟨h3, h4⟩, h5⟩, ⟨h6, h7⟩, h8, h9⟩ := h
  exact ⟨a.toNat, b.toNat, c.toNat, d.toNat, by omega, by omega, by omega, by omega, by omega, by omega, by omega⟩
theorem f50_ok {s n w : Nat} (hn : n ≤ w) (hw : 0 < w) (hw2 : w ≤ 1152921504606846976) (hs : s ≤ 2305843009213693952) (H : Heap) : Gives Try.prog 50 [I s, .agg ⟨fr n w⟩, I w] H (.tuple ⟨[I ((s + n : Nat) : Int), .bool true]⟩) := by
  have hg := Nat.gcd_pos_of_pos_right n hw
  have hgw := Nat.gcd_dvd_right n w
  have hgn := Nat.gcd_dvd_left n w
  have hle := Nat.le_of_dvd hw hgw
  have q1 : 0 < w / Nat.gcd n w := Nat.div_pos hle hg
  have q2 : n / Nat.gcd n w ≤ w / Nat.gcd n w := Nat.div_le_div_right hn
  have q3 : w % (w / Nat.gcd n w) = 0 := Nat.mod_eq_zero_of_dvd (Nat.div_dvd_of_dvd hgw)
  have q4 : w / (w / Nat.gcd n w) = Nat.gcd n w := Nat.div_div_self hgw (by omega)
  have q5 : n / Nat.gcd n w * Nat.gcd n w = n := Nat.div_mul_cancel hgn
  have q6 := Nat.div_le_self n (Nat.gcd n w)
  have q7 := Nat.div_le_self w (Nat.gcd n w)
  have hfr : fr n w = A2 ((n / Nat.gcd n w : Nat) : Int) ((w / Nat.gcd n w : Nat) : Int) := rfl
  rw [hfr]
  generalize n / Nat.gcd n w = p at *
  generalize w / Nat.gcd n w = q at *
  generalize Nat.gcd n w = g at *
  have e1 : (w : Int).tmod q = 0 := by rw [← Int.ofNat_tmod, q3]; rfl
  have e2 : (w : Int).tdiv q = g := by rw [← Int.ofNat_tdiv, q4]
  have e3 : (p : Int) * g = n := by rw [← q5]; push_cast; rfl
  have e4 : (s : Int) + n = ((s + n : Nat) : Int) := rfl
  have n1 : ¬ ((q : Int) < 1) := by omega
  have n2 : ¬ ((q : Int) = 0) := by omega
  have n3 : ¬ ((p : Int) < 0) := by omega
  have n4 : ¬ ((q : Int) < p) := by omega
  refine F.entryL rfl dg50 do50 de50 rfl (by kernel_rfl) ?_
  simp only [sets]
  refine V.re [(0, I s), (1, .agg ⟨A2 p q⟩), (2, I w)] (N := 39) (by intro i; simp only [full_st, Full.mk]) (by simp only [Kn, gt_st, full_st, Full.mk, ↓reduceIte, reduceEqDiff, reduceLT, decide_true, and_self]) ?_
  intro t hF hA
  simp only [Kn, and_true] at hA
  (repeat first|apply V.seq|apply V.block|apply V.scope|apply V.skip|apply V.close)
  refine V.line' (by simp +contextual (disch := first|omega|simp only [nx];omega) only [D4, reduceNegSucc, reduceEq, reduceLeDiff, reduceSub, reduceAdd, D5, hF, hA, ↓reduceIte, reduceEqDiff, reduceLT]; with_reducible rfl) ?_
  refine V.heap (fun X => Grow H X ∧ Bx X H.next (A2 p q) 36) ⟨?_, ?_⟩ ?_
  · (repeat first | assumption | exact Grow.refl _ | refine Grow.alloc ?_ _ | refine Grow.set ?_ (by first|omega|simp only [nx];omega) _)
  · (repeat first | assumption | exact Bx.new _ _ _ | exact Bx.newAt (by first|omega|simp only [nx];omega) | refine Bx.put (by first|omega|simp only [nx];omega) _ _ | refine Bx.alloc ?_ _ | refine Bx.set ?_ (by first|omega|simp only [nx];omega) _)
  rintro H1 ⟨g1, b1⟩
  (repeat first|apply V.seq|apply V.block|apply V.scope|apply V.skip|apply V.close)
  refine V.line' (by simp +contextual (disch := first|omega|simp only [nx];omega) only [D4, reduceNegSucc, reduceEq, reduceLeDiff, reduceSub, reduceAdd, D5, hF, hA, ↓reduceIte, reduceEqDiff, reduceLT, b1.2, e1, n1, n2, n3, n4, ne_eq, not_true_eq_false]; with_reducible rfl) ?_
  (repeat first|apply V.seq|apply V.block|apply V.scope|apply V.skip|apply V.close)
  refine V.condF (by simp only [D6, D5, hF, hA, ↓reduceIte, reduceEqDiff, reduceLT]) ?_
  (repeat first|apply V.seq|apply V.block|apply V.scope|apply V.skip|apply V.close)
  refine V.lineD' (by simp +contextual (disch := first|omega|simp only [nx];omega) only [D4, reduceNegSucc, reduceEq, reduceLeDiff, reduceSub, reduceAdd, D5, hF, hA, ↓reduceIte, reduceEqDiff, reduceLT, b1.2, e2, e3, e4, n2]; with_reducible rfl) ?_ ?_ rfl ?_
  · simp only [monoG, List.cons_append, List.nil_append, Heap.next_set, Heap.next_alloc, Nat.le_refl, true_and, and_true] <;> omega
  · simp only [dcAll, dcOk, wantD, List.cons_append, List.nil_append, true_and, and_true]
  (repeat first|apply V.seq|apply V.block|apply V.scope|apply V.skip|apply V.close)
  refine V.ret (V.rets rfl (Lv.retG (by simp +contextual (disch := first|omega|simp only [nx];omega) only [D1, cells_alloc_at, cells_alloc_ne, cells_set_at, cells_set_ne, yres, yres1, yresL, reduceLeDiff, reduceSub, reduceAdd, D5, hF, hA, ↓reduceIte, reduceEqDiff, reduceLT]; rfl) ?_ ?_))
  · exact g1
  · rfl
theorem psum_all (a u c : Nat) : psum a u c 0 (c + 1) = ch (a + u) c := by
  rw [← vander]
  unfold psum part
  simp only [Nat.zero_add]
end Go.Xe.TMX
