/- What the statement MissRises comes to. Conditions: none. -/
import Derived.Test.YtefoodhfkkcmcabTNO
-- MOD TM
namespace Go.Xe.TMX
open Go Go.Xe Go.Proofs Go.Xe.Mth
open Nat (reduceLeDiff reduceSub reduceAdd reduceEqDiff reduceLT)
open Int (reduceNegSucc reduceEq)
set_option maxRecDepth 100000
set_option maxHeartbeats 3200000
set_option linter.unusedSimpArgs false
noncomputable def d51 : FCode := (.seq (.run (.go (.box 36 (.tmp (pth 0))) (pth 2)::
.go (.box 36 (.tmp (pth 1))) (pth 3)::
.go (.move (.con (.bool false))) (pth 4)::
[])) (.seq (.run (.go (.fieldAddr 0 (.tmp (pth 2))) (pth 5)::
.go (.load1 (.tmp (pth 5))) (pth 6)::
.go (.fieldAddr 1 (.tmp (pth 2))) (pth 7)::
.go (.load1 (.tmp (pth 7))) (pth 8)::
.go (.mm true [(.con (.int .i64 (.ofNat 1))),(.tmp (pth 8))]) (pth 9)::
.go (.build [(.int .i64 (.ofNat 0)),(.int .i64 (.ofNat 0))] [(0,1,(.tmp (pth 6))),(1,1,(.tmp (pth 9)))]) (pth 10)::
.go (.fieldAddr 0 (.tmp (pth 3))) (pth 11)::
.go (.load1 (.tmp (pth 11))) (pth 12)::
.go (.fieldAddr 1 (.tmp (pth 3))) (pth 13)::
.go (.load1 (.tmp (pth 13))) (pth 14)::
.go (.mm true [(.con (.int .i64 (.ofNat 1))),(.tmp (pth 14))]) (pth 15)::
.go (.build [(.int .i64 (.ofNat 0)),(.int .i64 (.ofNat 0))] [(0,1,(.tmp (pth 12))),(1,1,(.tmp (pth 15)))]) (pth 16)::
.go (.call (.con (.func (.func 32) ⟨[]⟩ ⟨[]⟩)) [(.tmp (pth 10)),(.tmp (pth 16))]) (pth 17)::
.go (.move (.tmp (pth 17))) (pth 4)::
[])) .ret))
theorem de51 : @compF Try.prog (Gl.none Try.prog) Try.f51 2 = .mk d51 (mkTT 18) [(pth 0),(pth 1)] [.tmp (pth 4)] := by kernel_rfl
theorem dg51 : Try.prog.funcs[51]? = some Try.f51 := Try.func51
theorem do51 : okF Try.prog Try.f51 = true := by kernel_rfl
noncomputable def d12 : FCode := (.seq (.run (.go (.box 23 (.tmp (pth 0))) (pth 3)::
.go (.box 41 (.tmp (pth 2))) (pth 5)::
.go (.move (.con (.bool false))) (pth 6)::
[])) (.seq (.seq (.run (.go (.loadN 4 (.tmp (pth 3))) (pth 19)::
.go (.call (.con (.func (.func 48) ⟨[]⟩ ⟨[]⟩)) [(.tmp (pth 19))]) (pth 20)::
.go (.un .not (.tmp (pth 20))) (pth 21)::
.go (.move (.tmp (pth 21))) (pth 22)::
.gd (pth 22) false (.loadN 2 (.tmp (pth 5))) (pth 23)::
.gd (pth 22) false (.call (.con (.func (.func 36) ⟨[]⟩ ⟨[]⟩)) [(.tmp (pth 23))]) (pth 24)::
.gd (pth 22) false (.un .not (.tmp (pth 24))) (pth 25)::
.go (.pick (.tmp (pth 22)) (.con (.bool true)) (.tmp (pth 25))) (pth 26)::
.go (.move (.tmp (pth 26))) (pth 27)::
.gd (pth 27) false (.fieldAddr 1 (.tmp (pth 3))) (pth 28)::
.gd (pth 27) false (.load1 (.tmp (pth 28))) (pth 29)::
.gd (pth 27) false (.bin .eql 3 (.tmp (pth 29)) (.con (.int .i64 (.ofNat 0)))) (pth 30)::
.go (.pick (.tmp (pth 27)) (.con (.bool true)) (.tmp (pth 30))) (pth 31)::
[])) (.cond (.tmp (pth 31)) (.seq (.run (.go (.call (.con (.func (.func 24) ⟨[]⟩ ⟨[]⟩)) []) (pth 32)::
.go (.move (.tmp (pth 32))) (pth 6)::
[])) .ret) .skip)) (.seq (.run (.go (.move (.tmp (pth 1))) (pth 33)::
.go (.conv .i64 (.tmp (pth 33))) (pth 34)::
.go (.fieldAddr 1 (.tmp (pth 3))) (pth 35)::
.go (.load1 (.tmp (pth 35))) (pth 36)::
.go (.bin .rem 3 (.tmp (pth 34)) (.tmp (pth 36))) (pth 37)::
.go (.move (.tmp (pth 37))) (pth 7)::
[])) (.seq (.run (.go (.loadN 4 (.tmp (pth 3))) (pth 39)::
.go (.call (.con (.func (.func 21) ⟨[]⟩ ⟨[]⟩)) [(.tmp (pth 39))]) (pth 40)::
.go (.move (.tmp (pth 7))) (pth 41)::
.go (.call (.con (.func (.func 27) ⟨[]⟩ ⟨[]⟩)) [(.tmp (pth 40)),(.tmp (pth 41)),(.con (.bool true))]) (pth 42)::
.go (.move (.tmp (pth 42))) (pth 38)::
.go (.extract (.tmp (pth 38)) 0) (pth 43)::
.go (.extract (.tmp (pth 38)) 1) (pth 44)::
.go (.alloc 36 [(.int .i64 (.ofNat 0)),(.int .i64 (.ofNat 0))]) (pth 8)::
.un (.store 2 (.tmp (pth 8)) (.tmp (pth 43)))::
.go (.move (.tmp (pth 44))) (pth 9)::
[])) (.seq (.run (.go (.loadN 4 (.tmp (pth 3))) (pth 46)::
.go (.call (.con (.func (.func 21) ⟨[]⟩ ⟨[]⟩)) [(.tmp (pth 46))]) (pth 47)::
.go (.move (.tmp (pth 7))) (pth 48)::
.go (.bin .add 3 (.tmp (pth 48)) (.con (.int .i64 (.ofNat 1)))) (pth 49)::
.go (.call (.con (.func (.func 27) ⟨[]⟩ ⟨[]⟩)) [(.tmp (pth 47)),(.tmp (pth 49)),(.con (.bool true))]) (pth 50)::
.go (.move (.tmp (pth 50))) (pth 45)::
.go (.extract (.tmp (pth 45)) 0) (pth 51)::
.go (.extract (.tmp (pth 45)) 1) (pth 52)::
.go (.alloc 36 [(.int .i64 (.ofNat 0)),(.int .i64 (.ofNat 0))]) (pth 10)::
.un (.store 2 (.tmp (pth 10)) (.tmp (pth 51)))::
.go (.move (.tmp (pth 52))) (pth 11)::
[])) (.seq (.run (.go (.loadN 4 (.tmp (pth 3))) (pth 54)::
.go (.call (.con (.func (.func 21) ⟨[]⟩ ⟨[]⟩)) [(.tmp (pth 54))]) (pth 55)::
.go (.move (.tmp (pth 7))) (pth 56)::
.go (.call (.con (.func (.func 27) ⟨[]⟩ ⟨[]⟩)) [(.tmp (pth 55)),(.tmp (pth 56)),(.con (.bool false))]) (pth 57)::
.go (.move (.tmp (pth 57))) (pth 53)::
.go (.extract (.tmp (pth 53)) 0) (pth 58)::
.go (.extract (.tmp (pth 53)) 1) (pth 59)::
.go (.alloc 36 [(.int .i64 (.ofNat 0)),(.int .i64 (.ofNat 0))]) (pth 12)::
.un (.store 2 (.tmp (pth 12)) (.tmp (pth 58)))::
.go (.move (.tmp (pth 59))) (pth 13)::
[])) (.seq (.run (.go (.loadN 4 (.tmp (pth 3))) (pth 61)::
.go (.call (.con (.func (.func 21) ⟨[]⟩ ⟨[]⟩)) [(.tmp (pth 61))]) (pth 62)::
.go (.move (.tmp (pth 7))) (pth 63)::
.go (.bin .add 3 (.tmp (pth 63)) (.con (.int .i64 (.ofNat 1)))) (pth 64)::
.go (.call (.con (.func (.func 27) ⟨[]⟩ ⟨[]⟩)) [(.tmp (pth 62)),(.tmp (pth 64)),(.con (.bool false))]) (pth 65)::
.go (.move (.tmp (pth 65))) (pth 60)::
.go (.extract (.tmp (pth 60)) 0) (pth 66)::
.go (.extract (.tmp (pth 60)) 1) (pth 67)::
.go (.alloc 36 [(.int .i64 (.ofNat 0)),(.int .i64 (.ofNat 0))]) (pth 14)::
.un (.store 2 (.tmp (pth 14)) (.tmp (pth 66)))::
.go (.move (.tmp (pth 67))) (pth 15)::
[])) (.seq (.seq (.run (.go (.move (.tmp (pth 9))) (pth 68)::
.go (.bin .neq 24 (.tmp (pth 68)) (.con (.int .i64 (.ofNat 0)))) (pth 69)::
.go (.move (.tmp (pth 69))) (pth 70)::
.gd (pth 70) false (.move (.tmp (pth 11))) (pth 71)::
.gd (pth 70) false (.bin .neq 24 (.tmp (pth 71)) (.con (.int .i64 (.ofNat 0)))) (pth 72)::
.go (.pick (.tmp (pth 70)) (.con (.bool true)) (.tmp (pth 72))) (pth 73)::
.go (.move (.tmp (pth 73))) (pth 74)::
.gd (pth 74) false (.move (.tmp (pth 13))) (pth 75)::
.gd (pth 74) false (.bin .neq 24 (.tmp (pth 75)) (.con (.int .i64 (.ofNat 0)))) (pth 76)::
.go (.pick (.tmp (pth 74)) (.con (.bool true)) (.tmp (pth 76))) (pth 77)::
.go (.move (.tmp (pth 77))) (pth 78)::
.gd (pth 78) false (.move (.tmp (pth 15))) (pth 79)::
.gd (pth 78) false (.bin .neq 24 (.tmp (pth 79)) (.con (.int .i64 (.ofNat 0)))) (pth 80)::
.go (.pick (.tmp (pth 78)) (.con (.bool true)) (.tmp (pth 80))) (pth 81)::
.go (.move (.tmp (pth 81))) (pth 82)::
.gd (pth 82) false (.loadN 2 (.tmp (pth 10))) (pth 83)::
.gd (pth 82) false (.loadN 2 (.tmp (pth 8))) (pth 84)::
.gd (pth 82) false (.call (.con (.func (.func 51) ⟨[]⟩ ⟨[]⟩)) [(.tmp (pth 83)),(.tmp (pth 84))]) (pth 85)::
.go (.pick (.tmp (pth 82)) (.con (.bool true)) (.tmp (pth 85))) (pth 86)::
.go (.move (.tmp (pth 86))) (pth 87)::
.gd (pth 87) false (.loadN 2 (.tmp (pth 12))) (pth 88)::
.gd (pth 87) false (.loadN 2 (.tmp (pth 14))) (pth 89)::
.gd (pth 87) false (.call (.con (.func (.func 51) ⟨[]⟩ ⟨[]⟩)) [(.tmp (pth 88)),(.tmp (pth 89))]) (pth 90)::
.go (.pick (.tmp (pth 87)) (.con (.bool true)) (.tmp (pth 90))) (pth 91)::
[])) (.cond (.tmp (pth 91)) (.seq (.run (.go (.move (.con (.bool false))) (pth 6)::
[])) .ret) .skip)) (.seq (.draw 11 (.go (.loadN 4 (.tmp (pth 3))) (pth 93)::
.go (.call (.con (.func (.func 21) ⟨[]⟩ ⟨[]⟩)) [(.tmp (pth 93))]) (pth 94)::
.go (.loadN 2 (.tmp (pth 5))) (pth 95)::
.go (.call (.con (.func (.func 28) ⟨[]⟩ ⟨[]⟩)) [(.tmp (pth 95))]) (pth 96)::
.go (.call (.con (.func (.func 39) ⟨[]⟩ ⟨[]⟩)) [(.tmp (pth 94)),(.tmp (pth 96))]) (pth 97)::
.go (.move (.tmp (pth 97))) (pth 92)::
.go (.extract (.tmp (pth 92)) 0) (pth 98)::
.go (.extract (.tmp (pth 92)) 1) (pth 99)::
.go (.alloc 53 [(.int .i64 (.ofNat 0)),(.int .i64 (.ofNat 0))]) (pth 16)::
.un (.store 2 (.tmp (pth 16)) (.tmp (pth 98)))::
.go (.move (.tmp (pth 99))) (pth 17)::
[]) [.ok,.ok,.rd none (.loadN 2 (.tmp (pth 5))) (some (pth 95)) [0],.ok,.ok,.ok,.ok,.ok,.nw none (some (pth 16)) 8 true,.ok,.ok]) (.seq (.seq (.run (.go (.move (.tmp (pth 17))) (pth 100)::
.go (.bin .neq 24 (.tmp (pth 100)) (.con (.int .i64 (.ofNat 0)))) (pth 101)::
[])) (.cond (.tmp (pth 101)) (.seq (.draw 18 (.go (.move (.tmp (pth 17))) (pth 102)::
.go (.bin .eql 24 (.tmp (pth 102)) (.con (.int .i64 (.ofNat 9)))) (pth 103)::
.go (.move (.tmp (pth 103))) (pth 104)::
.gd (pth 104) true (.loadN 2 (.tmp (pth 8))) (pth 105)::
.gd (pth 104) true (.loadN 2 (.tmp (pth 5))) (pth 106)::
.gd (pth 104) true (.call (.con (.func (.func 28) ⟨[]⟩ ⟨[]⟩)) [(.tmp (pth 106))]) (pth 107)::
.gd (pth 104) true (.call (.con (.func (.func 51) ⟨[]⟩ ⟨[]⟩)) [(.tmp (pth 105)),(.tmp (pth 107))]) (pth 108)::
.gd (pth 104) true (.move (.tmp (pth 108))) (pth 109)::
.gd (pth 109) false (.loadN 2 (.tmp (pth 12))) (pth 110)::
.gd (pth 109) false (.loadN 2 (.tmp (pth 5))) (pth 111)::
.gd (pth 109) false (.call (.con (.func (.func 28) ⟨[]⟩ ⟨[]⟩)) [(.tmp (pth 111))]) (pth 112)::
.gd (pth 109) false (.call (.con (.func (.func 51) ⟨[]⟩ ⟨[]⟩)) [(.tmp (pth 110)),(.tmp (pth 112))]) (pth 113)::
.gd (pth 104) true (.pick (.tmp (pth 109)) (.con (.bool true)) (.tmp (pth 113))) (pth 114)::
.go (.pick (.tmp (pth 104)) (.tmp (pth 114)) (.con (.bool false))) (pth 115)::
.go (.move (.tmp (pth 115))) (pth 116)::
.gd (pth 116) true (.call (.con (.func (.func 24) ⟨[]⟩ ⟨[]⟩)) []) (pth 117)::
.go (.pick (.tmp (pth 116)) (.tmp (pth 117)) (.con (.bool false))) (pth 118)::
.go (.move (.tmp (pth 118))) (pth 6)::
[]) [.ok,.ok,.ok,.rd (some ((pth 104),true)) (.loadN 2 (.tmp (pth 8))) (some (pth 105)) [6],.ok,.ok,.ok,.ok,.rd (some ((pth 109),false)) (.loadN 2 (.tmp (pth 12))) (some (pth 110)) [11],.ok,.ok,.ok,.ok,.ok,.ok,.ok,.ok,.ok]) .ret) .skip)) (.seq (.draw 11 (.go (.loadN 2 (.tmp (pth 8))) (pth 119)::
.go (.loadN 2 (.tmp (pth 5))) (pth 120)::
.go (.call (.con (.func (.func 28) ⟨[]⟩ ⟨[]⟩)) [(.tmp (pth 120))]) (pth 121)::
.go (.call (.con (.func (.func 51) ⟨[]⟩ ⟨[]⟩)) [(.tmp (pth 119)),(.tmp (pth 121))]) (pth 122)::
.go (.move (.tmp (pth 122))) (pth 123)::
.gd (pth 123) false (.loadN 2 (.tmp (pth 12))) (pth 124)::
.gd (pth 123) false (.loadN 2 (.tmp (pth 5))) (pth 125)::
.gd (pth 123) false (.call (.con (.func (.func 28) ⟨[]⟩ ⟨[]⟩)) [(.tmp (pth 125))]) (pth 126)::
.gd (pth 123) false (.call (.con (.func (.func 51) ⟨[]⟩ ⟨[]⟩)) [(.tmp (pth 124)),(.tmp (pth 126))]) (pth 127)::
.go (.pick (.tmp (pth 123)) (.con (.bool true)) (.tmp (pth 127))) (pth 128)::
.go (.move (.tmp (pth 128))) (pth 18)::
[]) [.rd none (.loadN 2 (.tmp (pth 8))) (some (pth 119)) [3],.ok,.ok,.ok,.ok,.rd (some ((pth 123),false)) (.loadN 2 (.tmp (pth 12))) (some (pth 124)) [8],.ok,.ok,.ok,.ok,.ok]) (.seq (.run (.go (.fieldAddr 0 (.tmp (pth 16))) (pth 129)::
.go (.load1 (.tmp (pth 129))) (pth 130)::
.go (.fieldAddr 1 (.tmp (pth 16))) (pth 131)::
.go (.load1 (.tmp (pth 131))) (pth 132)::
.go (.bin .leq 3 (.tmp (pth 130)) (.tmp (pth 132))) (pth 133)::
.go (.move (.tmp (pth 133))) (pth 134)::
.gd (pth 134) true (.move (.tmp (pth 18))) (pth 135)::
.gd (pth 134) true (.move (.tmp (pth 7))) (pth 136)::
.gd (pth 134) true (.fieldAddr 0 (.tmp (pth 16))) (pth 137)::
.gd (pth 134) true (.load1 (.tmp (pth 137))) (pth 138)::
.gd (pth 134) true (.bin .lss 3 (.tmp (pth 136)) (.tmp (pth 138))) (pth 139)::
.gd (pth 134) true (.move (.tmp (pth 139))) (pth 140)::
.gd (pth 140) false (.move (.tmp (pth 7))) (pth 141)::
.gd (pth 140) false (.fieldAddr 1 (.tmp (pth 16))) (pth 142)::
.gd (pth 140) false (.load1 (.tmp (pth 142))) (pth 143)::
.gd (pth 140) false (.bin .gtr 3 (.tmp (pth 141)) (.tmp (pth 143))) (pth 144)::
.gd (pth 134) true (.pick (.tmp (pth 140)) (.con (.bool true)) (.tmp (pth 144))) (pth 145)::
.gd (pth 134) true (.bin .eql 4 (.tmp (pth 135)) (.tmp (pth 145))) (pth 146)::
.go (.pick (.tmp (pth 134)) (.tmp (pth 146)) (.con (.bool false))) (pth 147)::
.go (.move (.tmp (pth 147))) (pth 148)::
.gd (pth 148) true (.call (.con (.func (.func 24) ⟨[]⟩ ⟨[]⟩)) []) (pth 149)::
.go (.pick (.tmp (pth 148)) (.tmp (pth 149)) (.con (.bool false))) (pth 150)::
.go (.move (.tmp (pth 150))) (pth 6)::
[])) .ret))))))))))))
theorem de12 : @compF Try.prog (Gl.none Try.prog) Try.f12 3 = .mk d12 (mkTT 151) [(pth 0),(pth 1),(pth 2)] [.tmp (pth 6)] := by kernel_rfl
theorem dg12 : Try.prog.funcs[12]? = some Try.f12 := Try.func12
theorem do12 : okF Try.prog Try.f12 = true := by kernel_rfl
theorem f51_ok {p w n q : Nat} (hw : 0 < w) (hq : 0 < q) (hp2 : p ≤ 4611686018427387904) (hw2 : w ≤ 4611686018427387904) (hn2 : n ≤ 4611686018427387904) (hq2 : q ≤ 4611686018427387904) (H : Heap) : Gives Try.prog 51 [.agg ⟨A2 p w⟩, .agg ⟨A2 n q⟩] H (.bool (decide (p * q < n * w))) := by
  have m1 : (if (w : Int) > 1 then (w : Int) else 1) = w := by split <;> omega
  have m2 : (if (q : Int) > 1 then (q : Int) else 1) = q := by split <;> omega
  refine F.entryL rfl dg51 do51 de51 rfl (by kernel_rfl) ?_
  simp only [sets]
  refine V.re [(0, .agg ⟨A2 p w⟩), (1, .agg ⟨A2 n q⟩)] (N := 18) (by intro i; simp only [full_st, Full.mk]) (by simp only [Kn, gt_st, full_st, Full.mk, ↓reduceIte, reduceEqDiff, reduceLT, decide_true, and_self]) ?_
  intro t hF hA
  simp only [Kn, and_true] at hA
  (repeat first|apply V.seq|apply V.block|apply V.scope|apply V.skip|apply V.close)
  refine V.line' (by simp +contextual (disch := first|omega|simp only [nx];omega) only [D4,reduceNegSucc,reduceEq,reduceLeDiff,reduceSub,reduceAdd,D5,hF,hA,↓reduceIte,reduceEqDiff,reduceLT]; with_reducible rfl) ?_
  refine V.heap (fun X => Grow H X ∧ Bx X H.next (A2 p w) 36 ∧ Bx X (H.next + 1) (A2 n q) 36) ⟨?_, ?_⟩ ?_
  · (repeat first | assumption | exact Grow.refl _ | refine Grow.alloc ?_ _ | refine Grow.set ?_ (by first|omega|simp only [nx];omega) _)
  · exact ⟨by (repeat first | assumption | exact Bx.new _ _ _ | exact Bx.newAt (by first|omega|simp only [nx];omega) | refine Bx.put (by first|omega|simp only [nx];omega) _ _ | refine Bx.alloc ?_ _ | refine Bx.set ?_ (by first|omega|simp only [nx];omega) _), by (repeat first | assumption | exact Bx.new _ _ _ | exact Bx.newAt (by first|omega|simp only [nx];omega) | refine Bx.put (by first|omega|simp only [nx];omega) _ _ | refine Bx.alloc ?_ _ | refine Bx.set ?_ (by first|omega|simp only [nx];omega) _)⟩
  rintro H1 ⟨g1, b1, c1⟩
  (repeat first|apply V.seq|apply V.block|apply V.scope|apply V.skip|apply V.close)
  refine V.run ?_
  refine VI.steps' 9 (by simp +contextual (disch := first|omega|simp only [nx];omega) only [D4,reduceNegSucc,reduceEq,reduceLeDiff,reduceSub,reduceAdd,D5,hF,hA,↓reduceIte,reduceEqDiff,reduceLT, b1.2, c1.2, m1, m2]; with_reducible rfl) ?_
  simp only [ds]
  refine VI.steps' 3 (by simp +contextual (disch := first|omega|simp only [nx];omega) only [D4,reduceNegSucc,reduceEq,reduceLeDiff,reduceSub,reduceAdd,D5,hF,hA,↓reduceIte,reduceEqDiff,reduceLT, b1.2, c1.2, m1, m2]; with_reducible rfl) ?_
  simp only [ds]
  refine VI.callA rfl (f32_ok hw hq hp2 hw2 hn2 hq2 _) (by simp only [D6,D5,hF,hA,↓reduceIte,reduceEqDiff,reduceLT]; try rfl) (fun H2 g2 => ?_)
  refine VI.line' (by simp +contextual (disch := first|omega|simp only [nx];omega) only [D4,reduceNegSucc,reduceEq,reduceLeDiff,reduceSub,reduceAdd,D5,hF,hA,↓reduceIte,reduceEqDiff,reduceLT]; with_reducible rfl) ?_
  (repeat first|apply V.seq|apply V.block|apply V.scope|apply V.skip|apply V.close)
  refine V.ret (V.rets rfl (Lv.retG (by simp +contextual (disch := first|omega|simp only [nx];omega) only [D1, cells_alloc_at, cells_alloc_ne, cells_set_at, cells_set_ne, yres, yres1, yresL, reduceLeDiff, reduceSub, reduceAdd, D5,hF,hA,↓reduceIte,reduceEqDiff,reduceLT]; rfl) ?_ ?_))
  · exact g1.trans g2
  · rfl
theorem gcd_parts {p w : Nat} (hw : 0 < w) : 0 < w / Nat.gcd p w ∧ w / Nat.gcd p w ≤ w ∧ p / Nat.gcd p w ≤ p ∧ p / Nat.gcd p w * Nat.gcd p w = p ∧ w / Nat.gcd p w * Nat.gcd p w = w ∧ 0 < Nat.gcd p w := by
  have hg := Nat.gcd_pos_of_pos_right p hw
  have h1 := Nat.gcd_dvd_right p w
  exact ⟨Nat.div_pos (Nat.le_of_dvd hw h1) hg, Nat.div_le_self _ _, Nat.div_le_self _ _, Nat.div_mul_cancel (Nat.gcd_dvd_left p w), Nat.div_mul_cancel h1, hg⟩
theorem f51_lv {p w n q : Nat} (hw : 0 < w) (hq : 0 < q) (hp2 : p ≤ 4611686018427387904) (hw2 : w ≤ 4611686018427387904) (hn2 : n ≤ 4611686018427387904) (hq2 : q ≤ 4611686018427387904) (H : Heap) : Gives Try.prog 51 [.agg ⟨fr p w⟩, .agg ⟨A2 n q⟩] H (.bool (decide (p * q < n * w))) := by
  obtain ⟨a1, a2, a3, _⟩ := gcd_parts (p := p) hw
  have h := f51_ok (p := p / Nat.gcd p w) (w := w / Nat.gcd p w) a1 hq (by omega) (by omega) hn2 hq2 H
  simp only [below_fr hw] at h
  exact h
theorem f51_fr {p w n q : Nat} (hw : 0 < w) (hq : 0 < q) (hp2 : p ≤ 4611686018427387904) (hw2 : w ≤ 4611686018427387904) (hn2 : n ≤ 4611686018427387904) (hq2 : q ≤ 4611686018427387904) (H : Heap) : Gives Try.prog 51 [.agg ⟨fr p w⟩, .agg ⟨fr n q⟩] H (.bool (decide (p * q < n * w))) := by
  obtain ⟨a1, a2, a3, a4, a5, a6⟩ := gcd_parts (p := n) hq
  have h := f51_lv (p := p) (w := w) (n := n / Nat.gcd n q) (q := q / Nat.gcd n q) hw a1 hp2 hw2 (by omega) (by omega) H
  have e : (p * (q / Nat.gcd n q) < n / Nat.gcd n q * w) = (p * q < n * w) := by
    generalize q / Nat.gcd n q = q1 at *
    generalize n / Nat.gcd n q = n1 at *
    generalize Nat.gcd n q = g at *
    subst a4 a5
    have e1 : p * (q1 * g) = p * q1 * g := (Nat.mul_assoc _ _ _).symm
    have e2 : n1 * g * w = n1 * w * g := Nat.mul_right_comm _ _ _
    rw [e1, e2]
    exact propext (Nat.mul_lt_mul_right a6).symm
  simp only [e] at h
  exact h
theorem eqb {x : Bool} : xbinOp Try.prog .eql 4 (.bool x) (.bool x) = some (.bool true) := by cases x <;> kernel_rfl
theorem f12_ok {a b c d m n q : Int} {H : Heap} (hm : 0 ≤ m ∧ m ≤ 255) : F Try.prog 12 ⟨[.agg ⟨A4 a b c d⟩, By m, .agg ⟨A2 n q⟩]⟩ H (fun w _ => w = .bool true) := by
  refine F.entryL rfl dg12 do12 de12 rfl (by kernel_rfl) ?_
  simp only [sets]
  refine V.re [(0, .agg ⟨A4 a b c d⟩), (1, By m), (2, .agg ⟨A2 n q⟩)] (N := 151) (by intro i; simp only [full_st, Full.mk]) (by simp only [Kn, gt_st, full_st, Full.mk, ↓reduceIte, reduceEqDiff, reduceLT, decide_true, and_self]) ?_
  intro t hF hA
  simp only [Kn, and_true] at hA
  (repeat first|apply V.seq|apply V.block|apply V.scope|apply V.skip|apply V.close)
  refine V.line' (by simp +contextual (disch := first|omega|simp only [nx];omega) only [D4,reduceNegSucc,reduceEq,reduceLeDiff,reduceSub,reduceAdd,D5,hF,hA,↓reduceIte,reduceEqDiff,reduceLT]; with_reducible rfl) ?_
  refine V.heap (fun X => Grow H X ∧ Bx X H.next (A4 a b c d) 23 ∧ Bx X (H.next + 1) (A2 n q) 41) ⟨?_, ?_⟩ ?_
  · (repeat first | assumption | exact Grow.refl _ | refine Grow.alloc ?_ _ | refine Grow.set ?_ (by first|omega|simp only [nx];omega) _)
  · exact ⟨by (repeat first | assumption | exact Bx.new _ _ _ | exact Bx.newAt (by first|omega|simp only [nx];omega) | refine Bx.put (by first|omega|simp only [nx];omega) _ _ | refine Bx.alloc ?_ _ | refine Bx.set ?_ (by first|omega|simp only [nx];omega) _), by (repeat first | assumption | exact Bx.new _ _ _ | exact Bx.newAt (by first|omega|simp only [nx];omega) | refine Bx.put (by first|omega|simp only [nx];omega) _ _ | refine Bx.alloc ?_ _ | refine Bx.set ?_ (by first|omega|simp only [nx];omega) _)⟩
  rintro H1 ⟨g1, b1, c1⟩
  (repeat first|apply V.seq|apply V.block|apply V.scope|apply V.skip|apply V.close)
  refine V.run ?_
  refine VI.steps' 1 (by simp +contextual (disch := first|omega|simp only [nx];omega) only [D4,reduceNegSucc,reduceEq,reduceLeDiff,reduceSub,reduceAdd,D5,hF,hA,↓reduceIte,reduceEqDiff,reduceLT, b1.2]; with_reducible rfl) ?_
  simp only [ds]
  refine VI.callA rfl (f48_ok a b c d _) (by simp only [D6,D5,hF,hA,↓reduceIte,reduceEqDiff,reduceLT]; try rfl) (fun H2 g2 => ?_)
  have b2 := b1.grow g2
  have c2 := c1.grow g2
  refine VI.steps' 3 (by simp +contextual (disch := first|omega|simp only [nx];omega) only [D4,reduceNegSucc,reduceEq,reduceLeDiff,reduceSub,reduceAdd,D5,hF,hA,↓reduceIte,reduceEqDiff,reduceLT, c2.2]; with_reducible rfl) ?_
  simp only [ds]
  first | refine VI.callGt (by simp only [D5,hF,hA,↓reduceIte,reduceEqDiff,reduceLT]; rfl) (fun hc => by simp only [D6,D5,hF,hA,↓reduceIte,reduceEqDiff,reduceLT, hc, and_self, and_true, true_and, not_false_eq_true]; try rfl) (fun hc => f36_ok n q _) (fun hc => by simp only [D6,D5,hF,hA,↓reduceIte,reduceEqDiff,reduceLT, hc, and_self, and_true, true_and, not_false_eq_true]; try rfl) (fun H3 g3 => ?_) | refine VI.callGf (by simp only [D5,hF,hA,↓reduceIte,reduceEqDiff,reduceLT]; rfl) (fun hc => by simp only [D6,D5,hF,hA,↓reduceIte,reduceEqDiff,reduceLT, hc, and_self, and_true, true_and, not_false_eq_true]; try rfl) (fun hc => f36_ok n q _) (fun hc => by simp only [D6,D5,hF,hA,↓reduceIte,reduceEqDiff,reduceLT, hc, and_self, and_true, true_and, not_false_eq_true]; try rfl) (fun H3 g3 => ?_)
  have b3 := b2.grow g3
  have c3 := c2.grow g3
  refine VI.line' (by simp +contextual (disch := first|omega|simp only [nx];omega) only [D4,reduceNegSucc,reduceEq,reduceLeDiff,reduceSub,reduceAdd,D5,hF,hA,↓reduceIte,reduceEqDiff,reduceLT, b3.2]; with_reducible rfl) ?_
  (repeat first|apply V.seq|apply V.block|apply V.scope|apply V.skip|apply V.close)
  refine V.condP (by simp only [D6,D5,hF,hA,↓reduceIte,reduceEqDiff,reduceLT]; rfl) (fun h => ?_) (fun h => ?_)
  · (repeat first|apply V.seq|apply V.block|apply V.scope|apply V.skip|apply V.close)
    refine V.run ?_
    refine VI.callA rfl (f24_ok _) (by simp only [D6,D5,hF,hA,↓reduceIte,reduceEqDiff,reduceLT]; try rfl) (fun H4 g4 => ?_)
    refine VI.line' (by simp +contextual (disch := first|omega|simp only [nx];omega) only [D4,reduceNegSucc,reduceEq,reduceLeDiff,reduceSub,reduceAdd,D5,hF,hA,↓reduceIte,reduceEqDiff,reduceLT]; with_reducible rfl) ?_
    (repeat first|apply V.seq|apply V.block|apply V.scope|apply V.skip|apply V.close)
    refine V.ret (V.rets rfl (Lv.retF (by simp +contextual (disch := first|omega|simp only [nx];omega) only [D1, cells_alloc_at, cells_alloc_ne, cells_set_at, cells_set_ne, yres, yres1, yresL, reduceLeDiff, reduceSub, reduceAdd, D5,hF,hA,↓reduceIte,reduceEqDiff,reduceLT]; rfl) ?_))
    rfl
  have hv : ar a b c d := by
    by_cases hx : ar a b c d
    · exact hx
    · exact absurd (by simp [hx]) h
  have hl : lv n q := by
    by_cases hx : lv n q
    · exact hx
    · exact absurd (by simp [hx]) h
  have hb0 : ¬ b = 0 := fun hx => h (by simp [hx])
  clear h
  obtain ⟨a, b, c, d, rfl, rfl, rfl, rfl, k1, k3, k4⟩ := ar_nat hv
  obtain ⟨n, q, rfl, rfl, hq1, hq2, hn2⟩ : ∃ n' q' : Nat, n = n' ∧ q = q' ∧ 1 ≤ q' ∧ q' ≤ 1000 ∧ n' ≤ q' := by
    obtain ⟨⟨k1, k2⟩, k3, k4⟩ := hl
    exact ⟨n.toNat, q.toNat, by omega, by omega, by omega, by omega, by omega⟩
  obtain ⟨u, eu, hu, _⟩ := tm_nat hm.1 (b := (b : Int)) (by omega)
  have wm : IntKind.i64.wrap m = m := wrap_i64 (by omega) (by omega)
  have hr1 := rd_of (d := d) k1 (u := u) (by omega) k3 k4
  have hr2 := rd_of (d := d) k1 (u := u + 1) (by omega) k3 k4
  have euu : (u : Int) + 1 = ((u + 1 : Nat) : Int) := rfl
  have hcb := ch_bound (n := a + u) c (by omega)
  have hcb' := ch_bound (n := a + (u + 1)) c (by omega)
  have hcp := ch_pos (n := a + u) (k := c) (by omega)
  have hcp' := ch_pos (n := a + (u + 1)) (k := c) (by omega)
  have s1 := psum_le (a := a) (u := u) (c := c) (f := 0) (n := d + 1) (by omega)
  have s2 := psum_le (a := a) (u := u + 1) (c := c) (f := 0) (n := d + 1) (by omega)
  have s3 := psum_le (a := a) (u := u) (c := c) (f := d) (n := c + 1 - d) (by omega)
  have s4 := psum_le (a := a) (u := u + 1) (c := c) (f := d) (n := c + 1 - d) (by omega)
  have lr := low_rises (a := a) (u := u) k4
  have uf := up_falls (a := a) (u := u) k4
  have eau : a + u + 1 = a + (u + 1) := rfl
  rw [eau] at lr uf
  have hlr := left_range (b := b) (n := n) (q := q) k4 k3 (show u ≤ b by omega)
  have hex : exc a u c d n q = true ↔ (psum a u c 0 (d + 1) * q < n * ch (a + u) c ∨ psum a u c d (c + 1 - d) * q < n * ch (a + u) c) := by
    unfold exc below
    simp
  have hzz : ∀ z ∈ leftL a b c d n q, ∃ v : Nat, z = v ∧ v ≤ b ∧ exc a v c d n q = false := fun z hz => leftL_mem.1 hz
  have hmem : exc a u c d n q = false → (u : Int) ∈ leftL a b c d n q := fun he => leftL_mem.2 ⟨u, rfl, by omega, he⟩
  have hz : arq ((a : Int), (b : Int), (c : Int), (d : Int)) := hv
  have ht := tot1 hz hl
  rw [lfq_nat] at ht
  have fT : ∀ X, Gives Try.prog 39 [.agg ⟨A4 a b c d⟩, .agg ⟨A2 n q⟩] X (.tuple ⟨[.agg ⟨A2 (tot [((a : Int), (b : Int), (c : Int), (d : Int))] n q).1 (tot [((a : Int), (b : Int), (c : Int), (d : Int))] n q).2.1⟩, I (tot [((a : Int), (b : Int), (c : Int), (d : Int))] n q).2.2]⟩) := fun X => f39_ok a b c d n q X
  generalize tot [((a : Int), (b : Int), (c : Int), (d : Int))] n q = T at *
  obtain ⟨lo, hi, e⟩ := T
  simp only at fT
  have ct : ∀ X, Gives Try.prog 27 [.agg ⟨A4 a b c d⟩, I u, .bool true] X (.tuple ⟨[.agg ⟨fr (psum a u c 0 (d + 1)) (ch (a + u) c)⟩, I 0]⟩) := fun X => by
    have := f27_ok a b c d u true X
    rw [tf_nat hr1, hr1, if_pos rfl] at this
    exact this
  have ct' : ∀ X, Gives Try.prog 27 [.agg ⟨A4 a b c d⟩, I ((u + 1 : Nat) : Int), .bool true] X (.tuple ⟨[.agg ⟨fr (psum a (u + 1) c 0 (d + 1)) (ch (a + (u + 1)) c)⟩, I 0]⟩) := fun X => by
    have := f27_ok a b c d ((u + 1 : Nat) : Int) true X
    rw [tf_nat hr2, hr2, if_pos rfl] at this
    exact this
  have cf : ∀ X, Gives Try.prog 27 [.agg ⟨A4 a b c d⟩, I u, .bool false] X (.tuple ⟨[.agg ⟨fr (psum a u c d (c + 1 - d)) (ch (a + u) c)⟩, I 0]⟩) := fun X => by
    have := f27_ok a b c d u false X
    rw [tf_nat hr1, hr1, if_neg (by decide)] at this
    exact this
  have cf' : ∀ X, Gives Try.prog 27 [.agg ⟨A4 a b c d⟩, I ((u + 1 : Nat) : Int), .bool false] X (.tuple ⟨[.agg ⟨fr (psum a (u + 1) c d (c + 1 - d)) (ch (a + (u + 1)) c)⟩, I 0]⟩) := fun X => by
    have := f27_ok a b c d ((u + 1 : Nat) : Int) false X
    rw [tf_nat hr2, hr2, if_neg (by decide)] at this
    exact this
  have n51 : ∀ X, Gives Try.prog 51 [.agg ⟨fr (psum a (u + 1) c 0 (d + 1)) (ch (a + (u + 1)) c)⟩, .agg ⟨fr (psum a u c 0 (d + 1)) (ch (a + u) c)⟩] X (.bool false) := fun X => by
    have := f51_fr (p := psum a (u + 1) c 0 (d + 1)) (n := psum a u c 0 (d + 1)) hcp' hcp (by omega) (by omega) (by omega) (by omega) X
    rw [decide_eq_false (by omega)] at this
    exact this
  have m51 : ∀ X, Gives Try.prog 51 [.agg ⟨fr (psum a u c d (c + 1 - d)) (ch (a + u) c)⟩, .agg ⟨fr (psum a (u + 1) c d (c + 1 - d)) (ch (a + (u + 1)) c)⟩] X (.bool false) := fun X => by
    have := f51_fr (p := psum a u c d (c + 1 - d)) (n := psum a (u + 1) c d (c + 1 - d)) hcp hcp' (by omega) (by omega) (by omega) (by omega) X
    rw [decide_eq_false (by omega)] at this
    exact this
  have l51 : ∀ X, Gives Try.prog 51 [.agg ⟨fr (psum a u c 0 (d + 1)) (ch (a + u) c)⟩, .agg ⟨A2 n q⟩] X (.bool (decide (psum a u c 0 (d + 1) * q < n * ch (a + u) c))) := fun X => f51_lv hcp (by omega) (by omega) (by omega) (by omega) (by omega) X
  have u51 : ∀ X, Gives Try.prog 51 [.agg ⟨fr (psum a u c d (c + 1 - d)) (ch (a + u) c)⟩, .agg ⟨A2 n q⟩] X (.bool (decide (psum a u c d (c + 1 - d) * q < n * ch (a + u) c))) := fun X => f51_lv hcp (by omega) (by omega) (by omega) (by omega) (by omega) X
  clear lr uf s1 s2 s3 s4 hcb hcb' hcp hcp' hr1 hr2
  have eF : ∀ p w, ∃ x y : Int, fr p w = A2 x y := fun p w => ⟨_, _, rfl⟩
  obtain ⟨x1, y1, e1⟩ := eF (psum a u c 0 (d + 1)) (ch (a + u) c)
  obtain ⟨x2, y2, e2⟩ := eF (psum a (u + 1) c 0 (d + 1)) (ch (a + (u + 1)) c)
  obtain ⟨x3, y3, e3⟩ := eF (psum a u c d (c + 1 - d)) (ch (a + u) c)
  obtain ⟨x4, y4, e4⟩ := eF (psum a (u + 1) c d (c + 1 - d)) (ch (a + (u + 1)) c)
  simp only [e1, e2, e3, e4] at ct ct' cf cf' n51 m51 l51 u51
  clear e1 e2 e3 e4 eF
  generalize psum a u c 0 (d + 1) * q = pp at *
  generalize psum a u c d (c + 1 - d) * q = qq at *
  generalize n * ch (a + u) c = nn at *
  (repeat first|apply V.seq|apply V.block|apply V.scope|apply V.skip|apply V.close)
  refine V.line' (by simp +contextual (disch := first|omega|simp only [nx];omega) only [D4,reduceNegSucc,reduceEq,reduceLeDiff,reduceSub,reduceAdd,D5,hF,hA,↓reduceIte,reduceEqDiff,reduceLT, b3.2, wm, hb0, eu]; with_reducible rfl) ?_
  (repeat first|apply V.seq|apply V.block|apply V.scope|apply V.skip|apply V.close)
  refine V.re [(3, PT H.next), (5, PT (H.next + 1)), (7, I u)] (N := 151) (by intro i; simp only [full_st, hF]) (by simp only [Kn, D5,hF,hA,↓reduceIte,reduceEqDiff,reduceLT, and_self, and_true, true_and]; try (repeat' constructor)) ?_
  clear hF hA
  intro t hF hA
  simp only [Kn, and_true] at hA
  refine V.run ?_
  refine VI.steps' 1 (by simp +contextual (disch := first|omega|simp only [nx];omega) only [D4,reduceNegSucc,reduceEq,reduceLeDiff,reduceSub,reduceAdd,D5,hF,hA,↓reduceIte,reduceEqDiff,reduceLT, b3.2]; with_reducible rfl) ?_
  simp only [ds]
  refine VI.callA rfl (f21_ok a b c d _) (by simp only [D6,D5,hF,hA,↓reduceIte,reduceEqDiff,reduceLT]; try rfl) (fun X1 gx1 => ?_)
  refine VI.steps' 1 (by simp +contextual (disch := first|omega|simp only [nx];omega) only [D4,reduceNegSucc,reduceEq,reduceLeDiff,reduceSub,reduceAdd,D5,hF,hA,↓reduceIte,reduceEqDiff,reduceLT]; with_reducible rfl) ?_
  simp only [ds]
  refine VI.callA rfl (ct _) (by simp only [D6,D5,hF,hA,↓reduceIte,reduceEqDiff,reduceLT]; try rfl) (fun X2 gx2 => ?_)
  have b4 := b3.grow (gx1.trans gx2)
  have c4 := c3.grow (gx1.trans gx2)
  refine VI.line' (by simp +contextual (disch := first|omega|simp only [nx];omega) only [D4,reduceNegSucc,reduceEq,reduceLeDiff,reduceSub,reduceAdd,D5,hF,hA,↓reduceIte,reduceEqDiff,reduceLT]; with_reducible rfl) ?_
  refine V.heap (fun X => Grow X2 X ∧ Bx X X2.next (A2 x1 y1) 36) ⟨?_, ?_⟩ ?_
  · (repeat first | assumption | exact Grow.refl _ | refine Grow.alloc ?_ _ | refine Grow.set ?_ (by first|omega|simp only [nx];omega) _)
  · (repeat first | assumption | exact Bx.new _ _ _ | exact Bx.newAt (by first|omega|simp only [nx];omega) | refine Bx.put (by first|omega|simp only [nx];omega) _ _ | refine Bx.alloc ?_ _ | refine Bx.set ?_ (by first|omega|simp only [nx];omega) _)
  rintro X3 ⟨gx3, r1⟩
  have b5 := b4.grow gx3
  have c5 := c4.grow gx3
  (repeat first|apply V.seq|apply V.block|apply V.scope|apply V.skip|apply V.close)
  refine V.re [(3, PT H.next), (5, PT (H.next + 1)), (7, I u), (8, PT X2.next), (9, I 0)] (N := 151) (by intro i; simp only [full_st, hF]) (by simp only [Kn, D5,hF,hA,↓reduceIte,reduceEqDiff,reduceLT, and_self, and_true, true_and]; try (repeat' constructor)) ?_
  clear hF hA
  intro t hF hA
  simp only [Kn, and_true] at hA
  refine V.run ?_
  refine VI.steps' 1 (by simp +contextual (disch := first|omega|simp only [nx];omega) only [D4,reduceNegSucc,reduceEq,reduceLeDiff,reduceSub,reduceAdd,D5,hF,hA,↓reduceIte,reduceEqDiff,reduceLT, b5.2]; with_reducible rfl) ?_
  simp only [ds]
  refine VI.callA rfl (f21_ok a b c d _) (by simp only [D6,D5,hF,hA,↓reduceIte,reduceEqDiff,reduceLT]; try rfl) (fun X4 gx4 => ?_)
  refine VI.steps' 2 (by simp +contextual (disch := first|omega|simp only [nx];omega) only [D4,reduceNegSucc,reduceEq,reduceLeDiff,reduceSub,reduceAdd,D5,hF,hA,↓reduceIte,reduceEqDiff,reduceLT, euu]; with_reducible rfl) ?_
  simp only [ds]
  refine VI.callA rfl (ct' _) (by simp only [D6,D5,hF,hA,↓reduceIte,reduceEqDiff,reduceLT]; try rfl) (fun X5 gx5 => ?_)
  have g45 := gx4.trans gx5
  have b6 := b5.grow g45
  have c6 := c5.grow g45
  have r1b := r1.grow g45
  refine VI.line' (by simp +contextual (disch := first|omega|simp only [nx];omega) only [D4,reduceNegSucc,reduceEq,reduceLeDiff,reduceSub,reduceAdd,D5,hF,hA,↓reduceIte,reduceEqDiff,reduceLT]; with_reducible rfl) ?_
  refine V.heap (fun X => Grow X5 X ∧ Bx X X5.next (A2 x2 y2) 36) ⟨?_, ?_⟩ ?_
  · (repeat first | assumption | exact Grow.refl _ | refine Grow.alloc ?_ _ | refine Grow.set ?_ (by first|omega|simp only [nx];omega) _)
  · (repeat first | assumption | exact Bx.new _ _ _ | exact Bx.newAt (by first|omega|simp only [nx];omega) | refine Bx.put (by first|omega|simp only [nx];omega) _ _ | refine Bx.alloc ?_ _ | refine Bx.set ?_ (by first|omega|simp only [nx];omega) _)
  rintro X6 ⟨gx6, r2⟩
  have b7 := b6.grow gx6
  have c7 := c6.grow gx6
  have r1c := r1b.grow gx6
  (repeat first|apply V.seq|apply V.block|apply V.scope|apply V.skip|apply V.close)
  refine V.re [(3, PT H.next), (5, PT (H.next + 1)), (7, I u), (8, PT X2.next), (9, I 0), (10, PT X5.next), (11, I 0)] (N := 151) (by intro i; simp only [full_st, hF]) (by simp only [Kn, D5,hF,hA,↓reduceIte,reduceEqDiff,reduceLT, and_self, and_true, true_and]; try (repeat' constructor)) ?_
  clear hF hA
  intro t hF hA
  simp only [Kn, and_true] at hA
  refine V.run ?_
  refine VI.steps' 1 (by simp +contextual (disch := first|omega|simp only [nx];omega) only [D4,reduceNegSucc,reduceEq,reduceLeDiff,reduceSub,reduceAdd,D5,hF,hA,↓reduceIte,reduceEqDiff,reduceLT, b7.2]; with_reducible rfl) ?_
  simp only [ds]
  refine VI.callA rfl (f21_ok a b c d _) (by simp only [D6,D5,hF,hA,↓reduceIte,reduceEqDiff,reduceLT]; try rfl) (fun X7 gx7 => ?_)
  refine VI.steps' 1 (by simp +contextual (disch := first|omega|simp only [nx];omega) only [D4,reduceNegSucc,reduceEq,reduceLeDiff,reduceSub,reduceAdd,D5,hF,hA,↓reduceIte,reduceEqDiff,reduceLT]; with_reducible rfl) ?_
  simp only [ds]
  refine VI.callA rfl (cf _) (by simp only [D6,D5,hF,hA,↓reduceIte,reduceEqDiff,reduceLT]; try rfl) (fun X8 gx8 => ?_)
  have g78 := gx7.trans gx8
  have b8 := b7.grow g78
  have c8 := c7.grow g78
  have r1d := r1c.grow g78
  have r2b := r2.grow g78
  refine VI.line' (by simp +contextual (disch := first|omega|simp only [nx];omega) only [D4,reduceNegSucc,reduceEq,reduceLeDiff,reduceSub,reduceAdd,D5,hF,hA,↓reduceIte,reduceEqDiff,reduceLT]; with_reducible rfl) ?_
  refine V.heap (fun X => Grow X8 X ∧ Bx X X8.next (A2 x3 y3) 36) ⟨?_, ?_⟩ ?_
  · (repeat first | assumption | exact Grow.refl _ | refine Grow.alloc ?_ _ | refine Grow.set ?_ (by first|omega|simp only [nx];omega) _)
  · (repeat first | assumption | exact Bx.new _ _ _ | exact Bx.newAt (by first|omega|simp only [nx];omega) | refine Bx.put (by first|omega|simp only [nx];omega) _ _ | refine Bx.alloc ?_ _ | refine Bx.set ?_ (by first|omega|simp only [nx];omega) _)
  rintro X9 ⟨gx9, r3⟩
  have b9 := b8.grow gx9
  have c9 := c8.grow gx9
  have r1e := r1d.grow gx9
  have r2c := r2b.grow gx9
  (repeat first|apply V.seq|apply V.block|apply V.scope|apply V.skip|apply V.close)
  refine V.re [(3, PT H.next), (5, PT (H.next + 1)), (7, I u), (8, PT X2.next), (9, I 0), (10, PT X5.next), (11, I 0), (12, PT X8.next), (13, I 0)] (N := 151) (by intro i; simp only [full_st, hF]) (by simp only [Kn, D5,hF,hA,↓reduceIte,reduceEqDiff,reduceLT, and_self, and_true, true_and]; try (repeat' constructor)) ?_
  clear hF hA
  intro t hF hA
  simp only [Kn, and_true] at hA
  refine V.run ?_
  refine VI.steps' 1 (by simp +contextual (disch := first|omega|simp only [nx];omega) only [D4,reduceNegSucc,reduceEq,reduceLeDiff,reduceSub,reduceAdd,D5,hF,hA,↓reduceIte,reduceEqDiff,reduceLT, b9.2]; with_reducible rfl) ?_
  simp only [ds]
  refine VI.callA rfl (f21_ok a b c d _) (by simp only [D6,D5,hF,hA,↓reduceIte,reduceEqDiff,reduceLT]; try rfl) (fun Y1 gy1 => ?_)
  refine VI.steps' 2 (by simp +contextual (disch := first|omega|simp only [nx];omega) only [D4,reduceNegSucc,reduceEq,reduceLeDiff,reduceSub,reduceAdd,D5,hF,hA,↓reduceIte,reduceEqDiff,reduceLT, euu]; with_reducible rfl) ?_
  simp only [ds]
  refine VI.callA rfl (cf' _) (by simp only [D6,D5,hF,hA,↓reduceIte,reduceEqDiff,reduceLT]; try rfl) (fun Y2 gy2 => ?_)
  have g12 := gy1.trans gy2
  have b10 := b9.grow g12
  have c10 := c9.grow g12
  have r1f := r1e.grow g12
  have r2d := r2c.grow g12
  have r3b := r3.grow g12
  refine VI.line' (by simp +contextual (disch := first|omega|simp only [nx];omega) only [D4,reduceNegSucc,reduceEq,reduceLeDiff,reduceSub,reduceAdd,D5,hF,hA,↓reduceIte,reduceEqDiff,reduceLT]; with_reducible rfl) ?_
  refine V.heap (fun X => Grow Y2 X ∧ Bx X Y2.next (A2 x4 y4) 36) ⟨?_, ?_⟩ ?_
  · (repeat first | assumption | exact Grow.refl _ | refine Grow.alloc ?_ _ | refine Grow.set ?_ (by first|omega|simp only [nx];omega) _)
  · (repeat first | assumption | exact Bx.new _ _ _ | exact Bx.newAt (by first|omega|simp only [nx];omega) | refine Bx.put (by first|omega|simp only [nx];omega) _ _ | refine Bx.alloc ?_ _ | refine Bx.set ?_ (by first|omega|simp only [nx];omega) _)
  rintro Y3 ⟨gy3, r4⟩
  have b11 := b10.grow gy3
  have c11 := c10.grow gy3
  have r1g := r1f.grow gy3
  have r2e := r2d.grow gy3
  have r3c := r3b.grow gy3
  (repeat first|apply V.seq|apply V.block|apply V.scope|apply V.skip|apply V.close)
  refine V.re [(3, PT H.next), (5, PT (H.next + 1)), (7, I u), (8, PT X2.next), (9, I 0), (10, PT X5.next), (11, I 0), (12, PT X8.next), (13, I 0), (14, PT Y2.next), (15, I 0)] (N := 151) (by intro i; simp only [full_st, hF]) (by simp only [Kn, D5,hF,hA,↓reduceIte,reduceEqDiff,reduceLT, and_self, and_true, true_and]; try (repeat' constructor)) ?_
  clear hF hA
  intro t hF hA
  simp only [Kn, and_true] at hA
  refine V.run ?_
  refine VI.steps' 9 (by simp +contextual (disch := first|omega|simp only [nx];omega) only [D4,reduceNegSucc,reduceEq,reduceLeDiff,reduceSub,reduceAdd,D5,hF,hA,↓reduceIte,reduceEqDiff,reduceLT, r1g.2, r2e.2, ne_eq, not_true_eq_false]; with_reducible rfl) ?_
  simp only [ds]
  refine VI.steps' 8 (by simp +contextual (disch := first|omega|simp only [nx];omega) only [D4,reduceNegSucc,reduceEq,reduceLeDiff,reduceSub,reduceAdd,D5,hF,hA,↓reduceIte,reduceEqDiff,reduceLT, r1g.2, r2e.2, ne_eq, not_true_eq_false]; with_reducible rfl) ?_
  simp only [ds]
  refine VI.callAT (by simp only [D5,hF,hA,↓reduceIte,reduceEqDiff,reduceLT]; try rfl) rfl (n51 _) (by simp only [D6,D5,hF,hA,↓reduceIte,reduceEqDiff,reduceLT]; try rfl) (fun Y4 gy4 => ?_)
  have r3d := r3c.grow gy4
  have r4b := r4.grow gy4
  refine VI.steps' 4 (by simp +contextual (disch := first|omega|simp only [nx];omega) only [D4,reduceNegSucc,reduceEq,reduceLeDiff,reduceSub,reduceAdd,D5,hF,hA,↓reduceIte,reduceEqDiff,reduceLT, r3d.2, r4b.2]; with_reducible rfl) ?_
  simp only [ds]
  refine VI.callAT (by simp only [D5,hF,hA,↓reduceIte,reduceEqDiff,reduceLT]; try rfl) rfl (m51 _) (by simp only [D6,D5,hF,hA,↓reduceIte,reduceEqDiff,reduceLT]; try rfl) (fun Y5 gy5 => ?_)
  have g45y := gy4.trans gy5
  have b12 := b11.grow g45y
  have c12 := c11.grow g45y
  have r1h := r1g.grow g45y
  have r3e := r3c.grow g45y
  refine VI.line' (by simp +contextual (disch := first|omega|simp only [nx];omega) only [D4,reduceNegSucc,reduceEq,reduceLeDiff,reduceSub,reduceAdd,D5,hF,hA,↓reduceIte,reduceEqDiff,reduceLT]; with_reducible rfl) ?_
  (repeat first|apply V.seq|apply V.block|apply V.scope|apply V.skip|apply V.close)
  refine V.condF (by simp only [D6,D5,hF,hA,↓reduceIte,reduceEqDiff,reduceLT]) ?_
  (repeat first|apply V.seq|apply V.block|apply V.scope|apply V.skip|apply V.close)
  refine V.re [(3, PT H.next), (5, PT (H.next + 1)), (7, I u), (8, PT X2.next), (12, PT X8.next)] (N := 151) (by intro i; simp only [full_st, hF]) (by simp only [Kn, D5,hF,hA,↓reduceIte,reduceEqDiff,reduceLT, and_self, and_true, true_and]; try (repeat' constructor)) ?_
  clear hF hA
  intro t hF hA
  simp only [Kn, and_true] at hA
  refine V.draw ?_
  refine VD.dins 1 (by simp +contextual (disch := first|omega|simp only [nx];omega) only [D4,reduceNegSucc,reduceEq,reduceLeDiff,reduceSub,reduceAdd,D5,hF,hA,↓reduceIte,reduceEqDiff,reduceLT, b12.2]; with_reducible rfl) ?_
  simp only [ds]
  refine VD.callA (by simp only [D6,D5,hF,hA,↓reduceIte,reduceEqDiff,reduceLT]; try rfl) (f21_ok a b c d _) (by simp only [D6,D5,hF,hA,↓reduceIte,reduceEqDiff,reduceLT]; try rfl) (fun Z1 gz1 => ?_)
  have cz1 := c12.grow gz1
  refine VD.dins 1 (by simp +contextual (disch := first|omega|simp only [nx];omega) only [D4,reduceNegSucc,reduceEq,reduceLeDiff,reduceSub,reduceAdd,D5,hF,hA,↓reduceIte,reduceEqDiff,reduceLT, cz1.2]; with_reducible rfl) ?_
  simp only [ds]
  refine VD.callA (by simp only [D6,D5,hF,hA,↓reduceIte,reduceEqDiff,reduceLT]; try rfl) (f28_ok n q _) (by simp only [D6,D5,hF,hA,↓reduceIte,reduceEqDiff,reduceLT]; try rfl) (fun Z2 gz2 => ?_)
  have cz2 := cz1.grow gz2
  refine VD.callA (by simp only [D6,D5,hF,hA,↓reduceIte,reduceEqDiff,reduceLT]; try rfl) (fT _) (by simp only [D6,D5,hF,hA,↓reduceIte,reduceEqDiff,reduceLT]; try rfl) (fun Z3 gz3 => ?_)
  have cz3 := cz2.grow gz3
  refine VD.lineD' (by simp +contextual (disch := first|omega|simp only [nx];omega) only [D4,reduceNegSucc,reduceEq,reduceLeDiff,reduceSub,reduceAdd,D5,hF,hA,↓reduceIte,reduceEqDiff,reduceLT]; with_reducible rfl) ?_ ?_ rfl ?_
  · have := gz1.1
    have := gz2.1
    have := gz3.1
    simp only [monoG, List.cons_append, List.nil_append, Heap.next_set, Heap.next_alloc, Nat.le_refl, true_and, and_true] <;> omega
  · simp only [dcAll, dcOk, wantD, List.cons_append, List.nil_append, true_and, and_true]
    exact ⟨fun _ q hq => by simp only [List.mem_cons, List.not_mem_nil, or_false] at hq; (repeat (rcases hq with rfl | hq; exact ⟨_, _, _, rfl, (by simp +contextual (disch := first|omega|simp only [nx];omega) only [D4,reduceNegSucc,reduceEq,reduceLeDiff,reduceSub,reduceAdd,D5,hF,hA,↓reduceIte,reduceEqDiff,reduceLT, c12.2, cz1.2, cz2.2, cz3.2]; with_reducible rfl), fun p hp => by cases hp; simp only [D5,hF,hA,↓reduceIte,reduceEqDiff,reduceLT]; first | exact vEq_An | simp [vEq, vEq0, all2]⟩)); (try (subst hq; exact ⟨_, _, _, rfl, (by simp +contextual (disch := first|omega|simp only [nx];omega) only [D4,reduceNegSucc,reduceEq,reduceLeDiff,reduceSub,reduceAdd,D5,hF,hA,↓reduceIte,reduceEqDiff,reduceLT, c12.2, cz1.2, cz2.2, cz3.2]; with_reducible rfl), fun p hp => by cases hp; simp only [D5,hF,hA,↓reduceIte,reduceEqDiff,reduceLT]; first | exact vEq_An | simp [vEq, vEq0, all2]⟩)), fun _ => ⟨_, _, _, rfl, rfl, rfl, (by simp only [D5,hF,hA,↓reduceIte,reduceEqDiff,reduceLT]; simp [inBound]), fun _ => ⟨_, _, _, cells_alloc _ _ _ _, (by first | exact An_inb | rfl)⟩⟩⟩
  refine V.heap (fun Y => Grow Z3 Y ∧ Bx Y Z3.next (A2 lo hi) 53) ⟨?_, ?_⟩ ?_
  · (repeat first | assumption | exact Grow.refl _ | refine Grow.alloc ?_ _ | refine Grow.set ?_ (by first|omega|simp only [nx];omega) _)
  · (repeat first | assumption | exact Bx.new _ _ _ | exact Bx.newAt (by first|omega|simp only [nx];omega) | refine Bx.put (by first|omega|simp only [nx];omega) _ _ | refine Bx.alloc ?_ _ | refine Bx.set ?_ (by first|omega|simp only [nx];omega) _)
  rintro Z4 ⟨gz4, t16⟩
  have gzz := ((gz1.trans gz2).trans gz3).trans gz4
  have c13 := c12.grow gzz
  have r1i := r1h.grow gzz
  have r3f := r3e.grow gzz
  (repeat first|apply V.seq|apply V.block|apply V.scope|apply V.skip|apply V.close)
  refine V.re [(3, PT H.next), (5, PT (H.next + 1)), (7, I u), (8, PT X2.next), (12, PT X8.next), (16, PT Z3.next), (17, I e)] (N := 151) (by intro i; simp only [full_st, hF]) (by simp only [Kn, D5,hF,hA,↓reduceIte,reduceEqDiff,reduceLT, and_self, and_true, true_and]; try (repeat' constructor)) ?_
  clear hF hA
  intro t hF hA
  simp only [Kn, and_true] at hA
  refine V.line' (by simp +contextual (disch := first|omega|simp only [nx];omega) only [D4,reduceNegSucc,reduceEq,reduceLeDiff,reduceSub,reduceAdd,D5,hF,hA,↓reduceIte,reduceEqDiff,reduceLT, ne_eq]; with_reducible rfl) ?_
  (repeat first|apply V.seq|apply V.block|apply V.scope|apply V.skip|apply V.close)
  by_cases hemp : leftL a b c d n q = []
  · rw [if_pos hemp] at ht
    obtain ⟨rfl, rfl, rfl⟩ : lo = 0 ∧ hi = 0 ∧ e = 9 := by simpa using ht
    have hfin : pp < nn ∨ qq < nn := by
      cases he : exc a u c d n q with
      | true => exact hex.1 he
      | false => have := hmem he; rw [hemp] at this; simp at this
    refine V.condP (by simp only [D6,D5,hF,hA,↓reduceIte,reduceEqDiff,reduceLT]; rfl) (fun h9 => ?_) (fun h9 => ?_)
    rotate_left
    · exact absurd (by decide) h9
    (repeat first|apply V.seq|apply V.block|apply V.scope|apply V.skip|apply V.close)
    by_cases hP : pp < nn
    · have l51T : ∀ X, Gives Try.prog 51 [.agg ⟨A2 x1 y1⟩, .agg ⟨A2 n q⟩] X (.bool true) := fun X => by rw [← decide_eq_true hP]; exact l51 X
      refine V.draw ?_
      refine VD.dins 5 (by simp +contextual (disch := first|omega|simp only [nx];omega) only [D4,reduceNegSucc,reduceEq,reduceLeDiff,reduceSub,reduceAdd,D5,hF,hA,↓reduceIte,reduceEqDiff,reduceLT, r1i.2, c13.2]; with_reducible rfl) ?_
      simp only [ds]
      refine VD.callAT (by simp only [D5,hF,hA,↓reduceIte,reduceEqDiff,reduceLT]; try rfl) (by simp only [D6,D5,hF,hA,↓reduceIte,reduceEqDiff,reduceLT]; try rfl) (f28_ok n q _) (by simp only [D6,D5,hF,hA,↓reduceIte,reduceEqDiff,reduceLT]; try rfl) (fun W1 gw1 => ?_)
      refine VD.callAT (by simp only [D5,hF,hA,↓reduceIte,reduceEqDiff,reduceLT]; try rfl) (by simp only [D6,D5,hF,hA,↓reduceIte,reduceEqDiff,reduceLT]; try rfl) (l51T _) (by simp only [D6,D5,hF,hA,↓reduceIte,reduceEqDiff,reduceLT]; try rfl) (fun W2 gw2 => ?_)
      have r1j := r1i.grow gw1
      have r1k := r1j.grow gw2
      refine VD.dins 8 (by simp +contextual (disch := first|omega|simp only [nx];omega) only [D4,reduceNegSucc,reduceEq,reduceLeDiff,reduceSub,reduceAdd,D5,hF,hA,↓reduceIte,reduceEqDiff,reduceLT]; with_reducible rfl) ?_
      simp only [ds]
      refine VD.callAT (by simp only [D5,hF,hA,↓reduceIte,reduceEqDiff,reduceLT]; try rfl) (by simp only [D6,D5,hF,hA,↓reduceIte,reduceEqDiff,reduceLT]; try rfl) (f24_ok _) (by simp only [D6,D5,hF,hA,↓reduceIte,reduceEqDiff,reduceLT]; try rfl) (fun W5 gw5 => ?_)
      have r1n := r1k.grow gw5
      refine VD.lineD' (by simp +contextual (disch := first|omega|simp only [nx];omega) only [D4,reduceNegSucc,reduceEq,reduceLeDiff,reduceSub,reduceAdd,D5,hF,hA,↓reduceIte,reduceEqDiff,reduceLT]; with_reducible rfl) ?_ ?_ rfl ?_
      · have := gw1.1
        have := gw2.1
        have := gw5.1
        simp only [monoG, List.cons_append, List.nil_append, Heap.next_set, Heap.next_alloc, Nat.le_refl, true_and, and_true] <;> omega
      · simp only [dcAll, dcOk, wantD, List.cons_append, List.nil_append, true_and, and_true]
        exact ⟨fun _ q hq => by simp only [List.mem_cons, List.not_mem_nil, or_false] at hq; (repeat (rcases hq with rfl | hq; exact ⟨_, _, _, rfl, (by simp +contextual (disch := first|omega|simp only [nx];omega) only [D4,reduceNegSucc,reduceEq,reduceLeDiff,reduceSub,reduceAdd,D5,hF,hA,↓reduceIte,reduceEqDiff,reduceLT, r1i.2, r1j.2, r1k.2, r1n.2]; with_reducible rfl), fun p hp => by cases hp; simp only [D5,hF,hA,↓reduceIte,reduceEqDiff,reduceLT]; first | exact vEq_An | simp [vEq, vEq0, all2]⟩)); (try (subst hq; exact ⟨_, _, _, rfl, (by simp +contextual (disch := first|omega|simp only [nx];omega) only [D4,reduceNegSucc,reduceEq,reduceLeDiff,reduceSub,reduceAdd,D5,hF,hA,↓reduceIte,reduceEqDiff,reduceLT, r1i.2, r1j.2, r1k.2, r1n.2]; with_reducible rfl), fun p hp => by cases hp; simp only [D5,hF,hA,↓reduceIte,reduceEqDiff,reduceLT]; first | exact vEq_An | simp [vEq, vEq0, all2]⟩)), (by intro hw; simp only [D5,hF,hA,↓reduceIte,reduceEqDiff,reduceLT] at hw; first | done | exact absurd hw (by decide))⟩
      (repeat first|apply V.seq|apply V.block|apply V.scope|apply V.skip|apply V.close)
      refine V.ret (V.rets rfl (Lv.retF (by simp +contextual (disch := first|omega|simp only [nx];omega) only [D1, cells_alloc_at, cells_alloc_ne, cells_set_at, cells_set_ne, yres, yres1, yresL, reduceLeDiff, reduceSub, reduceAdd, D5,hF,hA,↓reduceIte,reduceEqDiff,reduceLT]; rfl) ?_))
      rfl
    · have l51F : ∀ X, Gives Try.prog 51 [.agg ⟨A2 x1 y1⟩, .agg ⟨A2 n q⟩] X (.bool false) := fun X => by rw [← decide_eq_false hP]; exact l51 X
      have u51T : ∀ X, Gives Try.prog 51 [.agg ⟨A2 x3 y3⟩, .agg ⟨A2 n q⟩] X (.bool true) := fun X => by rw [← decide_eq_true (hfin.resolve_left hP)]; exact u51 X
      refine V.draw ?_
      refine VD.dins 5 (by simp +contextual (disch := first|omega|simp only [nx];omega) only [D4,reduceNegSucc,reduceEq,reduceLeDiff,reduceSub,reduceAdd,D5,hF,hA,↓reduceIte,reduceEqDiff,reduceLT, r1i.2, c13.2]; with_reducible rfl) ?_
      simp only [ds]
      refine VD.callAT (by simp only [D5,hF,hA,↓reduceIte,reduceEqDiff,reduceLT]; try rfl) (by simp only [D6,D5,hF,hA,↓reduceIte,reduceEqDiff,reduceLT]; try rfl) (f28_ok n q _) (by simp only [D6,D5,hF,hA,↓reduceIte,reduceEqDiff,reduceLT]; try rfl) (fun W1 gw1 => ?_)
      refine VD.callAT (by simp only [D5,hF,hA,↓reduceIte,reduceEqDiff,reduceLT]; try rfl) (by simp only [D6,D5,hF,hA,↓reduceIte,reduceEqDiff,reduceLT]; try rfl) (l51F _) (by simp only [D6,D5,hF,hA,↓reduceIte,reduceEqDiff,reduceLT]; try rfl) (fun W2 gw2 => ?_)
      have gw12 := gw1.trans gw2
      have r1j := r1i.grow gw1
      have r3g := r3f.grow gw12
      have r1k := r1i.grow gw12
      have r3h := r3f.grow gw1
      have c14 := c13.grow gw12
      refine VD.dins 3 (by simp +contextual (disch := first|omega|simp only [nx];omega) only [D4,reduceNegSucc,reduceEq,reduceLeDiff,reduceSub,reduceAdd,D5,hF,hA,↓reduceIte,reduceEqDiff,reduceLT, r3g.2, c14.2]; with_reducible rfl) ?_
      simp only [ds]
      refine VD.callAT (by simp only [D5,hF,hA,↓reduceIte,reduceEqDiff,reduceLT]; try rfl) (by simp only [D6,D5,hF,hA,↓reduceIte,reduceEqDiff,reduceLT]; try rfl) (f28_ok n q _) (by simp only [D6,D5,hF,hA,↓reduceIte,reduceEqDiff,reduceLT]; try rfl) (fun W3 gw3 => ?_)
      refine VD.callAT (by simp only [D5,hF,hA,↓reduceIte,reduceEqDiff,reduceLT]; try rfl) (by simp only [D6,D5,hF,hA,↓reduceIte,reduceEqDiff,reduceLT]; try rfl) (u51T _) (by simp only [D6,D5,hF,hA,↓reduceIte,reduceEqDiff,reduceLT]; try rfl) (fun W4 gw4 => ?_)
      have r1l := r1k.grow gw3
      have r1m := r1l.grow gw4
      have r3i := r3g.grow gw3
      have r3j := r3i.grow gw4
      refine VD.dins 3 (by simp +contextual (disch := first|omega|simp only [nx];omega) only [D4,reduceNegSucc,reduceEq,reduceLeDiff,reduceSub,reduceAdd,D5,hF,hA,↓reduceIte,reduceEqDiff,reduceLT]; with_reducible rfl) ?_
      simp only [ds]
      refine VD.callAT (by simp only [D5,hF,hA,↓reduceIte,reduceEqDiff,reduceLT]; try rfl) (by simp only [D6,D5,hF,hA,↓reduceIte,reduceEqDiff,reduceLT]; try rfl) (f24_ok _) (by simp only [D6,D5,hF,hA,↓reduceIte,reduceEqDiff,reduceLT]; try rfl) (fun W5 gw5 => ?_)
      have r1n := r1m.grow gw5
      have r3k := r3j.grow gw5
      refine VD.lineD' (by simp +contextual (disch := first|omega|simp only [nx];omega) only [D4,reduceNegSucc,reduceEq,reduceLeDiff,reduceSub,reduceAdd,D5,hF,hA,↓reduceIte,reduceEqDiff,reduceLT]; with_reducible rfl) ?_ ?_ rfl ?_
      · have := gw1.1
        have := gw2.1
        have := gw3.1
        have := gw4.1
        have := gw5.1
        simp only [monoG, List.cons_append, List.nil_append, Heap.next_set, Heap.next_alloc, Nat.le_refl, true_and, and_true] <;> omega
      · simp only [dcAll, dcOk, wantD, List.cons_append, List.nil_append, true_and, and_true]
        exact ⟨fun _ q hq => by simp only [List.mem_cons, List.not_mem_nil, or_false] at hq; (repeat (rcases hq with rfl | hq; exact ⟨_, _, _, rfl, (by simp +contextual (disch := first|omega|simp only [nx];omega) only [D4,reduceNegSucc,reduceEq,reduceLeDiff,reduceSub,reduceAdd,D5,hF,hA,↓reduceIte,reduceEqDiff,reduceLT, r1i.2, r1j.2, r1k.2, r1l.2, r1m.2, r1n.2]; with_reducible rfl), fun p hp => by cases hp; simp only [D5,hF,hA,↓reduceIte,reduceEqDiff,reduceLT]; first | exact vEq_An | simp [vEq, vEq0, all2]⟩)); (try (subst hq; exact ⟨_, _, _, rfl, (by simp +contextual (disch := first|omega|simp only [nx];omega) only [D4,reduceNegSucc,reduceEq,reduceLeDiff,reduceSub,reduceAdd,D5,hF,hA,↓reduceIte,reduceEqDiff,reduceLT, r1i.2, r1j.2, r1k.2, r1l.2, r1m.2, r1n.2]; with_reducible rfl), fun p hp => by cases hp; simp only [D5,hF,hA,↓reduceIte,reduceEqDiff,reduceLT]; first | exact vEq_An | simp [vEq, vEq0, all2]⟩)), fun _ q hq => by simp only [List.mem_cons, List.not_mem_nil, or_false] at hq; (repeat (rcases hq with rfl | hq; exact ⟨_, _, _, rfl, (by simp +contextual (disch := first|omega|simp only [nx];omega) only [D4,reduceNegSucc,reduceEq,reduceLeDiff,reduceSub,reduceAdd,D5,hF,hA,↓reduceIte,reduceEqDiff,reduceLT, r3f.2, r3h.2, r3g.2, r3i.2, r3j.2, r3k.2]; with_reducible rfl), fun p hp => by cases hp; simp only [D5,hF,hA,↓reduceIte,reduceEqDiff,reduceLT]; first | exact vEq_An | simp [vEq, vEq0, all2]⟩)); (try (subst hq; exact ⟨_, _, _, rfl, (by simp +contextual (disch := first|omega|simp only [nx];omega) only [D4,reduceNegSucc,reduceEq,reduceLeDiff,reduceSub,reduceAdd,D5,hF,hA,↓reduceIte,reduceEqDiff,reduceLT, r3f.2, r3h.2, r3g.2, r3i.2, r3j.2, r3k.2]; with_reducible rfl), fun p hp => by cases hp; simp only [D5,hF,hA,↓reduceIte,reduceEqDiff,reduceLT]; first | exact vEq_An | simp [vEq, vEq0, all2]⟩))⟩
      (repeat first|apply V.seq|apply V.block|apply V.scope|apply V.skip|apply V.close)
      refine V.ret (V.rets rfl (Lv.retF (by simp +contextual (disch := first|omega|simp only [nx];omega) only [D1, cells_alloc_at, cells_alloc_ne, cells_set_at, cells_set_ne, yres, yres1, yresL, reduceLeDiff, reduceSub, reduceAdd, D5,hF,hA,↓reduceIte,reduceEqDiff,reduceLT]; rfl) ?_))
      rfl
  · rw [if_neg hemp] at ht
    have hlr' := hlr hemp
    have hlohi : mn (leftL a b c d n q) ≤ mx (leftL a b c d n q) := mn_le (mx_mem hemp)
    generalize mn (leftL a b c d n q) = mnv at *
    generalize mx (leftL a b c d n q) = mxv at *
    obtain ⟨rfl, rfl, rfl⟩ : lo = mnv ∧ hi = mxv ∧ e = 0 := by simpa using ht
    have hpq : (pp < nn ∨ qq < nn) ↔ ((u : Int) < lo ∨ hi < u) := hex.symm.trans hlr'
    refine V.condP (by simp only [D6,D5,hF,hA,↓reduceIte,reduceEqDiff,reduceLT]; rfl) (fun h9 => ?_) (fun h9 => ?_)
    · exact absurd h9 (by simp)
    (repeat first|apply V.seq|apply V.block|apply V.scope|apply V.skip|apply V.close)
    by_cases hP : pp < nn
    · have l51T : ∀ X, Gives Try.prog 51 [.agg ⟨A2 x1 y1⟩, .agg ⟨A2 n q⟩] X (.bool true) := fun X => by rw [← decide_eq_true hP]; exact l51 X
      have hran := hpq.1 (.inl hP)
      refine V.draw ?_
      refine VD.dins 2 (by simp +contextual (disch := first|omega|simp only [nx];omega) only [D4,reduceNegSucc,reduceEq,reduceLeDiff,reduceSub,reduceAdd,D5,hF,hA,↓reduceIte,reduceEqDiff,reduceLT, r1i.2, c13.2]; with_reducible rfl) ?_
      simp only [ds]
      refine VD.callA (by simp only [D6,D5,hF,hA,↓reduceIte,reduceEqDiff,reduceLT]; try rfl) (f28_ok n q _) (by simp only [D6,D5,hF,hA,↓reduceIte,reduceEqDiff,reduceLT]; try rfl) (fun W1 gw1 => ?_)
      refine VD.callA (by simp only [D6,D5,hF,hA,↓reduceIte,reduceEqDiff,reduceLT]; try rfl) (l51T _) (by simp only [D6,D5,hF,hA,↓reduceIte,reduceEqDiff,reduceLT]; try rfl) (fun W2 gw2 => ?_)
      have r1j := r1i.grow gw1
      have r1k := r1j.grow gw2
      have t16b := (t16.grow gw1).grow gw2
      refine VD.lineD' (by simp +contextual (disch := first|omega|simp only [nx];omega) only [D4,reduceNegSucc,reduceEq,reduceLeDiff,reduceSub,reduceAdd,D5,hF,hA,↓reduceIte,reduceEqDiff,reduceLT]; with_reducible rfl) ?_ ?_ rfl ?_
      · have := gw1.1
        have := gw2.1
        simp only [monoG, List.cons_append, List.nil_append, Heap.next_set, Heap.next_alloc, Nat.le_refl, true_and, and_true] <;> omega
      · simp only [dcAll, dcOk, wantD, List.cons_append, List.nil_append, true_and, and_true]
        exact ⟨fun _ q hq => by simp only [List.mem_cons, List.not_mem_nil, or_false] at hq; (repeat (rcases hq with rfl | hq; exact ⟨_, _, _, rfl, (by simp +contextual (disch := first|omega|simp only [nx];omega) only [D4,reduceNegSucc,reduceEq,reduceLeDiff,reduceSub,reduceAdd,D5,hF,hA,↓reduceIte,reduceEqDiff,reduceLT, r1i.2, r1j.2, r1k.2]; with_reducible rfl), fun p hp => by cases hp; simp only [D5,hF,hA,↓reduceIte,reduceEqDiff,reduceLT]; first | exact vEq_An | simp [vEq, vEq0, all2]⟩)); (try (subst hq; exact ⟨_, _, _, rfl, (by simp +contextual (disch := first|omega|simp only [nx];omega) only [D4,reduceNegSucc,reduceEq,reduceLeDiff,reduceSub,reduceAdd,D5,hF,hA,↓reduceIte,reduceEqDiff,reduceLT, r1i.2, r1j.2, r1k.2]; with_reducible rfl), fun p hp => by cases hp; simp only [D5,hF,hA,↓reduceIte,reduceEqDiff,reduceLT]; first | exact vEq_An | simp [vEq, vEq0, all2]⟩)), (by intro hw; simp only [D5,hF,hA,↓reduceIte,reduceEqDiff,reduceLT] at hw; first | done | exact absurd hw (by decide))⟩
      (repeat first|apply V.seq|apply V.block|apply V.scope|apply V.skip|apply V.close)
      refine V.re [(7, I u), (16, PT Z3.next), (18, .bool true)] (N := 151) (by intro i; simp only [full_st, hF]) (by simp only [Kn, D5,hF,hA,↓reduceIte,reduceEqDiff,reduceLT, and_self, and_true, true_and]; try (repeat' constructor)) ?_
      clear hF hA
      intro t hF hA
      simp only [Kn, and_true] at hA
      refine V.run ?_
      refine VI.steps' 9 (by simp +contextual (disch := first|omega|simp only [nx];omega) only [D4,reduceNegSucc,reduceEq,reduceLeDiff,reduceSub,reduceAdd,D5,hF,hA,↓reduceIte,reduceEqDiff,reduceLT, t16b.2, hlohi, hran, eqb]; with_reducible rfl) ?_
      simp only [ds]
      refine VI.steps' 9 (by simp +contextual (disch := first|omega|simp only [nx];omega) only [D4,reduceNegSucc,reduceEq,reduceLeDiff,reduceSub,reduceAdd,D5,hF,hA,↓reduceIte,reduceEqDiff,reduceLT, t16b.2, hlohi, hran, eqb]; with_reducible rfl) ?_
      simp only [ds]
      refine VI.steps' 2 (by simp +contextual (disch := first|omega|simp only [nx];omega) only [D4,reduceNegSucc,reduceEq,reduceLeDiff,reduceSub,reduceAdd,D5,hF,hA,↓reduceIte,reduceEqDiff,reduceLT, t16b.2, hlohi, hran, eqb]; with_reducible rfl) ?_
      simp only [ds]
      refine VI.callAT (by simp only [D5,hF,hA,↓reduceIte,reduceEqDiff,reduceLT]; try rfl) rfl (f24_ok _) (by simp only [D6,D5,hF,hA,↓reduceIte,reduceEqDiff,reduceLT]; try rfl) (fun W6 gw6 => ?_)
      refine VI.line' (by simp +contextual (disch := first|omega|simp only [nx];omega) only [D4,reduceNegSucc,reduceEq,reduceLeDiff,reduceSub,reduceAdd,D5,hF,hA,↓reduceIte,reduceEqDiff,reduceLT]; with_reducible rfl) ?_
      (repeat first|apply V.seq|apply V.block|apply V.scope|apply V.skip|apply V.close)
      refine V.ret (V.rets rfl (Lv.retF (by simp +contextual (disch := first|omega|simp only [nx];omega) only [D1, cells_alloc_at, cells_alloc_ne, cells_set_at, cells_set_ne, yres, yres1, yresL, reduceLeDiff, reduceSub, reduceAdd, D5,hF,hA,↓reduceIte,reduceEqDiff,reduceLT]; rfl) ?_))
      rfl
    · have l51F : ∀ X, Gives Try.prog 51 [.agg ⟨A2 x1 y1⟩, .agg ⟨A2 n q⟩] X (.bool false) := fun X => by rw [← decide_eq_false hP]; exact l51 X
      have eqd : decide (qq < nn) = decide ((u : Int) < lo ∨ hi < u) := decide_eq_decide.2 ⟨fun h => hpq.1 (.inr h), fun h => (hpq.2 h).resolve_left hP⟩
      have u51D : ∀ X, Gives Try.prog 51 [.agg ⟨A2 x3 y3⟩, .agg ⟨A2 n q⟩] X (.bool (decide ((u : Int) < lo ∨ hi < u))) := fun X => by rw [← eqd]; exact u51 X
      refine V.draw ?_
      refine VD.dins 2 (by simp +contextual (disch := first|omega|simp only [nx];omega) only [D4,reduceNegSucc,reduceEq,reduceLeDiff,reduceSub,reduceAdd,D5,hF,hA,↓reduceIte,reduceEqDiff,reduceLT, r1i.2, c13.2]; with_reducible rfl) ?_
      simp only [ds]
      refine VD.callA (by simp only [D6,D5,hF,hA,↓reduceIte,reduceEqDiff,reduceLT]; try rfl) (f28_ok n q _) (by simp only [D6,D5,hF,hA,↓reduceIte,reduceEqDiff,reduceLT]; try rfl) (fun W1 gw1 => ?_)
      refine VD.callA (by simp only [D6,D5,hF,hA,↓reduceIte,reduceEqDiff,reduceLT]; try rfl) (l51F _) (by simp only [D6,D5,hF,hA,↓reduceIte,reduceEqDiff,reduceLT]; try rfl) (fun W2 gw2 => ?_)
      have gw12 := gw1.trans gw2
      have r1j := r1i.grow gw1
      have r3g := r3f.grow gw12
      have r1k := r1i.grow gw12
      have r3h := r3f.grow gw1
      have c14 := c13.grow gw12
      refine VD.dins 3 (by simp +contextual (disch := first|omega|simp only [nx];omega) only [D4,reduceNegSucc,reduceEq,reduceLeDiff,reduceSub,reduceAdd,D5,hF,hA,↓reduceIte,reduceEqDiff,reduceLT, r3g.2, c14.2]; with_reducible rfl) ?_
      simp only [ds]
      refine VD.callAT (by simp only [D5,hF,hA,↓reduceIte,reduceEqDiff,reduceLT]; try rfl) (by simp only [D6,D5,hF,hA,↓reduceIte,reduceEqDiff,reduceLT]; try rfl) (f28_ok n q _) (by simp only [D6,D5,hF,hA,↓reduceIte,reduceEqDiff,reduceLT]; try rfl) (fun W3 gw3 => ?_)
      refine VD.callAT (by simp only [D5,hF,hA,↓reduceIte,reduceEqDiff,reduceLT]; try rfl) (by simp only [D6,D5,hF,hA,↓reduceIte,reduceEqDiff,reduceLT]; try rfl) (u51D _) (by simp only [D6,D5,hF,hA,↓reduceIte,reduceEqDiff,reduceLT]; try rfl) (fun W4 gw4 => ?_)
      have r1l := r1k.grow gw3
      have r1m := r1l.grow gw4
      have r3i := r3g.grow gw3
      have r3j := r3i.grow gw4
      have t16b := ((t16.grow gw12).grow gw3).grow gw4
      refine VD.lineD' (by simp +contextual (disch := first|omega|simp only [nx];omega) only [D4,reduceNegSucc,reduceEq,reduceLeDiff,reduceSub,reduceAdd,D5,hF,hA,↓reduceIte,reduceEqDiff,reduceLT]; with_reducible rfl) ?_ ?_ rfl ?_
      · have := gw1.1
        have := gw2.1
        have := gw3.1
        have := gw4.1
        simp only [monoG, List.cons_append, List.nil_append, Heap.next_set, Heap.next_alloc, Nat.le_refl, true_and, and_true] <;> omega
      · simp only [dcAll, dcOk, wantD, List.cons_append, List.nil_append, true_and, and_true]
        exact ⟨fun _ q hq => by simp only [List.mem_cons, List.not_mem_nil, or_false] at hq; (repeat (rcases hq with rfl | hq; exact ⟨_, _, _, rfl, (by simp +contextual (disch := first|omega|simp only [nx];omega) only [D4,reduceNegSucc,reduceEq,reduceLeDiff,reduceSub,reduceAdd,D5,hF,hA,↓reduceIte,reduceEqDiff,reduceLT, r1i.2, r1j.2, r1k.2, r1l.2, r1m.2]; with_reducible rfl), fun p hp => by cases hp; simp only [D5,hF,hA,↓reduceIte,reduceEqDiff,reduceLT]; first | exact vEq_An | simp [vEq, vEq0, all2]⟩)); (try (subst hq; exact ⟨_, _, _, rfl, (by simp +contextual (disch := first|omega|simp only [nx];omega) only [D4,reduceNegSucc,reduceEq,reduceLeDiff,reduceSub,reduceAdd,D5,hF,hA,↓reduceIte,reduceEqDiff,reduceLT, r1i.2, r1j.2, r1k.2, r1l.2, r1m.2]; with_reducible rfl), fun p hp => by cases hp; simp only [D5,hF,hA,↓reduceIte,reduceEqDiff,reduceLT]; first | exact vEq_An | simp [vEq, vEq0, all2]⟩)), fun _ q hq => by simp only [List.mem_cons, List.not_mem_nil, or_false] at hq; (repeat (rcases hq with rfl | hq; exact ⟨_, _, _, rfl, (by simp +contextual (disch := first|omega|simp only [nx];omega) only [D4,reduceNegSucc,reduceEq,reduceLeDiff,reduceSub,reduceAdd,D5,hF,hA,↓reduceIte,reduceEqDiff,reduceLT, r3f.2, r3h.2, r3g.2, r3i.2, r3j.2]; with_reducible rfl), fun p hp => by cases hp; simp only [D5,hF,hA,↓reduceIte,reduceEqDiff,reduceLT]; first | exact vEq_An | simp [vEq, vEq0, all2]⟩)); (try (subst hq; exact ⟨_, _, _, rfl, (by simp +contextual (disch := first|omega|simp only [nx];omega) only [D4,reduceNegSucc,reduceEq,reduceLeDiff,reduceSub,reduceAdd,D5,hF,hA,↓reduceIte,reduceEqDiff,reduceLT, r3f.2, r3h.2, r3g.2, r3i.2, r3j.2]; with_reducible rfl), fun p hp => by cases hp; simp only [D5,hF,hA,↓reduceIte,reduceEqDiff,reduceLT]; first | exact vEq_An | simp [vEq, vEq0, all2]⟩))⟩
      (repeat first|apply V.seq|apply V.block|apply V.scope|apply V.skip|apply V.close)
      refine V.re [(7, I u), (16, PT Z3.next), (18, .bool (decide ((u : Int) < lo ∨ hi < u)))] (N := 151) (by intro i; simp only [full_st, hF]) (by simp only [Kn, D5,hF,hA,↓reduceIte,reduceEqDiff,reduceLT, and_self, and_true, true_and]; try (repeat' constructor)) ?_
      clear hF hA
      intro t hF hA
      simp only [Kn, and_true] at hA
      refine V.run ?_
      refine VI.steps' 9 (by simp +contextual (disch := first|omega|simp only [nx];omega) only [D4,reduceNegSucc,reduceEq,reduceLeDiff,reduceSub,reduceAdd,D5,hF,hA,↓reduceIte,reduceEqDiff,reduceLT, t16b.2, hlohi, eqb]; with_reducible rfl) ?_
      simp only [ds]
      refine VI.steps' 9 (by simp +contextual (disch := first|omega|simp only [nx];omega) only [D4,reduceNegSucc,reduceEq,reduceLeDiff,reduceSub,reduceAdd,D5,hF,hA,↓reduceIte,reduceEqDiff,reduceLT, t16b.2, hlohi, eqb]; with_reducible rfl) ?_
      simp only [ds]
      refine VI.steps' 2 (by simp +contextual (disch := first|omega|simp only [nx];omega) only [D4,reduceNegSucc,reduceEq,reduceLeDiff,reduceSub,reduceAdd,D5,hF,hA,↓reduceIte,reduceEqDiff,reduceLT, t16b.2, hlohi, eqb]; with_reducible rfl) ?_
      simp only [ds]
      refine VI.callAT (by simp only [D5,hF,hA,↓reduceIte,reduceEqDiff,reduceLT]; try rfl) rfl (f24_ok _) (by simp only [D6,D5,hF,hA,↓reduceIte,reduceEqDiff,reduceLT]; try rfl) (fun W6 gw6 => ?_)
      refine VI.line' (by simp +contextual (disch := first|omega|simp only [nx];omega) only [D4,reduceNegSucc,reduceEq,reduceLeDiff,reduceSub,reduceAdd,D5,hF,hA,↓reduceIte,reduceEqDiff,reduceLT]; with_reducible rfl) ?_
      (repeat first|apply V.seq|apply V.block|apply V.scope|apply V.skip|apply V.close)
      refine V.ret (V.rets rfl (Lv.retF (by simp +contextual (disch := first|omega|simp only [nx];omega) only [D1, cells_alloc_at, cells_alloc_ne, cells_set_at, cells_set_ne, yres, yres1, yresL, reduceLeDiff, reduceSub, reduceAdd, D5,hF,hA,↓reduceIte,reduceEqDiff,reduceLT]; rfl) ?_))
      rfl
end Go.Xe.TMX
