/- What the functions of the layer miss come to: chances. Conditions: none. -/
import Derived.Test.YtglkpemncjoefaaTMQ
-- MOD TM
namespace Go.Xe.TMX
open Go Go.Xe Go.Proofs Go.Xe.Mth
open Nat renaming reduceLeDiff → qA, reduceSub → qB, reduceAdd → qC, reduceEqDiff → qD, reduceLT → qE
open Int renaming reduceNegSucc → qF, reduceEq → qG
set_option maxRecDepth 100000
set_option maxHeartbeats 3200000
set_option linter.unusedSimpArgs false
noncomputable def d62 : FCode := (.seq (.run (.go (.box 23 (.tmp (pth 0))) (pth 3)::
.go (.move (.con (.int .i64 (.ofNat 0)))) (pth 6)::
[])) (.seq (.draw 12 (.go (.fieldAddr 0 (.tmp (pth 3))) (pth 7)::
.go (.load1 (.tmp (pth 7))) (pth 8)::
.go (.move (.tmp (pth 2))) (pth 9)::
.go (.call (.con (.func (.func 25) ⟨[]⟩ ⟨[]⟩)) [(.tmp (pth 8)),(.tmp (pth 9))]) (pth 10)::
.go (.move (.tmp (pth 1))) (pth 11)::
.go (.fieldAddr 2 (.tmp (pth 3))) (pth 12)::
.go (.load1 (.tmp (pth 12))) (pth 13)::
.go (.move (.tmp (pth 2))) (pth 14)::
.go (.bin .sub 3 (.tmp (pth 13)) (.tmp (pth 14))) (pth 15)::
.go (.call (.con (.func (.func 25) ⟨[]⟩ ⟨[]⟩)) [(.tmp (pth 11)),(.tmp (pth 15))]) (pth 16)::
.go (.bin .mul 3 (.tmp (pth 10)) (.tmp (pth 16))) (pth 17)::
.go (.move (.tmp (pth 17))) (pth 6)::
[]) [.ok,.ok,.ok,.ok,.ok,.ok,.rd none (.load1 (.tmp (pth 12))) (some (pth 13)) [0],.ok,.ok,.ok,.ok,.ok]) .ret))
theorem de62 : @compF Try.prog (Gl.none Try.prog) Try.f62 3 = .mk d62 (mkTT 18) [(pth 0),(pth 1),(pth 2)] [.tmp (pth 6)] := by kernel_rfl
theorem dg62 : Try.prog.funcs[62]? = some Try.f62 := Try.func62
theorem do62 : okF Try.prog Try.f62 = true := by kernel_rfl
noncomputable def d49 : FCode := (.seq (.run (.go (.box 23 (.tmp (pth 0))) (pth 2)::
.go (.move (.con (.int .i64 (.ofNat 0)))) (pth 4)::
[])) (.seq (.run (.go (.fieldAddr 0 (.tmp (pth 2))) (pth 5)::
.go (.load1 (.tmp (pth 5))) (pth 6)::
.go (.move (.tmp (pth 1))) (pth 7)::
.go (.bin .add 3 (.tmp (pth 6)) (.tmp (pth 7))) (pth 8)::
.go (.fieldAddr 2 (.tmp (pth 2))) (pth 9)::
.go (.load1 (.tmp (pth 9))) (pth 10)::
.go (.call (.con (.func (.func 25) ⟨[]⟩ ⟨[]⟩)) [(.tmp (pth 8)),(.tmp (pth 10))]) (pth 11)::
.go (.move (.tmp (pth 11))) (pth 4)::
[])) .ret))
theorem de49 : @compF Try.prog (Gl.none Try.prog) Try.f49 2 = .mk d49 (mkTT 12) [(pth 0),(pth 1)] [.tmp (pth 4)] := by kernel_rfl
theorem dg49 : Try.prog.funcs[49]? = some Try.f49 := Try.func49
theorem do49 : okF Try.prog Try.f49 = true := by kernel_rfl
def psum (a u c f n : Nat) : Nat := sm (fun k => part a u c (f + k)) n
theorem f62_ok {a b c d u f : Nat} (ha : a ≤ 60) (hu : u ≤ 60) (hau : a + u ≤ 60) (hf : f ≤ c) (hc : c ≤ 60) (H : Heap) : Gives Try.prog 62 [.agg ⟨A4 a b c d⟩, I u, I f] H (I (part a u c f : Nat)) := by
  have e1 : (c : Int) - f = ((c - f : Nat) : Int) := by omega
  have hpl := part_le (a := a) (u := u) hf
  have hcb := ch_bound (n := a + u) c hau
  have ep : ((ch a f : Nat) : Int) * ((ch u (c - f) : Nat) : Int) = ((part a u c f : Nat) : Int) := by unfold part; push_cast; rfl
  refine F.entryL rfl dg62 do62 de62 rfl (by kernel_rfl) ?_
  simp only [sets]
  refine V.re [(0, .agg ⟨A4 a b c d⟩), (1, I u), (2, I f)] (N := 18) (by intro i; simp only [full_st, Full.mk]) (by simp only [Kn, gt_st, full_st, Full.mk, ↓reduceIte, qD, qE, decide_true, and_self]) ?_
  intro t hF hA
  simp only [Kn, and_true] at hA
  (repeat first|apply V.seq|apply V.block|apply V.scope|apply V.skip|apply V.close)
  refine V.line' (by simp +contextual (disch := first|omega|simp only [nx];omega) only [D4,qF,qG,qA,qB,qC,D5,hF,hA,↓reduceIte,qD,qE]; with_reducible rfl) ?_
  refine V.heap (fun X => Grow H X ∧ Bx X H.next (A4 a b c d) 23) ⟨?_, ?_⟩ ?_
  · (repeat first | assumption | exact Grow.refl _ | refine Grow.alloc ?_ _ | refine Grow.set ?_ (by first|omega|simp only [nx];omega) _)
  · (repeat first | assumption | exact Bx.new _ _ _ | exact Bx.newAt (by first|omega|simp only [nx];omega) | refine Bx.put (by first|omega|simp only [nx];omega) _ _ | refine Bx.alloc ?_ _ | refine Bx.set ?_ (by first|omega|simp only [nx];omega) _)
  rintro H1 ⟨g1, b1⟩
  (repeat first|apply V.seq|apply V.block|apply V.scope|apply V.skip|apply V.close)
  refine V.draw ?_
  refine VD.dins 3 (by simp +contextual (disch := first|omega|simp only [nx];omega) only [D4,qF,qG,qA,qB,qC,D5,hF,hA,↓reduceIte,qD,qE, b1.2]; with_reducible rfl) ?_
  simp only [ds]
  refine VD.callA (by simp only [D6,D5,hF,hA,↓reduceIte,qD,qE]; try rfl) (f25_ok a f ha (by omega) _) (by simp only [D6,D5,hF,hA,↓reduceIte,qD,qE]; try rfl) (fun H2 g2 => ?_)
  have b2 := b1.grow g2
  refine VD.dins 5 (by simp +contextual (disch := first|omega|simp only [nx];omega) only [D4,qF,qG,qA,qB,qC,D5,hF,hA,↓reduceIte,qD,qE, b2.2, e1]; with_reducible rfl) ?_
  simp only [ds]
  refine VD.callA (by simp only [D6,D5,hF,hA,↓reduceIte,qD,qE]; try rfl) (f25_ok u (c - f) hu (by omega) _) (by simp only [D6,D5,hF,hA,↓reduceIte,qD,qE]; try rfl) (fun H3 g3 => ?_)
  have b3 := b2.grow g3
  refine VD.lineD' (by simp +contextual (disch := first|omega|simp only [nx];omega) only [D4,qF,qG,qA,qB,qC,D5,hF,hA,↓reduceIte,qD,qE, ep]; with_reducible rfl) ?_ ?_ rfl ?_
  · have n2 := g2.1
    have n3 := g3.1
    simp only [monoG, List.cons_append, List.nil_append, Heap.next_set, Heap.next_alloc, Nat.le_refl, true_and, and_true] <;> omega
  · simp only [dcAll, dcOk, wantD, List.cons_append, List.nil_append, true_and, and_true]
    exact fun _ q hq => by simp only [List.mem_cons, List.not_mem_nil, or_false] at hq; (repeat (rcases hq with rfl | hq; exact ⟨_, _, _, rfl, (by simp +contextual (disch := first|omega|simp only [nx];omega) only [D4,qF,qG,qA,qB,qC,D5,hF,hA,↓reduceIte,qD,qE, b1.2, b2.2, b3.2]; with_reducible rfl), fun p hp => by cases hp; simp only [D5,hF,hA,↓reduceIte,qD,qE]; first | exact vEq_An | (simp [vEq, vEq0, all2]; done) | assumption⟩)); (try (subst hq; exact ⟨_, _, _, rfl, (by simp +contextual (disch := first|omega|simp only [nx];omega) only [D4,qF,qG,qA,qB,qC,D5,hF,hA,↓reduceIte,qD,qE, b1.2, b2.2, b3.2]; with_reducible rfl), fun p hp => by cases hp; simp only [D5,hF,hA,↓reduceIte,qD,qE]; first | exact vEq_An | (simp [vEq, vEq0, all2]; done) | assumption⟩))
  (repeat first|apply V.seq|apply V.block|apply V.scope|apply V.skip|apply V.close)
  refine V.ret (V.rets rfl (Lv.retG (by simp +contextual (disch := first|omega|simp only [nx];omega) only [D1, cells_alloc_at, cells_alloc_ne, cells_set_at, cells_set_ne, yres, yres1, yresL, qA, qB, qC, D5,hF,hA,↓reduceIte,qD,qE]; rfl) ?_ ?_))
  · exact (g1.trans g2).trans g3
  · rfl
theorem f49_ok {a b c d u : Nat} (hau : a + u ≤ 60) (hc : c ≤ 60) (H : Heap) : Gives Try.prog 49 [.agg ⟨A4 a b c d⟩, I u] H (I (ch (a + u) c : Nat)) := by
  have e1 : (a : Int) + u = ((a + u : Nat) : Int) := rfl
  refine F.entryL rfl dg49 do49 de49 rfl (by kernel_rfl) ?_
  simp only [sets]
  refine V.re [(0, .agg ⟨A4 a b c d⟩), (1, I u)] (N := 12) (by intro i; simp only [full_st, Full.mk]) (by simp only [Kn, gt_st, full_st, Full.mk, ↓reduceIte, qD, qE, decide_true, and_self]) ?_
  intro t hF hA
  simp only [Kn, and_true] at hA
  (repeat first|apply V.seq|apply V.block|apply V.scope|apply V.skip|apply V.close)
  refine V.line' (by simp +contextual (disch := first|omega|simp only [nx];omega) only [D4,qF,qG,qA,qB,qC,D5,hF,hA,↓reduceIte,qD,qE]; with_reducible rfl) ?_
  (repeat first|apply V.seq|apply V.block|apply V.scope|apply V.skip|apply V.close)
  refine V.run ?_
  refine VI.steps' 6 (by simp +contextual (disch := first|omega|simp only [nx];omega) only [D4,qF,qG,qA,qB,qC,D5,hF,hA,↓reduceIte,qD,qE, e1]; with_reducible rfl) ?_
  simp only [ds]
  refine VI.callA rfl (f25_ok (a + u) c hau hc _) (by simp only [D6,D5,hF,hA,↓reduceIte,qD,qE]; try rfl) (fun H2 g2 => ?_)
  refine VI.line' (by simp +contextual (disch := first|omega|simp only [nx];omega) only [D4,qF,qG,qA,qB,qC,D5,hF,hA,↓reduceIte,qD,qE]; with_reducible rfl) ?_
  (repeat first|apply V.seq|apply V.block|apply V.scope|apply V.skip|apply V.close)
  refine V.ret (V.rets rfl (Lv.retG (by simp +contextual (disch := first|omega|simp only [nx];omega) only [D1, cells_alloc_at, cells_alloc_ne, cells_set_at, cells_set_ne, yres, yres1, yresL, qA, qB, qC, D5,hF,hA,↓reduceIte,qD,qE]; rfl) ?_ ?_))
  · exact ((Grow.refl H).alloc _).trans g2
  · rfl
def rd (a b c d u : Int) : Int := if ¬ ar a b c d then 1 else if ¬ (0 ≤ u ∧ u ≤ b) then 2 else 0
end Go.Xe.TMX
/- What the statement MissChances comes to. Conditions: none. -/
-- MOD TM
namespace Go.Xe.TMX
open Go Go.Xe Go.Proofs Go.Xe.Mth
open Nat renaming reduceLeDiff → qA, reduceSub → qB, reduceAdd → qC, reduceEqDiff → qD, reduceLT → qE
open Int renaming reduceNegSucc → qF, reduceEq → qG
set_option maxRecDepth 100000
set_option maxHeartbeats 3200000
set_option linter.unusedSimpArgs false
noncomputable def d4 : FCode := (.seq (.run (.go (.box 23 (.tmp (pth 0))) (pth 2)::
.go (.move (.con (.bool false))) (pth 4)::
[])) (.seq (.run (.go (.loadN 4 (.tmp (pth 2))) (pth 13)::
.go (.call (.con (.func (.func 21) ⟨[]⟩ ⟨[]⟩)) [(.tmp (pth 13))]) (pth 14)::
.go (.move (.tmp (pth 1))) (pth 15)::
.go (.call (.con (.func (.func 26) ⟨[]⟩ ⟨[]⟩)) [(.tmp (pth 14)),(.tmp (pth 15))]) (pth 16)::
.go (.move (.tmp (pth 16))) (pth 12)::
.go (.extract (.tmp (pth 12)) 0) (pth 17)::
.go (.extract (.tmp (pth 12)) 1) (pth 18)::
.go (.alloc 36 [(.int .i64 (.ofNat 0)),(.int .i64 (.ofNat 0))]) (pth 5)::
.un (.store 2 (.tmp (pth 5)) (.tmp (pth 17)))::
.go (.move (.tmp (pth 18))) (pth 6)::
[])) (.seq (.run (.go (.loadN 4 (.tmp (pth 2))) (pth 20)::
.go (.call (.con (.func (.func 21) ⟨[]⟩ ⟨[]⟩)) [(.tmp (pth 20))]) (pth 21)::
.go (.move (.tmp (pth 1))) (pth 22)::
.go (.call (.con (.func (.func 27) ⟨[]⟩ ⟨[]⟩)) [(.tmp (pth 21)),(.tmp (pth 22)),(.con (.bool true))]) (pth 23)::
.go (.move (.tmp (pth 23))) (pth 19)::
.go (.extract (.tmp (pth 19)) 0) (pth 24)::
.go (.extract (.tmp (pth 19)) 1) (pth 25)::
.go (.alloc 36 [(.int .i64 (.ofNat 0)),(.int .i64 (.ofNat 0))]) (pth 7)::
.un (.store 2 (.tmp (pth 7)) (.tmp (pth 24)))::
.go (.move (.tmp (pth 25))) (pth 8)::
[])) (.seq (.run (.go (.loadN 4 (.tmp (pth 2))) (pth 27)::
.go (.call (.con (.func (.func 21) ⟨[]⟩ ⟨[]⟩)) [(.tmp (pth 27))]) (pth 28)::
.go (.move (.tmp (pth 1))) (pth 29)::
.go (.call (.con (.func (.func 27) ⟨[]⟩ ⟨[]⟩)) [(.tmp (pth 28)),(.tmp (pth 29)),(.con (.bool false))]) (pth 30)::
.go (.move (.tmp (pth 30))) (pth 26)::
.go (.extract (.tmp (pth 26)) 0) (pth 31)::
.go (.extract (.tmp (pth 26)) 1) (pth 32)::
.go (.alloc 36 [(.int .i64 (.ofNat 0)),(.int .i64 (.ofNat 0))]) (pth 9)::
.un (.store 2 (.tmp (pth 9)) (.tmp (pth 31)))::
.go (.move (.tmp (pth 32))) (pth 10)::
[])) (.seq (.run (.go (.loadN 4 (.tmp (pth 2))) (pth 33)::
.go (.call (.con (.func (.func 22) ⟨[]⟩ ⟨[]⟩)) [(.tmp (pth 33))]) (pth 34)::
.go (.move (.tmp (pth 34))) (pth 11)::
[])) (.seq (.seq (.run (.go (.move (.tmp (pth 11))) (pth 35)::
.go (.bin .eql 24 (.tmp (pth 35)) (.con (.int .i64 (.ofNat 0)))) (pth 36)::
.go (.move (.tmp (pth 36))) (pth 37)::
.gd (pth 37) true (.move (.tmp (pth 1))) (pth 38)::
.gd (pth 37) true (.fieldAddr 1 (.tmp (pth 2))) (pth 39)::
.gd (pth 37) true (.load1 (.tmp (pth 39))) (pth 40)::
.gd (pth 37) true (.call (.con (.func (.func 23) ⟨[]⟩ ⟨[]⟩)) [(.tmp (pth 38)),(.con (.int .i64 (.ofNat 0))),(.tmp (pth 40))]) (pth 41)::
.gd (pth 37) true (.un .not (.tmp (pth 41))) (pth 42)::
.go (.pick (.tmp (pth 37)) (.tmp (pth 42)) (.con (.bool false))) (pth 43)::
[])) (.cond (.tmp (pth 43)) (.run (.go (.move (.con (.int .i64 (.ofNat 2)))) (pth 11)::
[])) .skip)) (.seq (.seq (.run (.go (.move (.tmp (pth 6))) (pth 44)::
.go (.move (.tmp (pth 11))) (pth 45)::
.go (.bin .neq 24 (.tmp (pth 44)) (.tmp (pth 45))) (pth 46)::
.go (.move (.tmp (pth 46))) (pth 47)::
.gd (pth 47) false (.move (.tmp (pth 8))) (pth 48)::
.gd (pth 47) false (.move (.tmp (pth 11))) (pth 49)::
.gd (pth 47) false (.bin .neq 24 (.tmp (pth 48)) (.tmp (pth 49))) (pth 50)::
.go (.pick (.tmp (pth 47)) (.con (.bool true)) (.tmp (pth 50))) (pth 51)::
.go (.move (.tmp (pth 51))) (pth 52)::
.gd (pth 52) false (.move (.tmp (pth 10))) (pth 53)::
.gd (pth 52) false (.move (.tmp (pth 11))) (pth 54)::
.gd (pth 52) false (.bin .neq 24 (.tmp (pth 53)) (.tmp (pth 54))) (pth 55)::
.go (.pick (.tmp (pth 52)) (.con (.bool true)) (.tmp (pth 55))) (pth 56)::
[])) (.cond (.tmp (pth 56)) (.seq (.run (.go (.move (.con (.bool false))) (pth 4)::
[])) .ret) .skip)) (.seq (.seq (.run (.go (.move (.tmp (pth 11))) (pth 57)::
.go (.bin .neq 24 (.tmp (pth 57)) (.con (.int .i64 (.ofNat 0)))) (pth 58)::
[])) (.cond (.tmp (pth 58)) (.seq (.run (.go (.loadN 2 (.tmp (pth 5))) (pth 59)::
.go (.build [(.int .i64 (.ofNat 0)),(.int .i64 (.ofNat 0))] []) (pth 60)::
.go (.bin .eql 36 (.tmp (pth 59)) (.tmp (pth 60))) (pth 61)::
.go (.move (.tmp (pth 61))) (pth 62)::
.gd (pth 62) true (.loadN 2 (.tmp (pth 7))) (pth 63)::
.gd (pth 62) true (.build [(.int .i64 (.ofNat 0)),(.int .i64 (.ofNat 0))] []) (pth 64)::
.gd (pth 62) true (.bin .eql 36 (.tmp (pth 63)) (.tmp (pth 64))) (pth 65)::
.go (.pick (.tmp (pth 62)) (.tmp (pth 65)) (.con (.bool false))) (pth 66)::
.go (.move (.tmp (pth 66))) (pth 67)::
.gd (pth 67) true (.loadN 2 (.tmp (pth 9))) (pth 68)::
.gd (pth 67) true (.build [(.int .i64 (.ofNat 0)),(.int .i64 (.ofNat 0))] []) (pth 69)::
.gd (pth 67) true (.bin .eql 36 (.tmp (pth 68)) (.tmp (pth 69))) (pth 70)::
.go (.pick (.tmp (pth 67)) (.tmp (pth 70)) (.con (.bool false))) (pth 71)::
.go (.move (.tmp (pth 71))) (pth 72)::
.gd (pth 72) true (.call (.con (.func (.func 24) ⟨[]⟩ ⟨[]⟩)) []) (pth 73)::
.go (.pick (.tmp (pth 72)) (.tmp (pth 73)) (.con (.bool false))) (pth 74)::
.go (.move (.tmp (pth 74))) (pth 4)::
[])) .ret) .skip)) (.seq (.draw 39 (.go (.loadN 2 (.tmp (pth 5))) (pth 75)::
.go (.loadN 4 (.tmp (pth 2))) (pth 76)::
.go (.move (.tmp (pth 1))) (pth 77)::
.go (.fieldAddr 3 (.tmp (pth 2))) (pth 78)::
.go (.load1 (.tmp (pth 78))) (pth 79)::
.go (.fieldAddr 3 (.tmp (pth 2))) (pth 80)::
.go (.load1 (.tmp (pth 80))) (pth 81)::
.go (.call (.con (.func (.func 30) ⟨[]⟩ ⟨[]⟩)) [(.tmp (pth 76)),(.tmp (pth 77)),(.tmp (pth 79)),(.tmp (pth 81))]) (pth 82)::
.go (.call (.con (.func (.func 29) ⟨[]⟩ ⟨[]⟩)) [(.tmp (pth 82))]) (pth 83)::
.go (.call (.con (.func (.func 28) ⟨[]⟩ ⟨[]⟩)) [(.tmp (pth 83))]) (pth 84)::
.go (.bin .eql 36 (.tmp (pth 75)) (.tmp (pth 84))) (pth 85)::
.go (.move (.tmp (pth 85))) (pth 86)::
.gd (pth 86) true (.loadN 2 (.tmp (pth 7))) (pth 87)::
.gd (pth 86) true (.loadN 4 (.tmp (pth 2))) (pth 88)::
.gd (pth 86) true (.move (.tmp (pth 1))) (pth 89)::
.gd (pth 86) true (.fieldAddr 3 (.tmp (pth 2))) (pth 90)::
.gd (pth 86) true (.load1 (.tmp (pth 90))) (pth 91)::
.gd (pth 86) true (.call (.con (.func (.func 30) ⟨[]⟩ ⟨[]⟩)) [(.tmp (pth 88)),(.tmp (pth 89)),(.con (.int .i64 (.ofNat 0))),(.tmp (pth 91))]) (pth 92)::
.gd (pth 86) true (.call (.con (.func (.func 29) ⟨[]⟩ ⟨[]⟩)) [(.tmp (pth 92))]) (pth 93)::
.gd (pth 86) true (.call (.con (.func (.func 28) ⟨[]⟩ ⟨[]⟩)) [(.tmp (pth 93))]) (pth 94)::
.gd (pth 86) true (.bin .eql 36 (.tmp (pth 87)) (.tmp (pth 94))) (pth 95)::
.go (.pick (.tmp (pth 86)) (.tmp (pth 95)) (.con (.bool false))) (pth 96)::
.go (.move (.tmp (pth 96))) (pth 97)::
.gd (pth 97) true (.loadN 2 (.tmp (pth 9))) (pth 98)::
.gd (pth 97) true (.loadN 4 (.tmp (pth 2))) (pth 99)::
.gd (pth 97) true (.move (.tmp (pth 1))) (pth 100)::
.gd (pth 97) true (.fieldAddr 3 (.tmp (pth 2))) (pth 101)::
.gd (pth 97) true (.load1 (.tmp (pth 101))) (pth 102)::
.gd (pth 97) true (.fieldAddr 2 (.tmp (pth 2))) (pth 103)::
.gd (pth 97) true (.load1 (.tmp (pth 103))) (pth 104)::
.gd (pth 97) true (.call (.con (.func (.func 30) ⟨[]⟩ ⟨[]⟩)) [(.tmp (pth 99)),(.tmp (pth 100)),(.tmp (pth 102)),(.tmp (pth 104))]) (pth 105)::
.gd (pth 97) true (.call (.con (.func (.func 29) ⟨[]⟩ ⟨[]⟩)) [(.tmp (pth 105))]) (pth 106)::
.gd (pth 97) true (.call (.con (.func (.func 28) ⟨[]⟩ ⟨[]⟩)) [(.tmp (pth 106))]) (pth 107)::
.gd (pth 97) true (.bin .eql 36 (.tmp (pth 98)) (.tmp (pth 107))) (pth 108)::
.go (.pick (.tmp (pth 97)) (.tmp (pth 108)) (.con (.bool false))) (pth 109)::
.go (.move (.tmp (pth 109))) (pth 110)::
.gd (pth 110) true (.call (.con (.func (.func 24) ⟨[]⟩ ⟨[]⟩)) []) (pth 111)::
.go (.pick (.tmp (pth 110)) (.tmp (pth 111)) (.con (.bool false))) (pth 112)::
.go (.move (.tmp (pth 112))) (pth 4)::
[]) [.rd none (.loadN 2 (.tmp (pth 5))) (some (pth 75)) [8,9,10],.ok,.ok,.ok,.ok,.ok,.ok,.ok,.ok,.ok,.ok,.ok,.rd (some ((pth 86),true)) (.loadN 2 (.tmp (pth 7))) (some (pth 87)) [18,19,20],.ok,.ok,.ok,.ok,.ok,.ok,.ok,.ok,.ok,.ok,.rd (some ((pth 97),true)) (.loadN 2 (.tmp (pth 9))) (some (pth 98)) [31,32,33],.ok,.ok,.ok,.ok,.ok,.ok,.ok,.ok,.ok,.ok,.ok,.ok,.ok,.ok,.ok]) .ret)))))))))
end Go.Xe.TMX
/- What the statement MissAll comes to. Conditions: none. -/
-- MOD TM
namespace Go.Xe.TMX
open Go Go.Xe Go.Proofs Go.Xe.Mth
open Nat renaming reduceLeDiff → qA, reduceSub → qB, reduceAdd → qC, reduceEqDiff → qD, reduceLT → qE
open Int renaming reduceNegSucc → qF, reduceEq → qG
set_option maxRecDepth 100000
set_option maxHeartbeats 3200000
set_option linter.unusedSimpArgs false
end Go.Xe.TMX
