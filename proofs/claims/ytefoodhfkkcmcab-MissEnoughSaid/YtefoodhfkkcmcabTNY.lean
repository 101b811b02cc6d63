/- What the statement MissEnough comes to. Conditions: none. -/
import Derived.Test.YtefoodhfkkcmcabTNX
-- MOD TM
namespace Go.Xe.TMX
open Go Go.Xe Go.Proofs Go.Xe.Mth
open Nat (reduceLeDiff reduceSub reduceAdd reduceEqDiff reduceLT)
open Int (reduceNegSucc reduceEq)
set_option maxRecDepth 100000
set_option maxHeartbeats 3200000
set_option linter.unusedSimpArgs false
noncomputable def d40 : FCode := (.seq (.run (.go (.box 36 (.tmp (pth 3))) (pth 7)::
.go (.move (.con (.int .i64 (.ofNat 0)))) (pth 8)::
.go (.move (.con (.int .i64 (.ofNat 0)))) (pth 9)::
[])) (.seq (.run (.go (.move (.tmp (pth 1))) (pth 11)::
.go (.build [(.int .i64 (.ofNat 0)),(.int .i64 (.ofNat 0))] [(0,1,(.con (.int .i64 (.ofNat 0)))),(1,1,(.tmp (pth 11)))]) (pth 12)::
.go (.alloc 53 [(.int .i64 (.ofNat 0)),(.int .i64 (.ofNat 0))]) (pth 10)::
.un (.store 2 (.tmp (pth 10)) (.tmp (pth 12)))::
[])) (.seq (.seq (.run (.go (.move (.tmp (pth 0))) (pth 13)::
.go (.move (.tmp (pth 1))) (pth 14)::
.go (.buildSlice 3 2 [(.int .i64 (.ofNat 0)),(.int .i64 (.ofNat 0))] [(0,1,(.tmp (pth 13))),(1,1,(.tmp (pth 14)))]) (pth 15)::
.go (.call (.con (.func (.func 70) ⟨[]⟩ ⟨[]⟩)) [(.tmp (pth 15))]) (pth 16)::
.go (.un .not (.tmp (pth 16))) (pth 17)::
.go (.move (.tmp (pth 17))) (pth 18)::
.gd (pth 18) false (.loadN 2 (.tmp (pth 10))) (pth 19)::
.gd (pth 18) false (.move (.tmp (pth 2))) (pth 20)::
.gd (pth 18) false (.call (.con (.func (.func 52) ⟨[]⟩ ⟨[]⟩)) [(.tmp (pth 19)),(.tmp (pth 20))]) (pth 21)::
.gd (pth 18) false (.un .not (.tmp (pth 21))) (pth 22)::
.go (.pick (.tmp (pth 18)) (.con (.bool true)) (.tmp (pth 22))) (pth 23)::
.go (.move (.tmp (pth 23))) (pth 24)::
.gd (pth 24) false (.loadN 2 (.tmp (pth 7))) (pth 25)::
.gd (pth 24) false (.call (.con (.func (.func 65) ⟨[]⟩ ⟨[]⟩)) [(.tmp (pth 25))]) (pth 26)::
.gd (pth 24) false (.un .not (.tmp (pth 26))) (pth 27)::
.go (.pick (.tmp (pth 24)) (.con (.bool true)) (.tmp (pth 27))) (pth 28)::
[])) (.cond (.tmp (pth 28)) (.seq (.run (.go (.move (.con (.int .i64 (.ofNat 0)))) (pth 8)::
.go (.move (.con (.int .i64 (.ofNat 2)))) (pth 9)::
[])) .ret) .skip)) (.seq (.run (.go (.move (.tmp (pth 0))) (pth 29)::
.go (.move (.tmp (pth 2))) (pth 30)::
.go (.move (.tmp (pth 1))) (pth 31)::
.go (.build [(.int .i64 (.ofNat 0)),(.int .i64 (.ofNat 0))] [(0,1,(.tmp (pth 30))),(1,1,(.tmp (pth 31)))]) (pth 32)::
.go (.loadN 2 (.tmp (pth 7))) (pth 33)::
.go (.call (.con (.func (.func 71) ⟨[]⟩ ⟨[]⟩)) [(.tmp (pth 29)),(.tmp (pth 32)),(.tmp (pth 33))]) (pth 34)::
.go (.extract (.tmp (pth 34)) 0) (pth 35)::
.go (.extract (.tmp (pth 34)) 1) (pth 36)::
.go (.move (.tmp (pth 35))) (pth 8)::
.go (.move (.tmp (pth 36))) (pth 9)::
[])) .ret))))
theorem de40 : @compF Try.prog (Gl.none Try.prog) Try.f40 4 = .mk d40 (mkTT 37) [(pth 0),(pth 1),(pth 2),(pth 3)] [.tmp (pth 8),.tmp (pth 9)] := by kernel_rfl
theorem dg40 : Try.prog.funcs[40]? = some Try.f40 := Try.func40
theorem do40 : okF Try.prog Try.f40 = true := by kernel_rfl
noncomputable def d7 : FCode := (.seq (.run (.go (.box 41 (.tmp (pth 3))) (pth 7)::
.go (.move (.con (.bool false))) (pth 8)::
[])) (.seq (.run (.go (.move (.tmp (pth 0))) (pth 13)::
.go (.move (.tmp (pth 1))) (pth 14)::
.go (.move (.tmp (pth 2))) (pth 15)::
.go (.loadN 2 (.tmp (pth 7))) (pth 16)::
.go (.call (.con (.func (.func 28) ⟨[]⟩ ⟨[]⟩)) [(.tmp (pth 16))]) (pth 17)::
.go (.call (.con (.func (.func 40) ⟨[]⟩ ⟨[]⟩)) [(.tmp (pth 13)),(.tmp (pth 14)),(.tmp (pth 15)),(.tmp (pth 17))]) (pth 18)::
.go (.move (.tmp (pth 18))) (pth 12)::
.go (.extract (.tmp (pth 12)) 0) (pth 19)::
.go (.extract (.tmp (pth 12)) 1) (pth 20)::
.go (.move (.tmp (pth 19))) (pth 9)::
.go (.move (.tmp (pth 20))) (pth 10)::
[])) (.seq (.seq (.run (.go (.move (.tmp (pth 0))) (pth 21)::
.go (.move (.tmp (pth 1))) (pth 22)::
.go (.call (.con (.func (.func 41) ⟨[]⟩ ⟨[]⟩)) [(.tmp (pth 21)),(.tmp (pth 22))]) (pth 23)::
.go (.un .not (.tmp (pth 23))) (pth 24)::
.go (.move (.tmp (pth 24))) (pth 25)::
.gd (pth 25) false (.move (.tmp (pth 2))) (pth 26)::
.gd (pth 25) false (.move (.tmp (pth 1))) (pth 27)::
.gd (pth 25) false (.call (.con (.func (.func 23) ⟨[]⟩ ⟨[]⟩)) [(.tmp (pth 26)),(.con (.int .i64 (.ofNat 0))),(.tmp (pth 27))]) (pth 28)::
.gd (pth 25) false (.un .not (.tmp (pth 28))) (pth 29)::
.go (.pick (.tmp (pth 25)) (.con (.bool true)) (.tmp (pth 29))) (pth 30)::
.go (.move (.tmp (pth 30))) (pth 31)::
.gd (pth 31) false (.loadN 2 (.tmp (pth 7))) (pth 32)::
.gd (pth 31) false (.call (.con (.func (.func 36) ⟨[]⟩ ⟨[]⟩)) [(.tmp (pth 32))]) (pth 33)::
.gd (pth 31) false (.un .not (.tmp (pth 33))) (pth 34)::
.go (.pick (.tmp (pth 31)) (.con (.bool true)) (.tmp (pth 34))) (pth 35)::
[])) (.cond (.tmp (pth 35)) (.seq (.run (.go (.move (.tmp (pth 10))) (pth 36)::
.go (.bin .eql 24 (.tmp (pth 36)) (.con (.int .i64 (.ofNat 2)))) (pth 37)::
.go (.move (.tmp (pth 37))) (pth 38)::
.gd (pth 38) true (.move (.tmp (pth 9))) (pth 39)::
.gd (pth 38) true (.bin .eql 3 (.tmp (pth 39)) (.con (.int .i64 (.ofNat 0)))) (pth 40)::
.go (.pick (.tmp (pth 38)) (.tmp (pth 40)) (.con (.bool false))) (pth 41)::
.go (.move (.tmp (pth 41))) (pth 42)::
.gd (pth 42) true (.call (.con (.func (.func 24) ⟨[]⟩ ⟨[]⟩)) []) (pth 43)::
.go (.pick (.tmp (pth 42)) (.tmp (pth 43)) (.con (.bool false))) (pth 44)::
.go (.move (.tmp (pth 44))) (pth 8)::
[])) .ret) .skip)) (.seq (.seq (.run (.go (.move (.con (.int .i64 (.ofNat 0)))) (pth 11)::
[])) (.block 0 (.loop (.seq (.seq (.run (.go (.move (.tmp (pth 11))) (pth 45)::
.go (.move (.tmp (pth 0))) (pth 46)::
.go (.bin .leq 3 (.tmp (pth 45)) (.tmp (pth 46))) (pth 47)::
[])) (.cond (.tmp (pth 47)) .skip (.exit 0))) (.seq (.block 1 (.seq (.run (.go (.move (.tmp (pth 0))) (pth 50)::
.go (.move (.tmp (pth 1))) (pth 51)::
.go (.move (.tmp (pth 2))) (pth 52)::
.go (.move (.tmp (pth 11))) (pth 53)::
.go (.loadN 2 (.tmp (pth 7))) (pth 54)::
.go (.call (.con (.func (.func 42) ⟨[]⟩ ⟨[]⟩)) [(.tmp (pth 50)),(.tmp (pth 51)),(.tmp (pth 52)),(.tmp (pth 53)),(.tmp (pth 54))]) (pth 55)::
[])) (.cond (.tmp (pth 55)) (.seq (.run (.go (.move (.tmp (pth 10))) (pth 56)::
.go (.bin .eql 24 (.tmp (pth 56)) (.con (.int .i64 (.ofNat 0)))) (pth 57)::
.go (.move (.tmp (pth 57))) (pth 58)::
.gd (pth 58) true (.move (.tmp (pth 9))) (pth 59)::
.gd (pth 58) true (.move (.tmp (pth 11))) (pth 60)::
.gd (pth 58) true (.bin .eql 3 (.tmp (pth 59)) (.tmp (pth 60))) (pth 61)::
.go (.pick (.tmp (pth 58)) (.tmp (pth 61)) (.con (.bool false))) (pth 62)::
.go (.move (.tmp (pth 62))) (pth 63)::
.gd (pth 63) true (.call (.con (.func (.func 24) ⟨[]⟩ ⟨[]⟩)) []) (pth 64)::
.go (.pick (.tmp (pth 63)) (.tmp (pth 64)) (.con (.bool false))) (pth 65)::
.go (.move (.tmp (pth 65))) (pth 8)::
[])) .ret) .skip))) (.run (.go (.move (.tmp (pth 11))) (pth 48)::
.go (.bin .add 3 (.tmp (pth 48)) (.con (.int .i64 (.ofNat 1)))) (pth 49)::
.go (.move (.tmp (pth 49))) (pth 11)::
[]))))))) (.seq (.run (.go (.move (.tmp (pth 10))) (pth 66)::
.go (.bin .eql 24 (.tmp (pth 66)) (.con (.int .i64 (.ofNat 9)))) (pth 67)::
.go (.move (.tmp (pth 67))) (pth 68)::
.gd (pth 68) true (.move (.tmp (pth 9))) (pth 69)::
.gd (pth 68) true (.bin .eql 3 (.tmp (pth 69)) (.con (.int .i64 (.ofNat 0)))) (pth 70)::
.go (.pick (.tmp (pth 68)) (.tmp (pth 70)) (.con (.bool false))) (pth 71)::
.go (.move (.tmp (pth 71))) (pth 72)::
.gd (pth 72) true (.call (.con (.func (.func 24) ⟨[]⟩ ⟨[]⟩)) []) (pth 73)::
.go (.pick (.tmp (pth 72)) (.tmp (pth 73)) (.con (.bool false))) (pth 74)::
.go (.move (.tmp (pth 74))) (pth 8)::
[])) .ret)))))
theorem de7 : @compF Try.prog (Gl.none Try.prog) Try.f7 4 = .mk d7 (mkTT 75) [(pth 0),(pth 1),(pth 2),(pth 3)] [.tmp (pth 8)] := by kernel_rfl
theorem dg7 : Try.prog.funcs[7]? = some Try.f7 := Try.func7
theorem do7 : okF Try.prog Try.f7 = true := by kernel_rfl
def eok (a b m n q : Int) : Prop := pr a b ∧ (0 ≤ m ∧ m ≤ b) ∧ lv n q
theorem f40_ok (a b m n q : Int) (H : Heap) : F Try.prog 40 ⟨[I a, I b, I m, .agg ⟨A2 n q⟩]⟩ H (fun v H' => Grow H H' ∧ ((¬ eok a b m n q ∧ v = .tuple ⟨[I 0, I 2]⟩) ∨ ∃ a' b' m' n' q' : Nat, a = a' ∧ b = b' ∧ m = m' ∧ n = n' ∧ q = q' ∧ a' + b' ≤ 50 ∧ m' ≤ b' ∧ n' ≤ 1000 ∧ (0 < q' ∧ q' ≤ 1000) ∧ eok a b m n q ∧
    ((∃ k : Nat, k ≤ a' ∧ lge a' b' m' k n' q' ∧ (∀ k', k' < k → ¬ lge a' b' m' k' n' q') ∧ v = .tuple ⟨[I k, I 0]⟩) ∨ ((∀ k', k' < a' + 1 → ¬ lge a' b' m' k' n' q') ∧ v = .tuple ⟨[I 0, I 9]⟩)))) := by
  refine F.entryL rfl dg40 do40 de40 rfl (by kernel_rfl) ?_
  simp only [sets]
  refine V.re [(0, I a), (1, I b), (2, I m), (3, .agg ⟨A2 n q⟩)] (N := 37) (by intro i; simp only [full_st, Full.mk]) (by simp only [Kn, gt_st, full_st, Full.mk, ↓reduceIte, reduceEqDiff, reduceLT, decide_true, and_self]) ?_
  intro t hF hA
  simp only [Kn, and_true] at hA
  (repeat first|apply V.seq|apply V.block|apply V.scope|apply V.skip|apply V.close)
  refine V.line' (by simp +contextual (disch := first|omega|simp only [nx];omega) only [D4,reduceNegSucc,reduceEq,reduceLeDiff,reduceSub,reduceAdd,D5,hF,hA,↓reduceIte,reduceEqDiff,reduceLT]; with_reducible rfl) ?_
  refine V.heap (fun X => Grow H X ∧ Bx X H.next (A2 n q) 36) ⟨?_, ?_⟩ ?_
  · (repeat first | assumption | exact Grow.refl _ | refine Grow.alloc ?_ _ | refine Grow.set ?_ (by first|omega|simp only [nx];omega) _)
  · (repeat first | assumption | exact Bx.new _ _ _ | exact Bx.newAt (by first|omega|simp only [nx];omega) | refine Bx.put (by first|omega|simp only [nx];omega) _ _ | refine Bx.alloc ?_ _ | refine Bx.set ?_ (by first|omega|simp only [nx];omega) _)
  rintro H1 ⟨g1, b1⟩
  (repeat first|apply V.seq|apply V.block|apply V.scope|apply V.skip|apply V.close)
  refine V.line' (by simp +contextual (disch := first|omega|simp only [nx];omega) only [D4,reduceNegSucc,reduceEq,reduceLeDiff,reduceSub,reduceAdd,D5,hF,hA,↓reduceIte,reduceEqDiff,reduceLT]; with_reducible rfl) ?_
  refine V.heap (fun X => Grow H1 X ∧ Bx X H1.next (A2 0 b) 53) ⟨?_, ?_⟩ ?_
  · (repeat first | assumption | exact Grow.refl _ | refine Grow.alloc ?_ _ | refine Grow.set ?_ (by first|omega|simp only [nx];omega) _)
  · (repeat first | assumption | exact Bx.new _ _ _ | exact Bx.newAt (by first|omega|simp only [nx];omega) | refine Bx.put (by first|omega|simp only [nx];omega) _ _ | refine Bx.alloc ?_ _ | refine Bx.set ?_ (by first|omega|simp only [nx];omega) _)
  rintro H2 ⟨g2, c2⟩
  have b2 := b1.grow g2
  (repeat first|apply V.seq|apply V.block|apply V.scope|apply V.skip|apply V.close)
  refine V.run ?_
  refine VI.steps' 3 (by simp +contextual (disch := first|omega|simp only [nx];omega) only [D4,reduceNegSucc,reduceEq,reduceLeDiff,reduceSub,reduceAdd,D5,hF,hA,↓reduceIte,reduceEqDiff,reduceLT]; with_reducible rfl) ?_
  simp only [ds]
  refine VI.callA rfl (f70_ok (l := [a, b]) (Sl.lit H2 [I a, I b] 3 rfl) (by simp)) (by simp only [D6,D5,hF,hA,↓reduceIte,reduceEqDiff,reduceLT]; try rfl) (fun H3 g3 => ?_)
  have g3 := ((Grow.refl H2).alloc _).trans g3
  have b3 := b2.grow g3
  have c3 := c2.grow g3
  refine VI.steps' 4 (by simp +contextual (disch := first|omega|simp only [nx];omega) only [D4,reduceNegSucc,reduceEq,reduceLeDiff,reduceSub,reduceAdd,D5,hF,hA,↓reduceIte,reduceEqDiff,reduceLT, c3.2]; with_reducible rfl) ?_
  simp only [ds]
  first | refine VI.callGt (by simp only [D5,hF,hA,↓reduceIte,reduceEqDiff,reduceLT]; rfl) (fun hc => by simp only [D6,D5,hF,hA,↓reduceIte,reduceEqDiff,reduceLT, hc, and_self, and_true, true_and, not_false_eq_true]; try rfl) (fun hc => f52_ok 0 b m _) (fun hc => by simp only [D6,D5,hF,hA,↓reduceIte,reduceEqDiff,reduceLT, hc, and_self, and_true, true_and, not_false_eq_true]; try rfl) (fun H4 g4 => ?_) | refine VI.callGf (by simp only [D5,hF,hA,↓reduceIte,reduceEqDiff,reduceLT]; rfl) (fun hc => by simp only [D6,D5,hF,hA,↓reduceIte,reduceEqDiff,reduceLT, hc, and_self, and_true, true_and, not_false_eq_true]; try rfl) (fun hc => f52_ok 0 b m _) (fun hc => by simp only [D6,D5,hF,hA,↓reduceIte,reduceEqDiff,reduceLT, hc, and_self, and_true, true_and, not_false_eq_true]; try rfl) (fun H4 g4 => ?_)
  have b4 := b3.grow g4
  refine VI.steps' 4 (by simp +contextual (disch := first|omega|simp only [nx];omega) only [D4,reduceNegSucc,reduceEq,reduceLeDiff,reduceSub,reduceAdd,D5,hF,hA,↓reduceIte,reduceEqDiff,reduceLT, b4.2]; with_reducible rfl) ?_
  simp only [ds]
  first | refine VI.callGt (by simp only [D5,hF,hA,↓reduceIte,reduceEqDiff,reduceLT]; rfl) (fun hc => by simp only [D6,D5,hF,hA,↓reduceIte,reduceEqDiff,reduceLT, hc, and_self, and_true, true_and, not_false_eq_true]; try rfl) (fun hc => f65_ok n q _) (fun hc => by simp only [D6,D5,hF,hA,↓reduceIte,reduceEqDiff,reduceLT, hc, and_self, and_true, true_and, not_false_eq_true]; try rfl) (fun H5 g5 => ?_) | refine VI.callGf (by simp only [D5,hF,hA,↓reduceIte,reduceEqDiff,reduceLT]; rfl) (fun hc => by simp only [D6,D5,hF,hA,↓reduceIte,reduceEqDiff,reduceLT, hc, and_self, and_true, true_and, not_false_eq_true]; try rfl) (fun hc => f65_ok n q _) (fun hc => by simp only [D6,D5,hF,hA,↓reduceIte,reduceEqDiff,reduceLT, hc, and_self, and_true, true_and, not_false_eq_true]; try rfl) (fun H5 g5 => ?_)
  have b5 := b4.grow g5
  have g05 := (((g1.trans g2).trans g3).trans g4).trans g5
  refine VI.line' (by simp +contextual (disch := first|omega|simp only [nx];omega) only [D4,reduceNegSucc,reduceEq,reduceLeDiff,reduceSub,reduceAdd,D5,hF,hA,↓reduceIte,reduceEqDiff,reduceLT]; with_reducible rfl) ?_
  (repeat first|apply V.seq|apply V.block|apply V.scope|apply V.skip|apply V.close)
  by_cases hok : eok a b m n q
  · have hok' := hok
    obtain ⟨⟨⟨p1, p2⟩, ⟨p3, p4⟩, p5⟩, ⟨p6, p7⟩, ⟨p8, p9⟩, p10, p11⟩ := hok
    refine V.condP (by simp only [D6,D5,hF,hA,↓reduceIte,reduceEqDiff,reduceLT]; rfl) (fun h => ?_) (fun h => ?_)
    · exact absurd h (by simp [ap, lv]; omega)
    obtain ⟨a, rfl⟩ : ∃ k : Nat, a = k := ⟨a.toNat, by omega⟩
    obtain ⟨b, rfl⟩ : ∃ k : Nat, b = k := ⟨b.toNat, by omega⟩
    obtain ⟨m, rfl⟩ : ∃ k : Nat, m = k := ⟨m.toNat, by omega⟩
    obtain ⟨n, rfl⟩ : ∃ k : Nat, n = k := ⟨n.toNat, by omega⟩
    obtain ⟨q, rfl⟩ : ∃ k : Nat, q = k := ⟨q.toNat, by omega⟩
    (repeat first|apply V.seq|apply V.block|apply V.scope|apply V.skip|apply V.close)
    refine V.run ?_
    refine VI.steps' 5 (by simp +contextual (disch := first|omega|simp only [nx];omega) only [D4,reduceNegSucc,reduceEq,reduceLeDiff,reduceSub,reduceAdd,D5,hF,hA,↓reduceIte,reduceEqDiff,reduceLT, b5.2]; with_reducible rfl) ?_
    simp only [ds]
    refine VI.callR (by simp only [D6,D5,hF,hA,↓reduceIte,reduceEqDiff,reduceLT]; try rfl) (f71_ok (a := a) (b := b) (m := m) (n := n) (q := q) (by omega) (by omega) (by omega) (by omega) _) (by simp only [D6,D5,hF,hA,↓reduceIte,reduceEqDiff,reduceLT]; try rfl) (fun v6 H6 ⟨g6, o6⟩ => ?_)
    rcases o6 with ⟨k, h1, h2, h3, rfl⟩ | ⟨h1, rfl⟩
    · refine VI.line' (by simp +contextual (disch := first|omega|simp only [nx];omega) only [D4,reduceNegSucc,reduceEq,reduceLeDiff,reduceSub,reduceAdd,D5,hF,hA,↓reduceIte,reduceEqDiff,reduceLT]; with_reducible rfl) ?_
      (repeat first|apply V.seq|apply V.block|apply V.scope|apply V.skip|apply V.close)
      refine V.ret (V.rets rfl (Lv.retF (by simp +contextual (disch := first|omega|simp only [nx];omega) only [D1, cells_alloc_at, cells_alloc_ne, cells_set_at, cells_set_ne, yres, yres1, yresL, reduceLeDiff, reduceSub, reduceAdd, D5,hF,hA,↓reduceIte,reduceEqDiff,reduceLT]; rfl) ?_))
      exact ⟨g05.trans g6, .inr ⟨a, b, m, n, q, rfl, rfl, rfl, rfl, rfl, by omega, by omega, by omega, by omega, hok', .inl ⟨k, h1, h2, h3, rfl⟩⟩⟩
    · refine VI.line' (by simp +contextual (disch := first|omega|simp only [nx];omega) only [D4,reduceNegSucc,reduceEq,reduceLeDiff,reduceSub,reduceAdd,D5,hF,hA,↓reduceIte,reduceEqDiff,reduceLT]; with_reducible rfl) ?_
      (repeat first|apply V.seq|apply V.block|apply V.scope|apply V.skip|apply V.close)
      refine V.ret (V.rets rfl (Lv.retF (by simp +contextual (disch := first|omega|simp only [nx];omega) only [D1, cells_alloc_at, cells_alloc_ne, cells_set_at, cells_set_ne, yres, yres1, yresL, reduceLeDiff, reduceSub, reduceAdd, D5,hF,hA,↓reduceIte,reduceEqDiff,reduceLT]; rfl) ?_))
      exact ⟨g05.trans g6, .inr ⟨a, b, m, n, q, rfl, rfl, rfl, rfl, rfl, by omega, by omega, by omega, by omega, hok', .inr ⟨h1, rfl⟩⟩⟩
  · refine V.condP (by simp only [D6,D5,hF,hA,↓reduceIte,reduceEqDiff,reduceLT]; rfl) (fun h => ?_) (fun h => ?_)
    rotate_left
    · refine absurd ?_ h
      by_cases q1 : pr a b
      · by_cases q2 : 0 ≤ m ∧ m ≤ b
        · have q3 : ¬ lv n q := fun x => hok ⟨q1, q2, x⟩
          simp [q3]
        · simp [q2]
      · have q1' : ¬ ap [a, b] := fun x => q1 (by simp [ap] at x; unfold pr; omega)
        simp [q1']
    (repeat first|apply V.seq|apply V.block|apply V.scope|apply V.skip|apply V.close)
    refine V.line' (by simp +contextual (disch := first|omega|simp only [nx];omega) only [D4,reduceNegSucc,reduceEq,reduceLeDiff,reduceSub,reduceAdd,D5,hF,hA,↓reduceIte,reduceEqDiff,reduceLT]; with_reducible rfl) ?_
    (repeat first|apply V.seq|apply V.block|apply V.scope|apply V.skip|apply V.close)
    refine V.ret (V.rets rfl (Lv.retF (by simp +contextual (disch := first|omega|simp only [nx];omega) only [D1, cells_alloc_at, cells_alloc_ne, cells_set_at, cells_set_ne, yres, yres1, yresL, reduceLeDiff, reduceSub, reduceAdd, D5,hF,hA,↓reduceIte,reduceEqDiff,reduceLT]; rfl) ?_))
    exact ⟨g05, .inl ⟨hok, rfl⟩⟩
theorem f7_ok {a b m n q : Int} {H : Heap} : F Try.prog 7 ⟨[I a, I b, I m, .agg ⟨A2 n q⟩]⟩ H (fun w _ => w = .bool true) := by
  refine F.entryL rfl dg7 do7 de7 rfl (by kernel_rfl) ?_
  simp only [sets]
  refine V.re [(0, I a), (1, I b), (2, I m), (3, .agg ⟨A2 n q⟩)] (N := 75) (by intro i; simp only [full_st, Full.mk]) (by simp only [Kn, gt_st, full_st, Full.mk, ↓reduceIte, reduceEqDiff, reduceLT, decide_true, and_self]) ?_
  intro t hF hA
  simp only [Kn, and_true] at hA
  (repeat first|apply V.seq|apply V.block|apply V.scope|apply V.skip|apply V.close)
  refine V.line' (by simp +contextual (disch := first|omega|simp only [nx];omega) only [D4,reduceNegSucc,reduceEq,reduceLeDiff,reduceSub,reduceAdd,D5,hF,hA,↓reduceIte,reduceEqDiff,reduceLT]; with_reducible rfl) ?_
  refine V.heap (fun X => Grow H X ∧ Bx X H.next (A2 n q) 41) ⟨?_, ?_⟩ ?_
  · (repeat first | assumption | exact Grow.refl _ | refine Grow.alloc ?_ _ | refine Grow.set ?_ (by first|omega|simp only [nx];omega) _)
  · (repeat first | assumption | exact Bx.new _ _ _ | exact Bx.newAt (by first|omega|simp only [nx];omega) | refine Bx.put (by first|omega|simp only [nx];omega) _ _ | refine Bx.alloc ?_ _ | refine Bx.set ?_ (by first|omega|simp only [nx];omega) _)
  rintro H1 ⟨g1, b1⟩
  (repeat first|apply V.seq|apply V.block|apply V.scope|apply V.skip|apply V.close)
  refine V.run ?_
  refine VI.steps' 4 (by simp +contextual (disch := first|omega|simp only [nx];omega) only [D4,reduceNegSucc,reduceEq,reduceLeDiff,reduceSub,reduceAdd,D5,hF,hA,↓reduceIte,reduceEqDiff,reduceLT, b1.2]; with_reducible rfl) ?_
  simp only [ds]
  refine VI.callA rfl (f28_ok n q _) (by simp only [D6,D5,hF,hA,↓reduceIte,reduceEqDiff,reduceLT]; try rfl) (fun H2 g2 => ?_)
  refine VI.callR (by simp only [D6,D5,hF,hA,↓reduceIte,reduceEqDiff,reduceLT]; try rfl) (f40_ok a b m n q _) (by simp only [D6,D5,hF,hA,↓reduceIte,reduceEqDiff,reduceLT]; try rfl) (fun v3 H3 ⟨g3, o3⟩ => ?_)
  have b3 := b1.grow (g2.trans g3)
  obtain ⟨k0, e, hv3, ho⟩ : ∃ k0 e : Int, v3 = .tuple ⟨[I k0, I e]⟩ ∧ ((¬ eok a b m n q ∧ k0 = 0 ∧ e = 2) ∨ ∃ a' b' m' n' q' : Nat, a = a' ∧ b = b' ∧ m = m' ∧ n = n' ∧ q = q' ∧ a' + b' ≤ 50 ∧ m' ≤ b' ∧ n' ≤ 1000 ∧ (0 < q' ∧ q' ≤ 1000) ∧ eok a b m n q ∧
    ((∃ k : Nat, k ≤ a' ∧ lge a' b' m' k n' q' ∧ (∀ k', k' < k → ¬ lge a' b' m' k' n' q') ∧ k0 = k ∧ e = 0) ∨ ((∀ k', k' < a' + 1 → ¬ lge a' b' m' k' n' q') ∧ k0 = 0 ∧ e = 9))) := by
    rcases o3 with ⟨h1, h⟩ | ⟨a', b', m', n', q', h1, h2, h3, h4, h5, h6, h7, h8, h9, h10, ⟨k, i1, i2, i3, h⟩ | ⟨i1, h⟩⟩
    · exact ⟨_, _, h, .inl ⟨h1, rfl, rfl⟩⟩
    · exact ⟨_, _, h, .inr ⟨a', b', m', n', q', h1, h2, h3, h4, h5, h6, h7, h8, h9, h10, .inl ⟨k, i1, i2, i3, rfl, rfl⟩⟩⟩
    · exact ⟨_, _, h, .inr ⟨a', b', m', n', q', h1, h2, h3, h4, h5, h6, h7, h8, h9, h10, .inr ⟨i1, rfl, rfl⟩⟩⟩
  clear o3
  subst hv3
  refine VI.line' (by simp +contextual (disch := first|omega|simp only [nx];omega) only [D4,reduceNegSucc,reduceEq,reduceLeDiff,reduceSub,reduceAdd,D5,hF,hA,↓reduceIte,reduceEqDiff,reduceLT]; with_reducible rfl) ?_
  (repeat first|apply V.seq|apply V.block|apply V.scope|apply V.skip|apply V.close)
  refine V.re [(0, I a), (1, I b), (2, I m), (7, PT H.next), (9, I k0), (10, I e)] (N := 75) (by intro i; simp only [full_st, hF]) (by simp only [Kn, D5,hF,hA,↓reduceIte,reduceEqDiff,reduceLT, and_self, and_true, true_and]; try (repeat' constructor)) ?_
  clear hF hA
  intro t hF hA
  simp only [Kn, and_true] at hA
  refine V.run ?_
  refine VI.steps' 2 (by simp +contextual (disch := first|omega|simp only [nx];omega) only [D4,reduceNegSucc,reduceEq,reduceLeDiff,reduceSub,reduceAdd,D5,hF,hA,↓reduceIte,reduceEqDiff,reduceLT]; with_reducible rfl) ?_
  simp only [ds]
  refine VI.callA rfl (f41_ok a b _) (by simp only [D6,D5,hF,hA,↓reduceIte,reduceEqDiff,reduceLT]; try rfl) (fun H4 g4 => ?_)
  have b4 := b3.grow g4
  refine VI.steps' 4 (by simp +contextual (disch := first|omega|simp only [nx];omega) only [D4,reduceNegSucc,reduceEq,reduceLeDiff,reduceSub,reduceAdd,D5,hF,hA,↓reduceIte,reduceEqDiff,reduceLT]; with_reducible rfl) ?_
  simp only [ds]
  first | refine VI.callGt (by simp only [D5,hF,hA,↓reduceIte,reduceEqDiff,reduceLT]; rfl) (fun hc => by simp only [D6,D5,hF,hA,↓reduceIte,reduceEqDiff,reduceLT, hc, and_self, and_true, true_and, not_false_eq_true]; try rfl) (fun hc => f23_ok m 0 b _) (fun hc => by simp only [D6,D5,hF,hA,↓reduceIte,reduceEqDiff,reduceLT, hc, and_self, and_true, true_and, not_false_eq_true]; try rfl) (fun H5 g5 => ?_) | refine VI.callGf (by simp only [D5,hF,hA,↓reduceIte,reduceEqDiff,reduceLT]; rfl) (fun hc => by simp only [D6,D5,hF,hA,↓reduceIte,reduceEqDiff,reduceLT, hc, and_self, and_true, true_and, not_false_eq_true]; try rfl) (fun hc => f23_ok m 0 b _) (fun hc => by simp only [D6,D5,hF,hA,↓reduceIte,reduceEqDiff,reduceLT, hc, and_self, and_true, true_and, not_false_eq_true]; try rfl) (fun H5 g5 => ?_)
  have b5 := b4.grow g5
  refine VI.steps' 4 (by simp +contextual (disch := first|omega|simp only [nx];omega) only [D4,reduceNegSucc,reduceEq,reduceLeDiff,reduceSub,reduceAdd,D5,hF,hA,↓reduceIte,reduceEqDiff,reduceLT, b5.2]; with_reducible rfl) ?_
  simp only [ds]
  first | refine VI.callGt (by simp only [D5,hF,hA,↓reduceIte,reduceEqDiff,reduceLT]; rfl) (fun hc => by simp only [D6,D5,hF,hA,↓reduceIte,reduceEqDiff,reduceLT, hc, and_self, and_true, true_and, not_false_eq_true]; try rfl) (fun hc => f36_ok n q _) (fun hc => by simp only [D6,D5,hF,hA,↓reduceIte,reduceEqDiff,reduceLT, hc, and_self, and_true, true_and, not_false_eq_true]; try rfl) (fun H6 g6 => ?_) | refine VI.callGf (by simp only [D5,hF,hA,↓reduceIte,reduceEqDiff,reduceLT]; rfl) (fun hc => by simp only [D6,D5,hF,hA,↓reduceIte,reduceEqDiff,reduceLT, hc, and_self, and_true, true_and, not_false_eq_true]; try rfl) (fun hc => f36_ok n q _) (fun hc => by simp only [D6,D5,hF,hA,↓reduceIte,reduceEqDiff,reduceLT, hc, and_self, and_true, true_and, not_false_eq_true]; try rfl) (fun H6 g6 => ?_)
  have b6 := b5.grow g6
  refine VI.line' (by simp +contextual (disch := first|omega|simp only [nx];omega) only [D4,reduceNegSucc,reduceEq,reduceLeDiff,reduceSub,reduceAdd,D5,hF,hA,↓reduceIte,reduceEqDiff,reduceLT]; with_reducible rfl) ?_
  (repeat first|apply V.seq|apply V.block|apply V.scope|apply V.skip|apply V.close)
  rcases ho with ⟨hok, rfl, rfl⟩ | ⟨a, b, m, n, q, rfl, rfl, rfl, rfl, rfl, k1, k2, k3, k4, hok, ho⟩
  · refine V.condP (by simp only [D6,D5,hF,hA,↓reduceIte,reduceEqDiff,reduceLT]; rfl) (fun h => ?_) (fun h => ?_)
    rotate_left
    · refine absurd ?_ h
      by_cases q1 : pr a b
      · by_cases q2 : 0 ≤ m ∧ m ≤ b
        · have q3 : ¬ lv n q := fun x => hok ⟨q1, q2, x⟩
          simp [q3]
        · simp [q2]
      · simp [q1]
    (repeat first|apply V.seq|apply V.block|apply V.scope|apply V.skip|apply V.close)
    refine V.run ?_
    refine VI.steps' 7 (by simp +contextual (disch := first|omega|simp only [nx];omega) only [D4,reduceNegSucc,reduceEq,reduceLeDiff,reduceSub,reduceAdd,D5,hF,hA,↓reduceIte,reduceEqDiff,reduceLT]; with_reducible rfl) ?_
    simp only [ds]
    refine VI.callAT (by simp only [D5,hF,hA,↓reduceIte,reduceEqDiff,reduceLT]; try rfl) rfl (f24_ok _) (by simp only [D6,D5,hF,hA,↓reduceIte,reduceEqDiff,reduceLT]; try rfl) (fun H7 g7 => ?_)
    refine VI.line' (by simp +contextual (disch := first|omega|simp only [nx];omega) only [D4,reduceNegSucc,reduceEq,reduceLeDiff,reduceSub,reduceAdd,D5,hF,hA,↓reduceIte,reduceEqDiff,reduceLT]; with_reducible rfl) ?_
    (repeat first|apply V.seq|apply V.block|apply V.scope|apply V.skip|apply V.close)
    refine V.ret (V.rets rfl (Lv.retF (by simp +contextual (disch := first|omega|simp only [nx];omega) only [D1, cells_alloc_at, cells_alloc_ne, cells_set_at, cells_set_ne, yres, yres1, yresL, reduceLeDiff, reduceSub, reduceAdd, D5,hF,hA,↓reduceIte,reduceEqDiff,reduceLT]; rfl) ?_))
    rfl
  · obtain ⟨q1, q2, q3⟩ := hok
    refine V.condP (by simp only [D6,D5,hF,hA,↓reduceIte,reduceEqDiff,reduceLT]; rfl) (fun h => ?_) (fun h => ?_)
    · exact absurd h (by simp [q1, q3]; omega)
    (repeat first|apply V.seq|apply V.block|apply V.scope|apply V.skip|apply V.close)
    refine V.line' (by simp +contextual (disch := first|omega|simp only [nx];omega) only [D4,reduceNegSucc,reduceEq,reduceLeDiff,reduceSub,reduceAdd,D5,hF,hA,↓reduceIte,reduceEqDiff,reduceLT]; with_reducible rfl) ?_
    (repeat first|apply V.seq|apply V.block|apply V.scope|apply V.skip|apply V.close)
    refine V.re [(0, I a), (1, I b), (2, I m), (7, PT H.next), (9, I k0), (10, I e), (11, I 0)] (N := 75) (by intro i; simp only [full_st, hF]) (by simp only [Kn, D5,hF,hA,↓reduceIte,reduceEqDiff,reduceLT, and_self, and_true, true_and]; try (repeat' constructor)) ?_
    clear hF hA
    intro t hF hA
    simp only [Kn, and_true] at hA
    refine V.loop (fun r t m' X => ∃ k : Nat, k ≤ a + 1 ∧ r = a + 1 - k ∧ (∀ k', k' < k → ¬ lge a b m k' n q) ∧ m' = [] ∧ Grow H6 X ∧ Full 75 t ∧ Kn [(0, I a), (1, I b), (2, I m), (7, PT H.next), (9, I k0), (10, I e), (11, I k)] t) (a + 1) ?_ ?_
    · exact ⟨0, by omega, by omega, fun k' h => absurd h (by omega), rfl, .refl _, (by intro i; simp only [full_st, hF]), (by simp only [Kn, D5,hF,hA,↓reduceIte,reduceEqDiff,reduceLT, and_self, and_true, true_and]; try (repeat' constructor))⟩
    clear hF hA
    rintro r t m' X ⟨k, hk, rfl, hall, rfl, hg, hF, hA⟩
    simp only [Kn, and_true] at hA
    have bx := b6.grow hg
    (repeat first|apply V.seq|apply V.block|apply V.scope|apply V.skip|apply V.close)
    refine V.line' (by simp +contextual (disch := first|omega|simp only [nx];omega) only [D4,reduceNegSucc,reduceEq,reduceLeDiff,reduceSub,reduceAdd,D5,hF,hA,↓reduceIte,reduceEqDiff,reduceLT]; with_reducible rfl) ?_
    (repeat first|apply V.seq|apply V.block|apply V.scope|apply V.skip|apply V.close)
    refine V.condP (by simp only [D6,D5,hF,hA,↓reduceIte,reduceEqDiff,reduceLT]; rfl) (fun hlt => ?_) (fun hlt => ?_)
    · have hka : k ≤ a := by omega
      have ek : (k : Int) + 1 = ((k + 1 : Nat) : Int) := rfl
      (repeat first|apply V.seq|apply V.block|apply V.scope|apply V.skip|apply V.close)
      refine V.run ?_
      refine VI.steps' 5 (by simp +contextual (disch := first|omega|simp only [nx];omega) only [D4,reduceNegSucc,reduceEq,reduceLeDiff,reduceSub,reduceAdd,D5,hF,hA,↓reduceIte,reduceEqDiff,reduceLT, bx.2]; with_reducible rfl) ?_
      simp only [ds]
      refine VI.callA rfl (f42_ok (a := a) (b := b) (m := m) (k := k) (n := n) (q := q) k1 k2 hka k3 k4 _) (by simp only [D6,D5,hF,hA,↓reduceIte,reduceEqDiff,reduceLT]; try rfl) (fun X1 gx1 => ?_)
      refine VI.line' (by simp +contextual (disch := first|omega|simp only [nx];omega) only [D4,reduceNegSucc,reduceEq,reduceLeDiff,reduceSub,reduceAdd,D5,hF,hA,↓reduceIte,reduceEqDiff,reduceLT]; with_reducible rfl) ?_
      (repeat first|apply V.seq|apply V.block|apply V.scope|apply V.skip|apply V.close)
      refine V.condP (by simp only [D6,D5,hF,hA,↓reduceIte,reduceEqDiff,reduceLT]; rfl) (fun hl => ?_) (fun hl => ?_)
      · have hke : k0 = k ∧ e = 0 := by
          rcases ho with ⟨k', i1, i2, i3, i4, i5⟩ | ⟨i1, _⟩
          · refine ⟨?_, i5⟩
            rw [i4]
            rcases Nat.lt_trichotomy k k' with h1 | h1 | h1
            · exact absurd hl (i3 k h1)
            · rw [h1]
            · exact absurd i2 (hall k' h1)
          · exact absurd hl (i1 k (by omega))
        obtain ⟨rfl, rfl⟩ := hke
        (repeat first|apply V.seq|apply V.block|apply V.scope|apply V.skip|apply V.close)
        refine V.run ?_
        refine VI.steps' 8 (by simp +contextual (disch := first|omega|simp only [nx];omega) only [D4,reduceNegSucc,reduceEq,reduceLeDiff,reduceSub,reduceAdd,D5,hF,hA,↓reduceIte,reduceEqDiff,reduceLT]; with_reducible rfl) ?_
        simp only [ds]
        refine VI.callAT (by simp only [D5,hF,hA,↓reduceIte,reduceEqDiff,reduceLT]; try rfl) rfl (f24_ok _) (by simp only [D6,D5,hF,hA,↓reduceIte,reduceEqDiff,reduceLT]; try rfl) (fun X2 gx2 => ?_)
        refine VI.line' (by simp +contextual (disch := first|omega|simp only [nx];omega) only [D4,reduceNegSucc,reduceEq,reduceLeDiff,reduceSub,reduceAdd,D5,hF,hA,↓reduceIte,reduceEqDiff,reduceLT]; with_reducible rfl) ?_
        (repeat first|apply V.seq|apply V.block|apply V.scope|apply V.skip|apply V.close)
        refine V.ret (V.rets rfl (Or.inr ⟨by simp, V.rets rfl (Lv.retF (by simp +contextual (disch := first|omega|simp only [nx];omega) only [D1, cells_alloc_at, cells_alloc_ne, cells_set_at, cells_set_ne, yres, yres1, yresL, reduceLeDiff, reduceSub, reduceAdd, D5,hF,hA,↓reduceIte,reduceEqDiff,reduceLT]; rfl) ?_)⟩))
        rfl
      · (repeat first|apply V.seq|apply V.block|apply V.scope|apply V.skip|apply V.close)
        refine V.line' (by simp +contextual (disch := first|omega|simp only [nx];omega) only [D4,reduceNegSucc,reduceEq,reduceLeDiff,reduceSub,reduceAdd,D5,hF,hA,↓reduceIte,reduceEqDiff,reduceLT, ek]; with_reducible rfl) ?_
        refine V.nil (Or.inl ⟨rfl, a + 1 - (k + 1), by omega, ?_⟩)
        refine ⟨k + 1, by omega, rfl, fun k' h1 => ?_, rfl, hg.trans gx1, (by intro i; simp only [full_st, hF]), (by simp only [Kn, D5,hF,hA,↓reduceIte,reduceEqDiff,reduceLT, and_self, and_true, true_and]; try (repeat' constructor))⟩
        rcases Nat.lt_or_ge k' k with h2 | h2
        · exact hall k' h2
        · obtain rfl : k' = k := by omega
          exact hl
    · obtain rfl : k = a + 1 := by omega
      have hke : k0 = 0 ∧ e = 9 := by
        rcases ho with ⟨k', i1, i2, _⟩ | ⟨_, i2⟩
        · exact absurd i2 (hall k' (by omega))
        · exact i2
      obtain ⟨rfl, rfl⟩ := hke
      refine V.exit ?_
      (repeat first | refine V.pass ?_ | refine V.here ?_ | refine V.out (by decide) ?_)
      refine V.nil (Or.inr ⟨by simp, ?_⟩)
      (repeat first | refine V.pass ?_ | refine V.here ?_ | refine V.out (by decide) ?_)
      (repeat first|apply V.seq|apply V.block|apply V.scope|apply V.skip|apply V.close)
      refine V.run ?_
      refine VI.steps' 7 (by simp +contextual (disch := first|omega|simp only [nx];omega) only [D4,reduceNegSucc,reduceEq,reduceLeDiff,reduceSub,reduceAdd,D5,hF,hA,↓reduceIte,reduceEqDiff,reduceLT]; with_reducible rfl) ?_
      simp only [ds]
      refine VI.callAT (by simp only [D5,hF,hA,↓reduceIte,reduceEqDiff,reduceLT]; try rfl) rfl (f24_ok _) (by simp only [D6,D5,hF,hA,↓reduceIte,reduceEqDiff,reduceLT]; try rfl) (fun X2 gx2 => ?_)
      refine VI.line' (by simp +contextual (disch := first|omega|simp only [nx];omega) only [D4,reduceNegSucc,reduceEq,reduceLeDiff,reduceSub,reduceAdd,D5,hF,hA,↓reduceIte,reduceEqDiff,reduceLT]; with_reducible rfl) ?_
      (repeat first|apply V.seq|apply V.block|apply V.scope|apply V.skip|apply V.close)
      refine V.ret (V.rets rfl (Lv.retF (by simp +contextual (disch := first|omega|simp only [nx];omega) only [D1, cells_alloc_at, cells_alloc_ne, cells_set_at, cells_set_ne, yres, yres1, yresL, reduceLeDiff, reduceSub, reduceAdd, D5,hF,hA,↓reduceIte,reduceEqDiff,reduceLT]; rfl) ?_))
      rfl
end Go.Xe.TMX
