/- What functions of the layer age come to: what a rule writes. Conditions: none. -/
import Derived.Test.YtefoodhfkkcmcaaZm
import Derived.Test.YtefoodhfkkcmcaaTAC
-- MOD TA
namespace Go.Xe.TAX
open Go Go.Xe Go.Proofs
set_option maxRecDepth 100000
set_option maxHeartbeats 1600000
set_option linter.unusedSimpArgs false
noncomputable def d91 : FCode := (.seq (.run (.go (.box 28 (.tmp (pth 0))) (pth 1) ::
.go (.alloc 140 [.nilFunc]) (pth 2) ::
[])) (.seq (.seq (.run (.go (.fieldAddr 2 (.tmp (pth 1))) (pth 3) ::
.go (.load1 (.tmp (pth 3))) (pth 4) ::
.go (.bin .eql 3 (.tmp (pth 4)) (.con (.int .i64 (.ofNat 1)))) (pth 5) ::
[])) (.cond (.tmp (pth 5)) (.seq (.run (.go (.build [.nilFunc] [(0,1,(.con (.func (.func 102) ⟨[]⟩ ⟨[]⟩)))]) (pth 6) ::
.un (.store 1 (.tmp (pth 2)) (.tmp (pth 6))) ::
[])) .ret) .skip)) (.seq (.run (.go (.build [.nilFunc] [(0,1,(.con (.func (.func 103) ⟨[]⟩ ⟨[]⟩)))]) (pth 7) ::
.un (.store 1 (.tmp (pth 2)) (.tmp (pth 7))) ::
[])) .ret)))
theorem de91 : @compF Try.prog (Gl.none Try.prog) Try.f91 1 = .mk d91 (mkTT 8) [(pth 0)] [.many (pth 2) 1] := by kernel_rfl
theorem dg91 : Try.prog.funcs[91]? = some Try.f91 := Try.func91
theorem do91 : okF Try.prog Try.f91 = true := by kernel_rfl
noncomputable def d66 : FCode := (.seq (.run (.go (.box 28 (.tmp (pth 0))) (pth 2) ::
.go (.move (.con (.int .i64 (.ofNat 0)))) (pth 4) ::
[])) (.seq (.seq (.run (.go (.move (.tmp (pth 1))) (pth 5) ::
.go (.fieldAddr 0 (.tmp (pth 2))) (pth 6) ::
.go (.load1 (.tmp (pth 6))) (pth 7) ::
.go (.bin .lss 3 (.tmp (pth 5)) (.tmp (pth 7))) (pth 8) ::
[])) (.cond (.tmp (pth 8)) (.seq (.run (.go (.move (.tmp (pth 1))) (pth 9) ::
.go (.move (.tmp (pth 9))) (pth 4) ::
[])) .ret) .skip)) (.seq (.draw 7 (.go (.loadN 4 (.tmp (pth 2))) (pth 10) ::
.go (.call (.con (.func (.func 91) ⟨[]⟩ ⟨[]⟩)) [(.tmp (pth 10))]) (pth 11) ::
.go (.field1 0 (.tmp (pth 11))) (pth 12) ::
.go (.loadN 4 (.tmp (pth 2))) (pth 13) ::
.go (.move (.tmp (pth 1))) (pth 14) ::
.go (.call (.tmp (pth 12)) [(.tmp (pth 13)),(.tmp (pth 14))]) (pth 15) ::
.go (.move (.tmp (pth 15))) (pth 4) ::
[]) [.ok,.ok,.ok,.rd none (.loadN 4 (.tmp (pth 2))) (some (pth 13)) [0],.ok,.ok,.ok]) .ret)))
theorem de66 : @compF Try.prog (Gl.none Try.prog) Try.f66 2 = .mk d66 (mkTT 16) [(pth 0),(pth 1)] [.tmp (pth 4)] := by kernel_rfl
theorem dg66 : Try.prog.funcs[66]? = some Try.f66 := Try.func66
theorem do66 : okF Try.prog Try.f66 = true := by kernel_rfl
theorem f91_ok (a b c d : Int) (H : Heap) : Gives Try.prog 91 [.agg ⟨R4 a b c d⟩] H (.agg ⟨[.func (.func (if c = 1 then 102 else 103)) ⟨[]⟩ ⟨[]⟩]⟩) := by
  refine F.entryL rfl dg91 do91 de91 rfl (by kernel_rfl) ?_
  simp only [sets]
  refine V.re [(0, .agg ⟨R4 a b c d⟩)] (N := 8) (by intro i; simp only [full_st, Full.mk]) (by simp only [Kn, gt_st, full_st, Full.mk, reduceIte, Nat.reduceEqDiff, Nat.reduceLT, decide_true, and_self]) ?_
  intro t hF hA
  simp only [Kn, and_true] at hA
  (repeat first | refine V.seq ?_ | refine V.block ?_ | refine V.scope ?_ | refine V.skip ?_ | refine V.close ?_)
  refine V.line' (by simp (maxSteps := 1000000) (disch := (first | omega | (simp only [Heap.next_alloc, Heap.next_set]; omega))) only [D2, mm_max, mm_min, cells_alloc_at, cells_alloc_ne, cells_set_at, cells_set_ne, dop, dA, sets, yfield1, yfieldN, yfieldAddr, Int.reduceNegSucc, Int.reduceEq, Nat.reduceLeDiff, Nat.reduceSub, Nat.reduceAdd, gt_st, full_st, hF, hA, reduceIte, Nat.reduceEqDiff, Nat.reduceLT, decide_true, decide_false, Bool.false_eq_true]; with_reducible rfl) ?_
  (repeat first | refine V.seq ?_ | refine V.block ?_ | refine V.scope ?_ | refine V.skip ?_ | refine V.close ?_)
  refine V.line' (by simp (maxSteps := 1000000) (disch := (first | omega | (simp only [Heap.next_alloc, Heap.next_set]; omega))) only [D2, mm_max, mm_min, cells_alloc_at, cells_alloc_ne, cells_set_at, cells_set_ne, dop, dA, sets, yfield1, yfieldN, yfieldAddr, Int.reduceNegSucc, Int.reduceEq, Nat.reduceLeDiff, Nat.reduceSub, Nat.reduceAdd, gt_st, full_st, hF, hA, reduceIte, Nat.reduceEqDiff, Nat.reduceLT, decide_true, decide_false, Bool.false_eq_true]; with_reducible rfl) ?_
  (repeat first | refine V.seq ?_ | refine V.block ?_ | refine V.scope ?_ | refine V.skip ?_ | refine V.close ?_)
  refine V.condP (by simp only [dA, gt_st, full_st, hF, hA, reduceIte, Nat.reduceEqDiff, Nat.reduceLT, decide_true, decide_false, Bool.false_eq_true]; rfl) (fun h1 => ?_) (fun h1 => ?_)
  · (repeat first | refine V.seq ?_ | refine V.block ?_ | refine V.scope ?_ | refine V.skip ?_ | refine V.close ?_)
    refine V.line' (by simp (maxSteps := 1000000) (disch := (first | omega | (simp only [Heap.next_alloc, Heap.next_set]; omega))) only [D2, mm_max, mm_min, cells_alloc_at, cells_alloc_ne, cells_set_at, cells_set_ne, dop, dA, sets, yfield1, yfieldN, yfieldAddr, Int.reduceNegSucc, Int.reduceEq, Nat.reduceLeDiff, Nat.reduceSub, Nat.reduceAdd, gt_st, full_st, hF, hA, reduceIte, Nat.reduceEqDiff, Nat.reduceLT, decide_true, decide_false, Bool.false_eq_true]; with_reducible rfl) ?_
    (repeat first | refine V.seq ?_ | refine V.block ?_ | refine V.scope ?_ | refine V.skip ?_ | refine V.close ?_)
    refine V.ret (V.rets rfl (Lv.retG (by simp (disch := (first | omega | (simp only [Heap.next_alloc, Heap.next_set]; omega))) only [D1, cells_alloc_at, cells_alloc_ne, cells_set_at, cells_set_ne, yres, yres1, yresL, Nat.reduceLeDiff, Nat.reduceSub, Nat.reduceAdd, gt_st, full_st, hF, hA, reduceIte, Nat.reduceEqDiff, Nat.reduceLT, decide_true, decide_false, Bool.false_eq_true]; rfl) ?_ ?_))
    · (repeat first | assumption | exact Grow.refl _ | refine Grow.alloc ?_ _ | refine Grow.set ?_ (by first | omega | (simp only [Heap.next_alloc, Heap.next_set]; omega)) _)
    · rw [if_pos h1]
  (repeat first | refine V.seq ?_ | refine V.block ?_ | refine V.scope ?_ | refine V.skip ?_ | refine V.close ?_)
  refine V.line' (by simp (maxSteps := 1000000) (disch := (first | omega | (simp only [Heap.next_alloc, Heap.next_set]; omega))) only [D2, mm_max, mm_min, cells_alloc_at, cells_alloc_ne, cells_set_at, cells_set_ne, dop, dA, sets, yfield1, yfieldN, yfieldAddr, Int.reduceNegSucc, Int.reduceEq, Nat.reduceLeDiff, Nat.reduceSub, Nat.reduceAdd, gt_st, full_st, hF, hA, reduceIte, Nat.reduceEqDiff, Nat.reduceLT, decide_true, decide_false, Bool.false_eq_true]; with_reducible rfl) ?_
  (repeat first | refine V.seq ?_ | refine V.block ?_ | refine V.scope ?_ | refine V.skip ?_ | refine V.close ?_)
  refine V.ret (V.rets rfl (Lv.retG (by simp (disch := (first | omega | (simp only [Heap.next_alloc, Heap.next_set]; omega))) only [D1, cells_alloc_at, cells_alloc_ne, cells_set_at, cells_set_ne, yres, yres1, yresL, Nat.reduceLeDiff, Nat.reduceSub, Nat.reduceAdd, gt_st, full_st, hF, hA, reduceIte, Nat.reduceEqDiff, Nat.reduceLT, decide_true, decide_false, Bool.false_eq_true]; rfl) ?_ ?_))
  · (repeat first | assumption | exact Grow.refl _ | refine Grow.alloc ?_ _ | refine Grow.set ?_ (by first | omega | (simp only [Heap.next_alloc, Heap.next_set]; omega)) _)
  · rw [if_neg h1]
/-- What a rule writes for a known age. -/
def wr (a b c n : Int) : Int := if n < a then n else if c = 1 then n + b / 2 - (n + b / 2).tmod b else n - n.tmod b
theorem f66_ok (a b c d n : Int) (hb : 1 ≤ b ∧ b ≤ 12) (hn : 0 ≤ n ∧ n ≤ 900) (H : Heap) : Gives Try.prog 66 [.agg ⟨R4 a b c d⟩, I n] H (I (wr a b c n)) := by
  refine F.entryL rfl dg66 do66 de66 rfl (by kernel_rfl) ?_
  simp only [sets]
  refine V.re [(0, .agg ⟨R4 a b c d⟩), (1, I n)] (N := 16) (by intro i; simp only [full_st, Full.mk]) (by simp only [Kn, gt_st, full_st, Full.mk, reduceIte, Nat.reduceEqDiff, Nat.reduceLT, decide_true, and_self]) ?_
  intro t hF hA
  simp only [Kn, and_true] at hA
  (repeat first | refine V.seq ?_ | refine V.block ?_ | refine V.scope ?_ | refine V.skip ?_ | refine V.close ?_)
  refine V.line' (by simp (maxSteps := 1000000) (disch := (first | omega | (simp only [Heap.next_alloc, Heap.next_set]; omega))) only [D2, mm_max, mm_min, cells_alloc_at, cells_alloc_ne, cells_set_at, cells_set_ne, dop, dA, sets, yfield1, yfieldN, yfieldAddr, Int.reduceNegSucc, Int.reduceEq, Nat.reduceLeDiff, Nat.reduceSub, Nat.reduceAdd, gt_st, full_st, hF, hA, reduceIte, Nat.reduceEqDiff, Nat.reduceLT, decide_true, decide_false, Bool.false_eq_true]; with_reducible rfl) ?_
  (repeat first | refine V.seq ?_ | refine V.block ?_ | refine V.scope ?_ | refine V.skip ?_ | refine V.close ?_)
  refine V.line' (by simp (maxSteps := 1000000) (disch := (first | omega | (simp only [Heap.next_alloc, Heap.next_set]; omega))) only [D2, mm_max, mm_min, cells_alloc_at, cells_alloc_ne, cells_set_at, cells_set_ne, dop, dA, sets, yfield1, yfieldN, yfieldAddr, Int.reduceNegSucc, Int.reduceEq, Nat.reduceLeDiff, Nat.reduceSub, Nat.reduceAdd, gt_st, full_st, hF, hA, reduceIte, Nat.reduceEqDiff, Nat.reduceLT, decide_true, decide_false, Bool.false_eq_true]; with_reducible rfl) ?_
  (repeat first | refine V.seq ?_ | refine V.block ?_ | refine V.scope ?_ | refine V.skip ?_ | refine V.close ?_)
  refine V.condP (by simp only [dA, gt_st, full_st, hF, hA, reduceIte, Nat.reduceEqDiff, Nat.reduceLT, decide_true, decide_false, Bool.false_eq_true]; rfl) (fun h1 => ?_) (fun h1 => ?_)
  · (repeat first | refine V.seq ?_ | refine V.block ?_ | refine V.scope ?_ | refine V.skip ?_ | refine V.close ?_)
    refine V.line' (by simp (maxSteps := 1000000) (disch := (first | omega | (simp only [Heap.next_alloc, Heap.next_set]; omega))) only [D2, mm_max, mm_min, cells_alloc_at, cells_alloc_ne, cells_set_at, cells_set_ne, dop, dA, sets, yfield1, yfieldN, yfieldAddr, Int.reduceNegSucc, Int.reduceEq, Nat.reduceLeDiff, Nat.reduceSub, Nat.reduceAdd, gt_st, full_st, hF, hA, reduceIte, Nat.reduceEqDiff, Nat.reduceLT, decide_true, decide_false, Bool.false_eq_true]; with_reducible rfl) ?_
    (repeat first | refine V.seq ?_ | refine V.block ?_ | refine V.scope ?_ | refine V.skip ?_ | refine V.close ?_)
    refine V.ret (V.rets rfl (Lv.retG (by simp (disch := (first | omega | (simp only [Heap.next_alloc, Heap.next_set]; omega))) only [D1, cells_alloc_at, cells_alloc_ne, cells_set_at, cells_set_ne, yres, yres1, yresL, Nat.reduceLeDiff, Nat.reduceSub, Nat.reduceAdd, gt_st, full_st, hF, hA, reduceIte, Nat.reduceEqDiff, Nat.reduceLT, decide_true, decide_false, Bool.false_eq_true]; rfl) ?_ ?_))
    · (repeat first | assumption | exact Grow.refl _ | refine Grow.alloc ?_ _ | refine Grow.set ?_ (by first | omega | (simp only [Heap.next_alloc, Heap.next_set]; omega)) _)
    · simp only [wr, if_pos h1]
  (repeat first | refine V.seq ?_ | refine V.block ?_ | refine V.scope ?_ | refine V.skip ?_ | refine V.close ?_)
  refine V.heap (fun H2 => Grow H H2 ∧ Bx H2 H.next (R4 a b c d) 28) ⟨?_, ?_⟩ ?_
  · (repeat first | assumption | exact Grow.refl _ | refine Grow.alloc ?_ _ | refine Grow.set ?_ (by first | omega | (simp only [Heap.next_alloc, Heap.next_set]; omega)) _)
  · (repeat first | assumption | exact Bx.new _ _ _ | exact Bx.newAt (by first | omega | (simp only [Heap.next_alloc, Heap.next_set]; omega)) | refine Bx.put (by first | omega | (simp only [Heap.next_alloc, Heap.next_set]; omega)) _ _ | refine Bx.alloc ?_ _ | refine Bx.set ?_ (by first | omega | (simp only [Heap.next_alloc, Heap.next_set]; omega)) _)
  rintro H2 ⟨g2, b2⟩
  refine V.draw ?_
  refine VD.dins 1 (by simp (maxSteps := 1000000) (disch := (first | omega | (simp only [Heap.next_alloc, Heap.next_set]; omega))) only [D2, mm_max, mm_min, cells_alloc_at, cells_alloc_ne, cells_set_at, cells_set_ne, dop, dA, sets, yfield1, yfieldN, yfieldAddr, Int.reduceNegSucc, Int.reduceEq, Nat.reduceLeDiff, Nat.reduceSub, Nat.reduceAdd, gt_st, full_st, hF, hA, reduceIte, Nat.reduceEqDiff, Nat.reduceLT, decide_true, decide_false, Bool.false_eq_true, b2.2]; with_reducible rfl) ?_
  simp only [List.drop_succ_cons, List.drop_zero]
  refine VD.callA (by simp only [dA, gt_st, full_st, hF, hA, reduceIte, Nat.reduceEqDiff, Nat.reduceLT, decide_true, decide_false, Bool.false_eq_true]; try rfl) (f91_ok a b c d _) (by simp only [List.map_cons, List.map_nil, dA, gt_st, full_st, hF, hA, reduceIte, Nat.reduceEqDiff, Nat.reduceLT, decide_true, decide_false, Bool.false_eq_true, List.nil_append, List.append_nil, List.cons_append]; try rfl) (fun H3 g3 => ?_)
  have b3 := b2.grow g3
  refine VD.dins 3 (by simp (maxSteps := 1000000) (disch := (first | omega | (simp only [Heap.next_alloc, Heap.next_set]; omega))) only [D2, mm_max, mm_min, cells_alloc_at, cells_alloc_ne, cells_set_at, cells_set_ne, dop, dA, sets, yfield1, yfieldN, yfieldAddr, Int.reduceNegSucc, Int.reduceEq, Nat.reduceLeDiff, Nat.reduceSub, Nat.reduceAdd, gt_st, full_st, hF, hA, reduceIte, Nat.reduceEqDiff, Nat.reduceLT, decide_true, decide_false, Bool.false_eq_true, b3.2]; with_reducible rfl) ?_
  simp only [List.drop_succ_cons, List.drop_zero]
  by_cases h2 : c = 1
  · simp only [if_pos h2]
    refine VD.callA (by simp only [dA, gt_st, full_st, hF, hA, reduceIte, Nat.reduceEqDiff, Nat.reduceLT, decide_true, decide_false, Bool.false_eq_true]; try rfl) (f102_ok a b c d n hb hn _) (by simp only [List.map_cons, List.map_nil, dA, gt_st, full_st, hF, hA, reduceIte, Nat.reduceEqDiff, Nat.reduceLT, decide_true, decide_false, Bool.false_eq_true, List.nil_append, List.append_nil, List.cons_append]; try rfl) (fun H4 g4 => ?_)
    have b4 := b3.grow g4
    refine VD.lineD' (by simp (maxSteps := 1000000) (disch := (first | omega | (simp only [Heap.next_alloc, Heap.next_set]; omega))) only [D2, mm_max, mm_min, cells_alloc_at, cells_alloc_ne, cells_set_at, cells_set_ne, dop, dA, sets, yfield1, yfieldN, yfieldAddr, Int.reduceNegSucc, Int.reduceEq, Nat.reduceLeDiff, Nat.reduceSub, Nat.reduceAdd, gt_st, full_st, hF, hA, reduceIte, Nat.reduceEqDiff, Nat.reduceLT, decide_true, decide_false, Bool.false_eq_true]; with_reducible rfl) ?_ ?_ rfl ?_
    · simp only [monoG, List.cons_append, List.nil_append, Nat.le_refl, true_and, and_true]
      exact ⟨g3.1, g4.1⟩
    · simp only [dcAll, dcOk, wantD, List.cons_append, List.nil_append, true_and, and_true]
      exact fun _ q hq => by simp only [List.mem_cons, List.not_mem_nil, or_false] at hq; first | (subst hq; exact ⟨_, _, _, rfl, (by simp (maxSteps := 1000000) (disch := (first | omega | (simp only [Heap.next_alloc, Heap.next_set]; omega))) only [D2, mm_max, mm_min, cells_alloc_at, cells_alloc_ne, cells_set_at, cells_set_ne, dop, dA, sets, yfield1, yfieldN, yfieldAddr, Int.reduceNegSucc, Int.reduceEq, Nat.reduceLeDiff, Nat.reduceSub, Nat.reduceAdd, gt_st, full_st, hF, hA, reduceIte, Nat.reduceEqDiff, Nat.reduceLT, decide_true, decide_false, Bool.false_eq_true, b2.2, b3.2, b4.2]; with_reducible rfl), fun p hp => by cases hp; simp only [gt_st, full_st, hF, hA, reduceIte, Nat.reduceEqDiff, Nat.reduceLT, decide_true, decide_false, Bool.false_eq_true]; first | exact vEq_An | simp [vEq, vEq0, all2]⟩) | (rcases hq with rfl | rfl <;> exact ⟨_, _, _, rfl, (by simp (maxSteps := 1000000) (disch := (first | omega | (simp only [Heap.next_alloc, Heap.next_set]; omega))) only [D2, mm_max, mm_min, cells_alloc_at, cells_alloc_ne, cells_set_at, cells_set_ne, dop, dA, sets, yfield1, yfieldN, yfieldAddr, Int.reduceNegSucc, Int.reduceEq, Nat.reduceLeDiff, Nat.reduceSub, Nat.reduceAdd, gt_st, full_st, hF, hA, reduceIte, Nat.reduceEqDiff, Nat.reduceLT, decide_true, decide_false, Bool.false_eq_true, b2.2, b3.2, b4.2]; with_reducible rfl), fun p hp => by cases hp; simp only [gt_st, full_st, hF, hA, reduceIte, Nat.reduceEqDiff, Nat.reduceLT, decide_true, decide_false, Bool.false_eq_true]; first | exact vEq_An | simp [vEq, vEq0, all2]⟩) | (rcases hq with rfl | rfl | rfl <;> exact ⟨_, _, _, rfl, (by simp (maxSteps := 1000000) (disch := (first | omega | (simp only [Heap.next_alloc, Heap.next_set]; omega))) only [D2, mm_max, mm_min, cells_alloc_at, cells_alloc_ne, cells_set_at, cells_set_ne, dop, dA, sets, yfield1, yfieldN, yfieldAddr, Int.reduceNegSucc, Int.reduceEq, Nat.reduceLeDiff, Nat.reduceSub, Nat.reduceAdd, gt_st, full_st, hF, hA, reduceIte, Nat.reduceEqDiff, Nat.reduceLT, decide_true, decide_false, Bool.false_eq_true, b2.2, b3.2, b4.2]; with_reducible rfl), fun p hp => by cases hp; simp only [gt_st, full_st, hF, hA, reduceIte, Nat.reduceEqDiff, Nat.reduceLT, decide_true, decide_false, Bool.false_eq_true]; first | exact vEq_An | simp [vEq, vEq0, all2]⟩)
    (repeat first | refine V.seq ?_ | refine V.block ?_ | refine V.scope ?_ | refine V.skip ?_ | refine V.close ?_)
    refine V.ret (V.rets rfl (Lv.retG (by simp (disch := (first | omega | (simp only [Heap.next_alloc, Heap.next_set]; omega))) only [D1, cells_alloc_at, cells_alloc_ne, cells_set_at, cells_set_ne, yres, yres1, yresL, Nat.reduceLeDiff, Nat.reduceSub, Nat.reduceAdd, gt_st, full_st, hF, hA, reduceIte, Nat.reduceEqDiff, Nat.reduceLT, decide_true, decide_false, Bool.false_eq_true]; rfl) ?_ ?_))
    · exact (g2.trans g3).trans g4
    · simp only [wr, if_neg h1, if_pos h2]
  · simp only [if_neg h2]
    refine VD.callA (by simp only [dA, gt_st, full_st, hF, hA, reduceIte, Nat.reduceEqDiff, Nat.reduceLT, decide_true, decide_false, Bool.false_eq_true]; try rfl) (f103_ok a b c d n hb (by omega) _) (by simp only [List.map_cons, List.map_nil, dA, gt_st, full_st, hF, hA, reduceIte, Nat.reduceEqDiff, Nat.reduceLT, decide_true, decide_false, Bool.false_eq_true, List.nil_append, List.append_nil, List.cons_append]; try rfl) (fun H4 g4 => ?_)
    have b4 := b3.grow g4
    refine VD.lineD' (by simp (maxSteps := 1000000) (disch := (first | omega | (simp only [Heap.next_alloc, Heap.next_set]; omega))) only [D2, mm_max, mm_min, cells_alloc_at, cells_alloc_ne, cells_set_at, cells_set_ne, dop, dA, sets, yfield1, yfieldN, yfieldAddr, Int.reduceNegSucc, Int.reduceEq, Nat.reduceLeDiff, Nat.reduceSub, Nat.reduceAdd, gt_st, full_st, hF, hA, reduceIte, Nat.reduceEqDiff, Nat.reduceLT, decide_true, decide_false, Bool.false_eq_true]; with_reducible rfl) ?_ ?_ rfl ?_
    · simp only [monoG, List.cons_append, List.nil_append, Nat.le_refl, true_and, and_true]
      exact ⟨g3.1, g4.1⟩
    · simp only [dcAll, dcOk, wantD, List.cons_append, List.nil_append, true_and, and_true]
      exact fun _ q hq => by simp only [List.mem_cons, List.not_mem_nil, or_false] at hq; first | (subst hq; exact ⟨_, _, _, rfl, (by simp (maxSteps := 1000000) (disch := (first | omega | (simp only [Heap.next_alloc, Heap.next_set]; omega))) only [D2, mm_max, mm_min, cells_alloc_at, cells_alloc_ne, cells_set_at, cells_set_ne, dop, dA, sets, yfield1, yfieldN, yfieldAddr, Int.reduceNegSucc, Int.reduceEq, Nat.reduceLeDiff, Nat.reduceSub, Nat.reduceAdd, gt_st, full_st, hF, hA, reduceIte, Nat.reduceEqDiff, Nat.reduceLT, decide_true, decide_false, Bool.false_eq_true, b2.2, b3.2, b4.2]; with_reducible rfl), fun p hp => by cases hp; simp only [gt_st, full_st, hF, hA, reduceIte, Nat.reduceEqDiff, Nat.reduceLT, decide_true, decide_false, Bool.false_eq_true]; first | exact vEq_An | simp [vEq, vEq0, all2]⟩) | (rcases hq with rfl | rfl <;> exact ⟨_, _, _, rfl, (by simp (maxSteps := 1000000) (disch := (first | omega | (simp only [Heap.next_alloc, Heap.next_set]; omega))) only [D2, mm_max, mm_min, cells_alloc_at, cells_alloc_ne, cells_set_at, cells_set_ne, dop, dA, sets, yfield1, yfieldN, yfieldAddr, Int.reduceNegSucc, Int.reduceEq, Nat.reduceLeDiff, Nat.reduceSub, Nat.reduceAdd, gt_st, full_st, hF, hA, reduceIte, Nat.reduceEqDiff, Nat.reduceLT, decide_true, decide_false, Bool.false_eq_true, b2.2, b3.2, b4.2]; with_reducible rfl), fun p hp => by cases hp; simp only [gt_st, full_st, hF, hA, reduceIte, Nat.reduceEqDiff, Nat.reduceLT, decide_true, decide_false, Bool.false_eq_true]; first | exact vEq_An | simp [vEq, vEq0, all2]⟩) | (rcases hq with rfl | rfl | rfl <;> exact ⟨_, _, _, rfl, (by simp (maxSteps := 1000000) (disch := (first | omega | (simp only [Heap.next_alloc, Heap.next_set]; omega))) only [D2, mm_max, mm_min, cells_alloc_at, cells_alloc_ne, cells_set_at, cells_set_ne, dop, dA, sets, yfield1, yfieldN, yfieldAddr, Int.reduceNegSucc, Int.reduceEq, Nat.reduceLeDiff, Nat.reduceSub, Nat.reduceAdd, gt_st, full_st, hF, hA, reduceIte, Nat.reduceEqDiff, Nat.reduceLT, decide_true, decide_false, Bool.false_eq_true, b2.2, b3.2, b4.2]; with_reducible rfl), fun p hp => by cases hp; simp only [gt_st, full_st, hF, hA, reduceIte, Nat.reduceEqDiff, Nat.reduceLT, decide_true, decide_false, Bool.false_eq_true]; first | exact vEq_An | simp [vEq, vEq0, all2]⟩)
    (repeat first | refine V.seq ?_ | refine V.block ?_ | refine V.scope ?_ | refine V.skip ?_ | refine V.close ?_)
    refine V.ret (V.rets rfl (Lv.retG (by simp (disch := (first | omega | (simp only [Heap.next_alloc, Heap.next_set]; omega))) only [D1, cells_alloc_at, cells_alloc_ne, cells_set_at, cells_set_ne, yres, yres1, yresL, Nat.reduceLeDiff, Nat.reduceSub, Nat.reduceAdd, gt_st, full_st, hF, hA, reduceIte, Nat.reduceEqDiff, Nat.reduceLT, decide_true, decide_false, Bool.false_eq_true]; rfl) ?_ ?_))
    · exact (g2.trans g3).trans g4
    · simp only [wr, if_neg h1, if_neg h2]
end Go.Xe.TAX
