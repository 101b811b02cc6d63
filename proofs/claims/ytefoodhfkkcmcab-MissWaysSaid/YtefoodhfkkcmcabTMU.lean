/- What the statements MissWays and MissPascal come to. Conditions: none. -/
import Derived.Test.YtefoodhfkkcmcabTMZ
-- MOD TM
namespace Go.Xe.TMX
open Go Go.Xe Go.Proofs Go.Xe.Mth
set_option maxRecDepth 100000
set_option maxHeartbeats 3200000
set_option linter.unusedSimpArgs false
noncomputable def d19 : FCode := (.seq (.run (.go (.move (.con (.int .i64 (.ofNat 0)))) (pth 4) ::
.go (.move (.con (.int .i64 (.ofNat 0)))) (pth 5) ::
[])) (.seq (.seq (.run (.go (.build [(.int .i64 (.ofNat 0)),(.int .i64 (.ofNat 0))] [(0,1,(.con (.int .i64 (.ofNat 0)))),(1,1,(.con (.int .i64 (.ofNat 60))))]) (pth 8) ::
.go (.alloc 53 [(.int .i64 (.ofNat 0)),(.int .i64 (.ofNat 0))]) (pth 6) ::
.un (.store 2 (.tmp (pth 6)) (.tmp (pth 8))) ::
[])) (.seq (.run (.go (.loadN 2 (.tmp (pth 6))) (pth 9) ::
.go (.move (.tmp (pth 0))) (pth 10) ::
.go (.call (.con (.func (.func 52) ⟨[]⟩ ⟨[]⟩)) [(.tmp (pth 9)),(.tmp (pth 10))]) (pth 11) ::
.go (.un .not (.tmp (pth 11))) (pth 12) ::
.go (.move (.tmp (pth 12))) (pth 13) ::
.gd (pth 13) false (.loadN 2 (.tmp (pth 6))) (pth 14) ::
.gd (pth 13) false (.move (.tmp (pth 1))) (pth 15) ::
.gd (pth 13) false (.call (.con (.func (.func 52) ⟨[]⟩ ⟨[]⟩)) [(.tmp (pth 14)),(.tmp (pth 15))]) (pth 16) ::
.gd (pth 13) false (.un .not (.tmp (pth 16))) (pth 17) ::
.go (.pick (.tmp (pth 13)) (.con (.bool true)) (.tmp (pth 17))) (pth 18) ::
[])) (.cond (.tmp (pth 18)) (.seq (.run (.go (.move (.con (.int .i64 (.ofNat 0)))) (pth 4) ::
.go (.move (.con (.int .i64 (.ofNat 2)))) (pth 5) ::
[])) .ret) .skip))) (.seq (.run (.go (.call (.con (.func (.func 53) ⟨[]⟩ ⟨[]⟩)) []) (pth 19) ::
.go (.move (.tmp (pth 19))) (pth 7) ::
[])) (.seq (.run (.go (.move (.tmp (pth 7))) (pth 20) ::
.go (.move (.tmp (pth 0))) (pth 21) ::
.go (.move (.tmp (pth 1))) (pth 22) ::
.go (.call (.tmp (pth 20)) [(.tmp (pth 21)),(.tmp (pth 22))]) (pth 23) ::
.go (.move (.tmp (pth 23))) (pth 4) ::
.go (.move (.con (.int .i64 (.ofNat 0)))) (pth 5) ::
[])) .ret))))
theorem de19 : @compF Try.prog (Gl.none Try.prog) Try.f19 2 = .mk d19 (mkTT 24) [(pth 0),(pth 1)] [.tmp (pth 4),.tmp (pth 5)] := by kernel_rfl
theorem dg19 : Try.prog.funcs[19]? = some Try.f19 := Try.func19
theorem do19 : okF Try.prog Try.f19 = true := by kernel_rfl
noncomputable def d3 : FCode := (.seq (.run (.go (.box 23 (.tmp (pth 2))) (pth 5) ::
.go (.move (.con (.bool false))) (pth 6) ::
[])) (.seq (.run (.go (.move (.tmp (pth 0))) (pth 10) ::
.go (.move (.tmp (pth 1))) (pth 11) ::
.go (.call (.con (.func (.func 19) ⟨[]⟩ ⟨[]⟩)) [(.tmp (pth 10)),(.tmp (pth 11))]) (pth 12) ::
.go (.move (.tmp (pth 12))) (pth 9) ::
.go (.extract (.tmp (pth 9)) 0) (pth 13) ::
.go (.extract (.tmp (pth 9)) 1) (pth 14) ::
.go (.move (.tmp (pth 13))) (pth 7) ::
.go (.move (.tmp (pth 14))) (pth 8) ::
[])) (.seq (.seq (.draw 6 (.go (.loadN 4 (.tmp (pth 5))) (pth 15) ::
.go (.call (.con (.func (.func 21) ⟨[]⟩ ⟨[]⟩)) [(.tmp (pth 15))]) (pth 16) ::
.go (.call (.con (.func (.func 20) ⟨[]⟩ ⟨[]⟩)) [(.tmp (pth 16))]) (pth 17) ::
.go (.loadN 4 (.tmp (pth 5))) (pth 18) ::
.go (.call (.con (.func (.func 22) ⟨[]⟩ ⟨[]⟩)) [(.tmp (pth 18))]) (pth 19) ::
.go (.bin .neq 24 (.tmp (pth 17)) (.tmp (pth 19))) (pth 20) ::
[]) [.ok,.ok,.ok,.rd none (.loadN 4 (.tmp (pth 5))) (some (pth 18)) [0,2],.ok,.ok]) (.cond (.tmp (pth 20)) (.seq (.run (.go (.move (.con (.bool false))) (pth 6) ::
[])) .ret) .skip)) (.seq (.seq (.run (.go (.move (.tmp (pth 0))) (pth 21) ::
.go (.call (.con (.func (.func 23) ⟨[]⟩ ⟨[]⟩)) [(.tmp (pth 21)),(.con (.int .i64 (.ofNat 0))),(.con (.int .i64 (.ofNat 60)))]) (pth 22) ::
.go (.un .not (.tmp (pth 22))) (pth 23) ::
.go (.move (.tmp (pth 23))) (pth 24) ::
.gd (pth 24) false (.move (.tmp (pth 1))) (pth 25) ::
.gd (pth 24) false (.call (.con (.func (.func 23) ⟨[]⟩ ⟨[]⟩)) [(.tmp (pth 25)),(.con (.int .i64 (.ofNat 0))),(.con (.int .i64 (.ofNat 60)))]) (pth 26) ::
.gd (pth 24) false (.un .not (.tmp (pth 26))) (pth 27) ::
.go (.pick (.tmp (pth 24)) (.con (.bool true)) (.tmp (pth 27))) (pth 28) ::
[])) (.cond (.tmp (pth 28)) (.seq (.run (.go (.move (.tmp (pth 8))) (pth 29) ::
.go (.bin .eql 24 (.tmp (pth 29)) (.con (.int .i64 (.ofNat 2)))) (pth 30) ::
.go (.move (.tmp (pth 30))) (pth 31) ::
.gd (pth 31) true (.move (.tmp (pth 7))) (pth 32) ::
.gd (pth 31) true (.bin .eql 3 (.tmp (pth 32)) (.con (.int .i64 (.ofNat 0)))) (pth 33) ::
.go (.pick (.tmp (pth 31)) (.tmp (pth 33)) (.con (.bool false))) (pth 34) ::
.go (.move (.tmp (pth 34))) (pth 35) ::
.gd (pth 35) true (.call (.con (.func (.func 24) ⟨[]⟩ ⟨[]⟩)) []) (pth 36) ::
.go (.pick (.tmp (pth 35)) (.tmp (pth 36)) (.con (.bool false))) (pth 37) ::
.go (.move (.tmp (pth 37))) (pth 6) ::
[])) .ret) .skip)) (.seq (.run (.go (.move (.tmp (pth 8))) (pth 38) ::
.go (.bin .eql 24 (.tmp (pth 38)) (.con (.int .i64 (.ofNat 0)))) (pth 39) ::
.go (.move (.tmp (pth 39))) (pth 40) ::
.gd (pth 40) true (.move (.tmp (pth 7))) (pth 41) ::
.gd (pth 40) true (.move (.tmp (pth 0))) (pth 42) ::
.gd (pth 40) true (.move (.tmp (pth 1))) (pth 43) ::
.gd (pth 40) true (.call (.con (.func (.func 25) ⟨[]⟩ ⟨[]⟩)) [(.tmp (pth 42)),(.tmp (pth 43))]) (pth 44) ::
.gd (pth 40) true (.bin .eql 3 (.tmp (pth 41)) (.tmp (pth 44))) (pth 45) ::
.go (.pick (.tmp (pth 40)) (.tmp (pth 45)) (.con (.bool false))) (pth 46) ::
.go (.move (.tmp (pth 46))) (pth 47) ::
.gd (pth 47) true (.call (.con (.func (.func 24) ⟨[]⟩ ⟨[]⟩)) []) (pth 48) ::
.go (.pick (.tmp (pth 47)) (.tmp (pth 48)) (.con (.bool false))) (pth 49) ::
.go (.move (.tmp (pth 49))) (pth 6) ::
[])) .ret)))))
theorem de3 : @compF Try.prog (Gl.none Try.prog) Try.f3 3 = .mk d3 (mkTT 50) [(pth 0),(pth 1),(pth 2)] [.tmp (pth 6)] := by kernel_rfl
theorem dg3 : Try.prog.funcs[3]? = some Try.f3 := Try.func3
theorem do3 : okF Try.prog Try.f3 = true := by kernel_rfl
/-- Are ways told of them? -/
def wv (n k : Int) : Prop := (0 ≤ n ∧ n ≤ 60) ∧ (0 ≤ k ∧ k ≤ 60)
instance (n k : Int) : Decidable (wv n k) := by unfold wv; infer_instance
def wy (n k : Int) : Int := if wv n k then (ch n.toNat k.toNat : Nat) else 0
def we (n k : Int) : Int := if wv n k then 0 else 2
theorem wy_nat {n k : Nat} (hn : n ≤ 60) (hk : k ≤ 60) : wy n k = (ch n k : Nat) ∧ we n k = 0 := by
  have h : wv n k := by unfold wv; omega
  unfold wy we
  rw [if_pos h, if_pos h]
  exact ⟨rfl, rfl⟩
theorem wy_not {n k : Int} (h : ¬ wv n k) : wy n k = 0 ∧ we n k = 2 := by
  unfold wy we
  rw [if_neg h, if_neg h]
  exact ⟨rfl, rfl⟩
theorem f19_ok (n k : Int) (H : Heap) : Gives Try.prog 19 [I n, I k] H (.tuple ⟨[I (wy n k), I (we n k)]⟩) := by
  refine F.entryL rfl dg19 do19 de19 rfl (by kernel_rfl) ?_
  simp only [sets]
  refine V.re [(0, I n), (1, I k)] (N := 24) (by intro i; simp only [full_st, Full.mk]) (by simp only [Kn, gt_st, full_st, Full.mk, ↓reduceIte, Nat.reduceEqDiff, Nat.reduceLT, decide_true, and_self]) ?_
  intro t hF hA
  simp only [Kn, and_true] at hA
  (repeat first | refine V.seq ?_ | refine V.block ?_ | refine V.scope ?_ | refine V.skip ?_ | refine V.close ?_)
  refine V.line' (by simp +contextual (maxSteps := 1000000) (disch := (first | omega | (simp only [Heap.next_alloc, Heap.next_set]; omega))) only [D3, mm_max, mm_min, cells_alloc_at, cells_alloc_ne, cells_set_at, cells_set_ne, dop, dA, sets, yfield1, yfieldN, yfieldAddr, Int.reduceNegSucc, Int.reduceEq, Nat.reduceLeDiff, Nat.reduceSub, Nat.reduceAdd, gt_st, full_st, hF, hA, ↓reduceIte, Nat.reduceEqDiff, Nat.reduceLT, decide_true, decide_false, Bool.false_eq_true]; with_reducible rfl) ?_
  (repeat first | refine V.seq ?_ | refine V.block ?_ | refine V.scope ?_ | refine V.skip ?_ | refine V.close ?_)
  refine V.line' (by simp +contextual (maxSteps := 1000000) (disch := (first | omega | (simp only [Heap.next_alloc, Heap.next_set]; omega))) only [D3, mm_max, mm_min, cells_alloc_at, cells_alloc_ne, cells_set_at, cells_set_ne, dop, dA, sets, yfield1, yfieldN, yfieldAddr, Int.reduceNegSucc, Int.reduceEq, Nat.reduceLeDiff, Nat.reduceSub, Nat.reduceAdd, gt_st, full_st, hF, hA, ↓reduceIte, Nat.reduceEqDiff, Nat.reduceLT, decide_true, decide_false, Bool.false_eq_true]; with_reducible rfl) ?_
  refine V.heap (fun H2 => Grow H H2 ∧ Bx H2 H.next (A2 0 60) 53) ⟨?_, ?_⟩ ?_
  · (repeat first | assumption | exact Grow.refl _ | refine Grow.alloc ?_ _ | refine Grow.set ?_ (by first | omega | (simp only [Heap.next_alloc, Heap.next_set]; omega)) _)
  · (repeat first | assumption | exact Bx.new _ _ _ | exact Bx.newAt (by first | omega | (simp only [Heap.next_alloc, Heap.next_set]; omega)) | refine Bx.put (by first | omega | (simp only [Heap.next_alloc, Heap.next_set]; omega)) _ _ | refine Bx.alloc ?_ _ | refine Bx.set ?_ (by first | omega | (simp only [Heap.next_alloc, Heap.next_set]; omega)) _)
  rintro H1 ⟨g1, b1⟩
  (repeat first | refine V.seq ?_ | refine V.block ?_ | refine V.scope ?_ | refine V.skip ?_ | refine V.close ?_)
  refine V.run ?_
  refine VI.steps' 2 (by simp +contextual (maxSteps := 1000000) (disch := (first | omega | (simp only [Heap.next_alloc, Heap.next_set]; omega))) only [D3, mm_max, mm_min, cells_alloc_at, cells_alloc_ne, cells_set_at, cells_set_ne, dop, dA, sets, yfield1, yfieldN, yfieldAddr, Int.reduceNegSucc, Int.reduceEq, Nat.reduceLeDiff, Nat.reduceSub, Nat.reduceAdd, gt_st, full_st, hF, hA, ↓reduceIte, Nat.reduceEqDiff, Nat.reduceLT, decide_true, decide_false, Bool.false_eq_true, b1.2]; with_reducible rfl) ?_
  simp only [List.drop_succ_cons, List.drop_zero]
  refine VI.callA rfl (f52_ok 0 60 n _) (by simp only [List.map_cons, List.map_nil, dA, gt_st, full_st, hF, hA, ↓reduceIte, Nat.reduceEqDiff, Nat.reduceLT, decide_true, decide_false, Bool.false_eq_true, List.nil_append, List.append_nil, List.cons_append]; try rfl) (fun H2 g2 => ?_)
  have b2 := b1.grow g2
  refine VI.steps' 4 (by simp +contextual (maxSteps := 1000000) (disch := (first | omega | (simp only [Heap.next_alloc, Heap.next_set]; omega))) only [D3, mm_max, mm_min, cells_alloc_at, cells_alloc_ne, cells_set_at, cells_set_ne, dop, dA, sets, yfield1, yfieldN, yfieldAddr, Int.reduceNegSucc, Int.reduceEq, Nat.reduceLeDiff, Nat.reduceSub, Nat.reduceAdd, gt_st, full_st, hF, hA, ↓reduceIte, Nat.reduceEqDiff, Nat.reduceLT, decide_true, decide_false, Bool.false_eq_true, b2.2]; with_reducible rfl) ?_
  simp only [List.drop_succ_cons, List.drop_zero]
  first | refine VI.callGt (by simp only [gt_st, full_st, hF, hA, ↓reduceIte, Nat.reduceEqDiff, Nat.reduceLT, decide_true, decide_false, Bool.false_eq_true]; rfl) (fun hc => by simp only [dA, gt_st, full_st, hF, hA, ↓reduceIte, Nat.reduceEqDiff, Nat.reduceLT, decide_true, decide_false, Bool.false_eq_true, hc, and_self, and_true, true_and, not_false_eq_true]; try rfl) (fun hc => f52_ok 0 60 k _) (fun hc => by simp only [List.map_cons, List.map_nil, dA, gt_st, full_st, hF, hA, ↓reduceIte, Nat.reduceEqDiff, Nat.reduceLT, decide_true, decide_false, Bool.false_eq_true, List.nil_append, List.append_nil, List.cons_append, hc, and_self, and_true, true_and, not_false_eq_true]; try rfl) (fun H3 g3 => ?_) | refine VI.callGf (by simp only [gt_st, full_st, hF, hA, ↓reduceIte, Nat.reduceEqDiff, Nat.reduceLT, decide_true, decide_false, Bool.false_eq_true]; rfl) (fun hc => by simp only [dA, gt_st, full_st, hF, hA, ↓reduceIte, Nat.reduceEqDiff, Nat.reduceLT, decide_true, decide_false, Bool.false_eq_true, hc, and_self, and_true, true_and, not_false_eq_true]; try rfl) (fun hc => f52_ok 0 60 k _) (fun hc => by simp only [List.map_cons, List.map_nil, dA, gt_st, full_st, hF, hA, ↓reduceIte, Nat.reduceEqDiff, Nat.reduceLT, decide_true, decide_false, Bool.false_eq_true, List.nil_append, List.append_nil, List.cons_append, hc, and_self, and_true, true_and, not_false_eq_true]; try rfl) (fun H3 g3 => ?_)
  have g3 := (g1.trans g2).trans g3
  refine VI.line' (by simp +contextual (maxSteps := 1000000) (disch := (first | omega | (simp only [Heap.next_alloc, Heap.next_set]; omega))) only [D3, mm_max, mm_min, cells_alloc_at, cells_alloc_ne, cells_set_at, cells_set_ne, dop, dA, sets, yfield1, yfieldN, yfieldAddr, Int.reduceNegSucc, Int.reduceEq, Nat.reduceLeDiff, Nat.reduceSub, Nat.reduceAdd, gt_st, full_st, hF, hA, ↓reduceIte, Nat.reduceEqDiff, Nat.reduceLT, decide_true, decide_false, Bool.false_eq_true]; with_reducible rfl) ?_
  (repeat first | refine V.seq ?_ | refine V.block ?_ | refine V.scope ?_ | refine V.skip ?_ | refine V.close ?_)
  refine V.condP (by simp only [dA, gt_st, full_st, hF, hA, ↓reduceIte, Nat.reduceEqDiff, Nat.reduceLT, decide_true, decide_false, Bool.false_eq_true]; rfl) (fun h => ?_) (fun h => ?_)
  · have hw := wy_not (n := n) (k := k) (fun x => by unfold wv at x; omega)
    (repeat first | refine V.seq ?_ | refine V.block ?_ | refine V.scope ?_ | refine V.skip ?_ | refine V.close ?_)
    refine V.line' (by simp +contextual (maxSteps := 1000000) (disch := (first | omega | (simp only [Heap.next_alloc, Heap.next_set]; omega))) only [D3, mm_max, mm_min, cells_alloc_at, cells_alloc_ne, cells_set_at, cells_set_ne, dop, dA, sets, yfield1, yfieldN, yfieldAddr, Int.reduceNegSucc, Int.reduceEq, Nat.reduceLeDiff, Nat.reduceSub, Nat.reduceAdd, gt_st, full_st, hF, hA, ↓reduceIte, Nat.reduceEqDiff, Nat.reduceLT, decide_true, decide_false, Bool.false_eq_true]; with_reducible rfl) ?_
    (repeat first | refine V.seq ?_ | refine V.block ?_ | refine V.scope ?_ | refine V.skip ?_ | refine V.close ?_)
    refine V.ret (V.rets rfl (Lv.retG (by simp +contextual (disch := (first | omega | (simp only [Heap.next_alloc, Heap.next_set]; omega))) only [D1, cells_alloc_at, cells_alloc_ne, cells_set_at, cells_set_ne, yres, yres1, yresL, Nat.reduceLeDiff, Nat.reduceSub, Nat.reduceAdd, gt_st, full_st, hF, hA, ↓reduceIte, Nat.reduceEqDiff, Nat.reduceLT, decide_true, decide_false, Bool.false_eq_true]; rfl) ?_ ?_))
    · exact g3
    · rw [hw.1, hw.2]
  have hv : wv n k := by unfold wv; omega
  obtain ⟨n, rfl⟩ := Int.eq_ofNat_of_zero_le hv.1.1
  obtain ⟨k, rfl⟩ := Int.eq_ofNat_of_zero_le hv.2.1
  have hn : n ≤ 60 := by have := hv.1.2; omega
  have hk : k ≤ 60 := by have := hv.2.2; omega
  have hw := wy_nat hn hk
  (repeat first | refine V.seq ?_ | refine V.block ?_ | refine V.scope ?_ | refine V.skip ?_ | refine V.close ?_)
  refine V.run ?_
  refine VI.callR (by simp only [dA, gt_st, full_st, hF, hA, ↓reduceIte, Nat.reduceEqDiff, Nat.reduceLT, decide_true, decide_false, Bool.false_eq_true]; try rfl) (f53_ok _) (by simp only [List.map_cons, List.map_nil, dA, gt_st, full_st, hF, hA, ↓reduceIte, Nat.reduceEqDiff, Nat.reduceLT, decide_true, decide_false, Bool.false_eq_true, List.nil_append, List.append_nil, List.cons_append]; try rfl) (fun v4 H4 ⟨i, j, x, hv4, hi, hj, hx, g4, w4⟩ => ?_)
  subst hv4
  refine VI.line' (by simp +contextual (maxSteps := 1000000) (disch := (first | omega | (simp only [Heap.next_alloc, Heap.next_set]; omega))) only [D3, mm_max, mm_min, cells_alloc_at, cells_alloc_ne, cells_set_at, cells_set_ne, dop, dA, sets, yfield1, yfieldN, yfieldAddr, Int.reduceNegSucc, Int.reduceEq, Nat.reduceLeDiff, Nat.reduceSub, Nat.reduceAdd, gt_st, full_st, hF, hA, ↓reduceIte, Nat.reduceEqDiff, Nat.reduceLT, decide_true, decide_false, Bool.false_eq_true]; with_reducible rfl) ?_
  (repeat first | refine V.seq ?_ | refine V.block ?_ | refine V.scope ?_ | refine V.skip ?_ | refine V.close ?_)
  refine V.run ?_
  refine VI.steps' 3 (by simp +contextual (maxSteps := 1000000) (disch := (first | omega | (simp only [Heap.next_alloc, Heap.next_set]; omega))) only [D3, mm_max, mm_min, cells_alloc_at, cells_alloc_ne, cells_set_at, cells_set_ne, dop, dA, sets, yfield1, yfieldN, yfieldAddr, Int.reduceNegSucc, Int.reduceEq, Nat.reduceLeDiff, Nat.reduceSub, Nat.reduceAdd, gt_st, full_st, hF, hA, ↓reduceIte, Nat.reduceEqDiff, Nat.reduceLT, decide_true, decide_false, Bool.false_eq_true]; with_reducible rfl) ?_
  simp only [List.drop_succ_cons, List.drop_zero]
  refine VI.callR (by simp only [dA, gt_st, full_st, hF, hA, ↓reduceIte, Nat.reduceEqDiff, Nat.reduceLT, decide_true, decide_false, Bool.false_eq_true]; try rfl) (f78_ok n k hn hk w4) (by simp only [List.map_cons, List.map_nil, dA, gt_st, full_st, hF, hA, ↓reduceIte, Nat.reduceEqDiff, Nat.reduceLT, decide_true, decide_false, Bool.false_eq_true, List.nil_append, List.append_nil, List.cons_append]; try rfl) (fun v5 H5 ⟨hv5, g5, w5⟩ => ?_)
  subst hv5
  refine VI.line' (by simp +contextual (maxSteps := 1000000) (disch := (first | omega | (simp only [Heap.next_alloc, Heap.next_set]; omega))) only [D3, mm_max, mm_min, cells_alloc_at, cells_alloc_ne, cells_set_at, cells_set_ne, dop, dA, sets, yfield1, yfieldN, yfieldAddr, Int.reduceNegSucc, Int.reduceEq, Nat.reduceLeDiff, Nat.reduceSub, Nat.reduceAdd, gt_st, full_st, hF, hA, ↓reduceIte, Nat.reduceEqDiff, Nat.reduceLT, decide_true, decide_false, Bool.false_eq_true]; with_reducible rfl) ?_
  (repeat first | refine V.seq ?_ | refine V.block ?_ | refine V.scope ?_ | refine V.skip ?_ | refine V.close ?_)
  refine V.ret (V.rets rfl (Lv.retG (by simp +contextual (disch := (first | omega | (simp only [Heap.next_alloc, Heap.next_set]; omega))) only [D1, cells_alloc_at, cells_alloc_ne, cells_set_at, cells_set_ne, yres, yres1, yresL, Nat.reduceLeDiff, Nat.reduceSub, Nat.reduceAdd, gt_st, full_st, hF, hA, ↓reduceIte, Nat.reduceEqDiff, Nat.reduceLT, decide_true, decide_false, Bool.false_eq_true]; rfl) ?_ ?_))
  · exact g3.trans (g5.grow g4 hx)
  · rw [hw.1, hw.2]
theorem f3_ok {n k a b c d : Int} {H : Heap} : F Try.prog 3 ⟨[I n, I k, .agg ⟨A4 a b c d⟩]⟩ H (fun w _ => w = .bool true) := by
  refine F.entryL rfl dg3 do3 de3 rfl (by kernel_rfl) ?_
  simp only [sets]
  refine V.re [(0, I n), (1, I k), (2, .agg ⟨A4 a b c d⟩)] (N := 50) (by intro i; simp only [full_st, Full.mk]) (by simp only [Kn, gt_st, full_st, Full.mk, ↓reduceIte, Nat.reduceEqDiff, Nat.reduceLT, decide_true, and_self]) ?_
  intro t hF hA
  simp only [Kn, and_true] at hA
  (repeat first | refine V.seq ?_ | refine V.block ?_ | refine V.scope ?_ | refine V.skip ?_ | refine V.close ?_)
  refine V.line' (by simp +contextual (maxSteps := 1000000) (disch := (first | omega | (simp only [Heap.next_alloc, Heap.next_set]; omega))) only [D3, mm_max, mm_min, cells_alloc_at, cells_alloc_ne, cells_set_at, cells_set_ne, dop, dA, sets, yfield1, yfieldN, yfieldAddr, Int.reduceNegSucc, Int.reduceEq, Nat.reduceLeDiff, Nat.reduceSub, Nat.reduceAdd, gt_st, full_st, hF, hA, ↓reduceIte, Nat.reduceEqDiff, Nat.reduceLT, decide_true, decide_false, Bool.false_eq_true]; with_reducible rfl) ?_
  (repeat first | refine V.seq ?_ | refine V.block ?_ | refine V.scope ?_ | refine V.skip ?_ | refine V.close ?_)
  refine V.run ?_
  refine VI.steps' 2 (by simp +contextual (maxSteps := 1000000) (disch := (first | omega | (simp only [Heap.next_alloc, Heap.next_set]; omega))) only [D3, mm_max, mm_min, cells_alloc_at, cells_alloc_ne, cells_set_at, cells_set_ne, dop, dA, sets, yfield1, yfieldN, yfieldAddr, Int.reduceNegSucc, Int.reduceEq, Nat.reduceLeDiff, Nat.reduceSub, Nat.reduceAdd, gt_st, full_st, hF, hA, ↓reduceIte, Nat.reduceEqDiff, Nat.reduceLT, decide_true, decide_false, Bool.false_eq_true]; with_reducible rfl) ?_
  simp only [List.drop_succ_cons, List.drop_zero]
  refine VI.callA rfl (f19_ok n k _) (by simp only [List.map_cons, List.map_nil, dA, gt_st, full_st, hF, hA, ↓reduceIte, Nat.reduceEqDiff, Nat.reduceLT, decide_true, decide_false, Bool.false_eq_true, List.nil_append, List.append_nil, List.cons_append]; try rfl) (fun H1 g1 => ?_)
  have b1 : Bx H1 H.next (A4 a b c d) 23 := (Bx.new _ _ _).grow g1
  refine VI.line' (by simp +contextual (maxSteps := 1000000) (disch := (first | omega | (simp only [Heap.next_alloc, Heap.next_set]; omega))) only [D3, mm_max, mm_min, cells_alloc_at, cells_alloc_ne, cells_set_at, cells_set_ne, dop, dA, sets, yfield1, yfieldN, yfieldAddr, Int.reduceNegSucc, Int.reduceEq, Nat.reduceLeDiff, Nat.reduceSub, Nat.reduceAdd, gt_st, full_st, hF, hA, ↓reduceIte, Nat.reduceEqDiff, Nat.reduceLT, decide_true, decide_false, Bool.false_eq_true]; with_reducible rfl) ?_
  (repeat first | refine V.seq ?_ | refine V.block ?_ | refine V.scope ?_ | refine V.skip ?_ | refine V.close ?_)
  refine V.re [(0, I n), (1, I k), (5, .pointer (some ⟨H.next, 0, none⟩)), (7, I (wy n k)), (8, I (we n k))] (N := 50) (by intro i; simp only [full_st, hF]) (by simp only [Kn, gt_st, full_st, hF, hA, ↓reduceIte, Nat.reduceEqDiff, Nat.reduceLT, decide_true, decide_false, Bool.false_eq_true, and_self, and_true, true_and]; try (repeat' constructor)) ?_
  clear hF hA
  intro t hF hA
  simp only [Kn, and_true] at hA
  refine V.draw ?_
  refine VD.dins 1 (by simp +contextual (maxSteps := 1000000) (disch := (first | omega | (simp only [Heap.next_alloc, Heap.next_set]; omega))) only [D3, mm_max, mm_min, cells_alloc_at, cells_alloc_ne, cells_set_at, cells_set_ne, dop, dA, sets, yfield1, yfieldN, yfieldAddr, Int.reduceNegSucc, Int.reduceEq, Nat.reduceLeDiff, Nat.reduceSub, Nat.reduceAdd, gt_st, full_st, hF, hA, ↓reduceIte, Nat.reduceEqDiff, Nat.reduceLT, decide_true, decide_false, Bool.false_eq_true, b1.2]; with_reducible rfl) ?_
  simp only [List.drop_succ_cons, List.drop_zero]
  refine VD.callA (by simp only [dA, gt_st, full_st, hF, hA, ↓reduceIte, Nat.reduceEqDiff, Nat.reduceLT, decide_true, decide_false, Bool.false_eq_true]; try rfl) (f21_ok a b c d _) (by simp only [List.map_cons, List.map_nil, dA, gt_st, full_st, hF, hA, ↓reduceIte, Nat.reduceEqDiff, Nat.reduceLT, decide_true, decide_false, Bool.false_eq_true, List.nil_append, List.append_nil, List.cons_append]; try rfl) (fun H2 g2 => ?_)
  have b2 := b1.grow g2
  refine VD.callA (by simp only [dA, gt_st, full_st, hF, hA, ↓reduceIte, Nat.reduceEqDiff, Nat.reduceLT, decide_true, decide_false, Bool.false_eq_true]; try rfl) (f20_ok a b c d _) (by simp only [List.map_cons, List.map_nil, dA, gt_st, full_st, hF, hA, ↓reduceIte, Nat.reduceEqDiff, Nat.reduceLT, decide_true, decide_false, Bool.false_eq_true, List.nil_append, List.append_nil, List.cons_append]; try rfl) (fun H3 g3 => ?_)
  have b3 := b2.grow g3
  refine VD.dins 1 (by simp +contextual (maxSteps := 1000000) (disch := (first | omega | (simp only [Heap.next_alloc, Heap.next_set]; omega))) only [D3, mm_max, mm_min, cells_alloc_at, cells_alloc_ne, cells_set_at, cells_set_ne, dop, dA, sets, yfield1, yfieldN, yfieldAddr, Int.reduceNegSucc, Int.reduceEq, Nat.reduceLeDiff, Nat.reduceSub, Nat.reduceAdd, gt_st, full_st, hF, hA, ↓reduceIte, Nat.reduceEqDiff, Nat.reduceLT, decide_true, decide_false, Bool.false_eq_true, b3.2]; with_reducible rfl) ?_
  simp only [List.drop_succ_cons, List.drop_zero]
  refine VD.callA (by simp only [dA, gt_st, full_st, hF, hA, ↓reduceIte, Nat.reduceEqDiff, Nat.reduceLT, decide_true, decide_false, Bool.false_eq_true]; try rfl) (f22_ok a b c d _) (by simp only [List.map_cons, List.map_nil, dA, gt_st, full_st, hF, hA, ↓reduceIte, Nat.reduceEqDiff, Nat.reduceLT, decide_true, decide_false, Bool.false_eq_true, List.nil_append, List.append_nil, List.cons_append]; try rfl) (fun H4 g4 => ?_)
  have b4 := b3.grow g4
  refine VD.lineD' (by simp +contextual (maxSteps := 1000000) (disch := (first | omega | (simp only [Heap.next_alloc, Heap.next_set]; omega))) only [D3, mm_max, mm_min, cells_alloc_at, cells_alloc_ne, cells_set_at, cells_set_ne, dop, dA, sets, yfield1, yfieldN, yfieldAddr, Int.reduceNegSucc, Int.reduceEq, Nat.reduceLeDiff, Nat.reduceSub, Nat.reduceAdd, gt_st, full_st, hF, hA, ↓reduceIte, Nat.reduceEqDiff, Nat.reduceLT, decide_true, decide_false, Bool.false_eq_true, ne_eq, not_true_eq_false]; with_reducible rfl) ?_ ?_ rfl ?_
  · have n2 := g2.1
    have n3 := g3.1
    have n4 := g4.1
    simp only [monoG, List.cons_append, List.nil_append, Heap.next_set, Heap.next_alloc, Nat.le_refl, true_and, and_true] <;> omega
  · simp only [dcAll, dcOk, wantD, List.cons_append, List.nil_append, true_and, and_true]
    exact fun _ q hq => by simp only [List.mem_cons, List.not_mem_nil, or_false] at hq; first | (subst hq; exact ⟨_, _, _, rfl, (by simp +contextual (maxSteps := 1000000) (disch := (first | omega | (simp only [Heap.next_alloc, Heap.next_set]; omega))) only [D3, mm_max, mm_min, cells_alloc_at, cells_alloc_ne, cells_set_at, cells_set_ne, dop, dA, sets, yfield1, yfieldN, yfieldAddr, Int.reduceNegSucc, Int.reduceEq, Nat.reduceLeDiff, Nat.reduceSub, Nat.reduceAdd, gt_st, full_st, hF, hA, ↓reduceIte, Nat.reduceEqDiff, Nat.reduceLT, decide_true, decide_false, Bool.false_eq_true, b1.2, b2.2, b3.2, b4.2]; with_reducible rfl), fun p hp => by cases hp; simp only [gt_st, full_st, hF, hA, ↓reduceIte, Nat.reduceEqDiff, Nat.reduceLT, decide_true, decide_false, Bool.false_eq_true]; first | exact vEq_An | simp [vEq, vEq0, all2]⟩) | (rcases hq with rfl | rfl <;> exact ⟨_, _, _, rfl, (by simp +contextual (maxSteps := 1000000) (disch := (first | omega | (simp only [Heap.next_alloc, Heap.next_set]; omega))) only [D3, mm_max, mm_min, cells_alloc_at, cells_alloc_ne, cells_set_at, cells_set_ne, dop, dA, sets, yfield1, yfieldN, yfieldAddr, Int.reduceNegSucc, Int.reduceEq, Nat.reduceLeDiff, Nat.reduceSub, Nat.reduceAdd, gt_st, full_st, hF, hA, ↓reduceIte, Nat.reduceEqDiff, Nat.reduceLT, decide_true, decide_false, Bool.false_eq_true, b1.2, b2.2, b3.2, b4.2]; with_reducible rfl), fun p hp => by cases hp; simp only [gt_st, full_st, hF, hA, ↓reduceIte, Nat.reduceEqDiff, Nat.reduceLT, decide_true, decide_false, Bool.false_eq_true]; first | exact vEq_An | simp [vEq, vEq0, all2]⟩) | (rcases hq with rfl | rfl | rfl <;> exact ⟨_, _, _, rfl, (by simp +contextual (maxSteps := 1000000) (disch := (first | omega | (simp only [Heap.next_alloc, Heap.next_set]; omega))) only [D3, mm_max, mm_min, cells_alloc_at, cells_alloc_ne, cells_set_at, cells_set_ne, dop, dA, sets, yfield1, yfieldN, yfieldAddr, Int.reduceNegSucc, Int.reduceEq, Nat.reduceLeDiff, Nat.reduceSub, Nat.reduceAdd, gt_st, full_st, hF, hA, ↓reduceIte, Nat.reduceEqDiff, Nat.reduceLT, decide_true, decide_false, Bool.false_eq_true, b1.2, b2.2, b3.2, b4.2]; with_reducible rfl), fun p hp => by cases hp; simp only [gt_st, full_st, hF, hA, ↓reduceIte, Nat.reduceEqDiff, Nat.reduceLT, decide_true, decide_false, Bool.false_eq_true]; first | exact vEq_An | simp [vEq, vEq0, all2]⟩)
  refine V.re [(0, I n), (1, I k), (7, I (wy n k)), (8, I (we n k)), (20, .bool false)] (N := 50) (by intro i; simp only [full_st, hF]) (by simp only [Kn, gt_st, full_st, hF, hA, ↓reduceIte, Nat.reduceEqDiff, Nat.reduceLT, decide_true, decide_false, Bool.false_eq_true, and_self, and_true, true_and]; try (repeat' constructor)) ?_
  clear hF hA
  intro t hF hA
  simp only [Kn, and_true] at hA
  (repeat first | refine V.seq ?_ | refine V.block ?_ | refine V.scope ?_ | refine V.skip ?_ | refine V.close ?_)
  refine V.condF (by simp only [dA, gt_st, full_st, hF, hA, ↓reduceIte, Nat.reduceEqDiff, Nat.reduceLT, decide_true, decide_false, Bool.false_eq_true]) ?_
  (repeat first | refine V.seq ?_ | refine V.block ?_ | refine V.scope ?_ | refine V.skip ?_ | refine V.close ?_)
  refine V.run ?_
  refine VI.steps' 1 (by simp +contextual (maxSteps := 1000000) (disch := (first | omega | (simp only [Heap.next_alloc, Heap.next_set]; omega))) only [D3, mm_max, mm_min, cells_alloc_at, cells_alloc_ne, cells_set_at, cells_set_ne, dop, dA, sets, yfield1, yfieldN, yfieldAddr, Int.reduceNegSucc, Int.reduceEq, Nat.reduceLeDiff, Nat.reduceSub, Nat.reduceAdd, gt_st, full_st, hF, hA, ↓reduceIte, Nat.reduceEqDiff, Nat.reduceLT, decide_true, decide_false, Bool.false_eq_true]; with_reducible rfl) ?_
  simp only [List.drop_succ_cons, List.drop_zero]
  refine VI.callA rfl (f23_ok n 0 60 _) (by simp only [List.map_cons, List.map_nil, dA, gt_st, full_st, hF, hA, ↓reduceIte, Nat.reduceEqDiff, Nat.reduceLT, decide_true, decide_false, Bool.false_eq_true, List.nil_append, List.append_nil, List.cons_append]; try rfl) (fun H5 g5 => ?_)
  refine VI.steps' 3 (by simp +contextual (maxSteps := 1000000) (disch := (first | omega | (simp only [Heap.next_alloc, Heap.next_set]; omega))) only [D3, mm_max, mm_min, cells_alloc_at, cells_alloc_ne, cells_set_at, cells_set_ne, dop, dA, sets, yfield1, yfieldN, yfieldAddr, Int.reduceNegSucc, Int.reduceEq, Nat.reduceLeDiff, Nat.reduceSub, Nat.reduceAdd, gt_st, full_st, hF, hA, ↓reduceIte, Nat.reduceEqDiff, Nat.reduceLT, decide_true, decide_false, Bool.false_eq_true]; with_reducible rfl) ?_
  simp only [List.drop_succ_cons, List.drop_zero]
  first | refine VI.callGt (by simp only [gt_st, full_st, hF, hA, ↓reduceIte, Nat.reduceEqDiff, Nat.reduceLT, decide_true, decide_false, Bool.false_eq_true]; rfl) (fun hc => by simp only [dA, gt_st, full_st, hF, hA, ↓reduceIte, Nat.reduceEqDiff, Nat.reduceLT, decide_true, decide_false, Bool.false_eq_true, hc, and_self, and_true, true_and, not_false_eq_true]; try rfl) (fun hc => f23_ok k 0 60 _) (fun hc => by simp only [List.map_cons, List.map_nil, dA, gt_st, full_st, hF, hA, ↓reduceIte, Nat.reduceEqDiff, Nat.reduceLT, decide_true, decide_false, Bool.false_eq_true, List.nil_append, List.append_nil, List.cons_append, hc, and_self, and_true, true_and, not_false_eq_true]; try rfl) (fun H6 g6 => ?_) | refine VI.callGf (by simp only [gt_st, full_st, hF, hA, ↓reduceIte, Nat.reduceEqDiff, Nat.reduceLT, decide_true, decide_false, Bool.false_eq_true]; rfl) (fun hc => by simp only [dA, gt_st, full_st, hF, hA, ↓reduceIte, Nat.reduceEqDiff, Nat.reduceLT, decide_true, decide_false, Bool.false_eq_true, hc, and_self, and_true, true_and, not_false_eq_true]; try rfl) (fun hc => f23_ok k 0 60 _) (fun hc => by simp only [List.map_cons, List.map_nil, dA, gt_st, full_st, hF, hA, ↓reduceIte, Nat.reduceEqDiff, Nat.reduceLT, decide_true, decide_false, Bool.false_eq_true, List.nil_append, List.append_nil, List.cons_append, hc, and_self, and_true, true_and, not_false_eq_true]; try rfl) (fun H6 g6 => ?_)
  refine VI.line' (by simp +contextual (maxSteps := 1000000) (disch := (first | omega | (simp only [Heap.next_alloc, Heap.next_set]; omega))) only [D3, mm_max, mm_min, cells_alloc_at, cells_alloc_ne, cells_set_at, cells_set_ne, dop, dA, sets, yfield1, yfieldN, yfieldAddr, Int.reduceNegSucc, Int.reduceEq, Nat.reduceLeDiff, Nat.reduceSub, Nat.reduceAdd, gt_st, full_st, hF, hA, ↓reduceIte, Nat.reduceEqDiff, Nat.reduceLT, decide_true, decide_false, Bool.false_eq_true]; with_reducible rfl) ?_
  (repeat first | refine V.seq ?_ | refine V.block ?_ | refine V.scope ?_ | refine V.skip ?_ | refine V.close ?_)
  refine V.condP (by simp only [dA, gt_st, full_st, hF, hA, ↓reduceIte, Nat.reduceEqDiff, Nat.reduceLT, decide_true, decide_false, Bool.false_eq_true]; rfl) (fun h => ?_) (fun h => ?_)
  · have hw := wy_not (n := n) (k := k) (fun x => by unfold wv at x; omega)
    rw [hw.1, hw.2] at hA
    (repeat first | refine V.seq ?_ | refine V.block ?_ | refine V.scope ?_ | refine V.skip ?_ | refine V.close ?_)
    refine V.run ?_
    refine VI.steps' 7 (by simp +contextual (maxSteps := 1000000) (disch := (first | omega | (simp only [Heap.next_alloc, Heap.next_set]; omega))) only [D3, mm_max, mm_min, cells_alloc_at, cells_alloc_ne, cells_set_at, cells_set_ne, dop, dA, sets, yfield1, yfieldN, yfieldAddr, Int.reduceNegSucc, Int.reduceEq, Nat.reduceLeDiff, Nat.reduceSub, Nat.reduceAdd, gt_st, full_st, hF, hA, ↓reduceIte, Nat.reduceEqDiff, Nat.reduceLT, decide_true, decide_false, Bool.false_eq_true]; with_reducible rfl) ?_
    simp only [List.drop_succ_cons, List.drop_zero]
    refine VI.callAT (by simp only [gt_st, full_st, hF, hA, ↓reduceIte, Nat.reduceEqDiff, Nat.reduceLT, decide_true, decide_false, Bool.false_eq_true]; try rfl) rfl (f24_ok _) (by simp only [List.map_cons, List.map_nil, dA, gt_st, full_st, hF, hA, ↓reduceIte, Nat.reduceEqDiff, Nat.reduceLT, decide_true, decide_false, Bool.false_eq_true, List.nil_append, List.append_nil, List.cons_append]; try rfl) (fun H7 g7 => ?_)
    refine VI.line' (by simp +contextual (maxSteps := 1000000) (disch := (first | omega | (simp only [Heap.next_alloc, Heap.next_set]; omega))) only [D3, mm_max, mm_min, cells_alloc_at, cells_alloc_ne, cells_set_at, cells_set_ne, dop, dA, sets, yfield1, yfieldN, yfieldAddr, Int.reduceNegSucc, Int.reduceEq, Nat.reduceLeDiff, Nat.reduceSub, Nat.reduceAdd, gt_st, full_st, hF, hA, ↓reduceIte, Nat.reduceEqDiff, Nat.reduceLT, decide_true, decide_false, Bool.false_eq_true]; with_reducible rfl) ?_
    (repeat first | refine V.seq ?_ | refine V.block ?_ | refine V.scope ?_ | refine V.skip ?_ | refine V.close ?_)
    refine V.ret (V.rets rfl (Lv.retF (by simp +contextual (disch := (first | omega | (simp only [Heap.next_alloc, Heap.next_set]; omega))) only [D1, cells_alloc_at, cells_alloc_ne, cells_set_at, cells_set_ne, yres, yres1, yresL, Nat.reduceLeDiff, Nat.reduceSub, Nat.reduceAdd, gt_st, full_st, hF, hA, ↓reduceIte, Nat.reduceEqDiff, Nat.reduceLT, decide_true, decide_false, Bool.false_eq_true]; rfl) ?_))
    rfl
  have hv : wv n k := by unfold wv; omega
  obtain ⟨n, rfl⟩ := Int.eq_ofNat_of_zero_le hv.1.1
  obtain ⟨k, rfl⟩ := Int.eq_ofNat_of_zero_le hv.2.1
  have hn : n ≤ 60 := by have := hv.1.2; omega
  have hk : k ≤ 60 := by have := hv.2.2; omega
  have hw := wy_nat hn hk
  rw [hw.1, hw.2] at hA
  (repeat first | refine V.seq ?_ | refine V.block ?_ | refine V.scope ?_ | refine V.skip ?_ | refine V.close ?_)
  refine V.run ?_
  refine VI.steps' 6 (by simp +contextual (maxSteps := 1000000) (disch := (first | omega | (simp only [Heap.next_alloc, Heap.next_set]; omega))) only [D3, mm_max, mm_min, cells_alloc_at, cells_alloc_ne, cells_set_at, cells_set_ne, dop, dA, sets, yfield1, yfieldN, yfieldAddr, Int.reduceNegSucc, Int.reduceEq, Nat.reduceLeDiff, Nat.reduceSub, Nat.reduceAdd, gt_st, full_st, hF, hA, ↓reduceIte, Nat.reduceEqDiff, Nat.reduceLT, decide_true, decide_false, Bool.false_eq_true]; with_reducible rfl) ?_
  simp only [List.drop_succ_cons, List.drop_zero]
  refine VI.callAT (by simp only [gt_st, full_st, hF, hA, ↓reduceIte, Nat.reduceEqDiff, Nat.reduceLT, decide_true, decide_false, Bool.false_eq_true]; try rfl) rfl (f25_ok n k hn hk _) (by simp only [List.map_cons, List.map_nil, dA, gt_st, full_st, hF, hA, ↓reduceIte, Nat.reduceEqDiff, Nat.reduceLT, decide_true, decide_false, Bool.false_eq_true, List.nil_append, List.append_nil, List.cons_append]; try rfl) (fun H7 g7 => ?_)
  refine VI.steps' 3 (by simp +contextual (maxSteps := 1000000) (disch := (first | omega | (simp only [Heap.next_alloc, Heap.next_set]; omega))) only [D3, mm_max, mm_min, cells_alloc_at, cells_alloc_ne, cells_set_at, cells_set_ne, dop, dA, sets, yfield1, yfieldN, yfieldAddr, Int.reduceNegSucc, Int.reduceEq, Nat.reduceLeDiff, Nat.reduceSub, Nat.reduceAdd, gt_st, full_st, hF, hA, ↓reduceIte, Nat.reduceEqDiff, Nat.reduceLT, decide_true, decide_false, Bool.false_eq_true]; with_reducible rfl) ?_
  simp only [List.drop_succ_cons, List.drop_zero]
  refine VI.callAT (by simp only [gt_st, full_st, hF, hA, ↓reduceIte, Nat.reduceEqDiff, Nat.reduceLT, decide_true, decide_false, Bool.false_eq_true]; try rfl) rfl (f24_ok _) (by simp only [List.map_cons, List.map_nil, dA, gt_st, full_st, hF, hA, ↓reduceIte, Nat.reduceEqDiff, Nat.reduceLT, decide_true, decide_false, Bool.false_eq_true, List.nil_append, List.append_nil, List.cons_append]; try rfl) (fun H8 g8 => ?_)
  refine VI.line' (by simp +contextual (maxSteps := 1000000) (disch := (first | omega | (simp only [Heap.next_alloc, Heap.next_set]; omega))) only [D3, mm_max, mm_min, cells_alloc_at, cells_alloc_ne, cells_set_at, cells_set_ne, dop, dA, sets, yfield1, yfieldN, yfieldAddr, Int.reduceNegSucc, Int.reduceEq, Nat.reduceLeDiff, Nat.reduceSub, Nat.reduceAdd, gt_st, full_st, hF, hA, ↓reduceIte, Nat.reduceEqDiff, Nat.reduceLT, decide_true, decide_false, Bool.false_eq_true]; with_reducible rfl) ?_
  (repeat first | refine V.seq ?_ | refine V.block ?_ | refine V.scope ?_ | refine V.skip ?_ | refine V.close ?_)
  refine V.ret (V.rets rfl (Lv.retF (by simp +contextual (disch := (first | omega | (simp only [Heap.next_alloc, Heap.next_set]; omega))) only [D1, cells_alloc_at, cells_alloc_ne, cells_set_at, cells_set_ne, yres, yres1, yresL, Nat.reduceLeDiff, Nat.reduceSub, Nat.reduceAdd, gt_st, full_st, hF, hA, ↓reduceIte, Nat.reduceEqDiff, Nat.reduceLT, decide_true, decide_false, Bool.false_eq_true]; rfl) ?_))
  rfl
end Go.Xe.TMX
