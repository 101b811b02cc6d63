/- What the statements MissWays and MissPascal come to. Conditions: none. -/
import Derived.Test.YtefoodhfkkcmcabTMZ
-- MOD TM
namespace Go.Xe.TMX
open Go Go.Xe Go.Proofs Go.Xe.Mth
set_option maxRecDepth 100000
set_option maxHeartbeats 3200000
set_option linter.unusedSimpArgs false
noncomputable def d19 : FCode := (.seq (.run (.go (.move (.con (.int .i64 (.ofNat 0)))) (pth 4) ::
.go (.move (.con (.int .i64 (.ofNat 0)))) (pth 5) ::
[])) (.seq (.seq (.run (.go (.build [(.int .i64 (.ofNat 0)),(.int .i64 (.ofNat 0))] [(0,1,(.con (.int .i64 (.ofNat 0)))),(1,1,(.con (.int .i64 (.ofNat 60))))]) (pth 8) ::
.go (.alloc 53 [(.int .i64 (.ofNat 0)),(.int .i64 (.ofNat 0))]) (pth 6) ::
.un (.store 2 (.tmp (pth 6)) (.tmp (pth 8))) ::
[])) (.seq (.run (.go (.loadN 2 (.tmp (pth 6))) (pth 9) ::
.go (.move (.tmp (pth 0))) (pth 10) ::
.go (.call (.con (.func (.func 52) ⟨[]⟩ ⟨[]⟩)) [(.tmp (pth 9)),(.tmp (pth 10))]) (pth 11) ::
.go (.un .not (.tmp (pth 11))) (pth 12) ::
.go (.move (.tmp (pth 12))) (pth 13) ::
.gd (pth 13) false (.loadN 2 (.tmp (pth 6))) (pth 14) ::
.gd (pth 13) false (.move (.tmp (pth 1))) (pth 15) ::
.gd (pth 13) false (.call (.con (.func (.func 52) ⟨[]⟩ ⟨[]⟩)) [(.tmp (pth 14)),(.tmp (pth 15))]) (pth 16) ::
.gd (pth 13) false (.un .not (.tmp (pth 16))) (pth 17) ::
.go (.pick (.tmp (pth 13)) (.con (.bool true)) (.tmp (pth 17))) (pth 18) ::
[])) (.cond (.tmp (pth 18)) (.seq (.run (.go (.move (.con (.int .i64 (.ofNat 0)))) (pth 4) ::
.go (.move (.con (.int .i64 (.ofNat 2)))) (pth 5) ::
[])) .ret) .skip))) (.seq (.run (.go (.call (.con (.func (.func 53) ⟨[]⟩ ⟨[]⟩)) []) (pth 19) ::
.go (.move (.tmp (pth 19))) (pth 7) ::
[])) (.seq (.run (.go (.move (.tmp (pth 7))) (pth 20) ::
.go (.move (.tmp (pth 0))) (pth 21) ::
.go (.move (.tmp (pth 1))) (pth 22) ::
.go (.call (.tmp (pth 20)) [(.tmp (pth 21)),(.tmp (pth 22))]) (pth 23) ::
.go (.move (.tmp (pth 23))) (pth 4) ::
.go (.move (.con (.int .i64 (.ofNat 0)))) (pth 5) ::
[])) .ret))))
theorem de19 : @compF Try.prog (Gl.none Try.prog) Try.f19 2 = .mk d19 (mkTT 24) [(pth 0),(pth 1)] [.tmp (pth 4),.tmp (pth 5)] := by kernel_rfl
theorem dg19 : Try.prog.funcs[19]? = some Try.f19 := Try.func19
theorem do19 : okF Try.prog Try.f19 = true := by kernel_rfl
noncomputable def d14 : FCode := (.seq (.run (.go (.move (.con (.bool false))) (pth 4) ::
[])) (.seq (.run (.go (.move (.tmp (pth 0))) (pth 17) ::
.go (.conv .i64 (.tmp (pth 17))) (pth 18) ::
.go (.bin .rem 3 (.tmp (pth 18)) (.con (.int .i64 (.ofNat 60)))) (pth 19) ::
.go (.move (.tmp (pth 1))) (pth 20) ::
.go (.conv .i64 (.tmp (pth 20))) (pth 21) ::
.go (.bin .rem 3 (.tmp (pth 21)) (.con (.int .i64 (.ofNat 61)))) (pth 22) ::
.go (.move (.tmp (pth 19))) (pth 5) ::
.go (.move (.tmp (pth 22))) (pth 6) ::
[])) (.seq (.run (.go (.move (.tmp (pth 5))) (pth 24) ::
.go (.move (.tmp (pth 6))) (pth 25) ::
.go (.call (.con (.func (.func 19) ⟨[]⟩ ⟨[]⟩)) [(.tmp (pth 24)),(.tmp (pth 25))]) (pth 26) ::
.go (.move (.tmp (pth 26))) (pth 23) ::
.go (.extract (.tmp (pth 23)) 0) (pth 27) ::
.go (.extract (.tmp (pth 23)) 1) (pth 28) ::
.go (.move (.tmp (pth 27))) (pth 7) ::
.go (.move (.tmp (pth 28))) (pth 8) ::
[])) (.seq (.run (.go (.move (.tmp (pth 5))) (pth 30) ::
.go (.call (.con (.func (.func 19) ⟨[]⟩ ⟨[]⟩)) [(.tmp (pth 30)),(.con (.int .i64 (.ofNat 0)))]) (pth 31) ::
.go (.move (.tmp (pth 31))) (pth 29) ::
.go (.extract (.tmp (pth 29)) 0) (pth 32) ::
.go (.extract (.tmp (pth 29)) 1) (pth 33) ::
.go (.move (.tmp (pth 32))) (pth 9) ::
.go (.move (.tmp (pth 33))) (pth 10) ::
[])) (.seq (.seq (.run (.go (.move (.tmp (pth 8))) (pth 34) ::
.go (.bin .neq 24 (.tmp (pth 34)) (.con (.int .i64 (.ofNat 0)))) (pth 35) ::
.go (.move (.tmp (pth 35))) (pth 36) ::
.gd (pth 36) false (.move (.tmp (pth 10))) (pth 37) ::
.gd (pth 36) false (.bin .neq 24 (.tmp (pth 37)) (.con (.int .i64 (.ofNat 0)))) (pth 38) ::
.go (.pick (.tmp (pth 36)) (.con (.bool true)) (.tmp (pth 38))) (pth 39) ::
.go (.move (.tmp (pth 39))) (pth 40) ::
.gd (pth 40) false (.move (.tmp (pth 9))) (pth 41) ::
.gd (pth 40) false (.bin .neq 3 (.tmp (pth 41)) (.con (.int .i64 (.ofNat 1)))) (pth 42) ::
.go (.pick (.tmp (pth 40)) (.con (.bool true)) (.tmp (pth 42))) (pth 43) ::
.go (.move (.tmp (pth 43))) (pth 44) ::
.gd (pth 44) false (.move (.tmp (pth 6))) (pth 45) ::
.gd (pth 44) false (.move (.tmp (pth 5))) (pth 46) ::
.gd (pth 44) false (.bin .gtr 3 (.tmp (pth 45)) (.tmp (pth 46))) (pth 47) ::
.gd (pth 44) false (.move (.tmp (pth 47))) (pth 48) ::
.gd (pth 48) true (.move (.tmp (pth 7))) (pth 49) ::
.gd (pth 48) true (.bin .neq 3 (.tmp (pth 49)) (.con (.int .i64 (.ofNat 0)))) (pth 50) ::
.gd (pth 44) false (.pick (.tmp (pth 48)) (.tmp (pth 50)) (.con (.bool false))) (pth 51) ::
.go (.pick (.tmp (pth 44)) (.con (.bool true)) (.tmp (pth 51))) (pth 52) ::
[])) (.cond (.tmp (pth 52)) (.seq (.run (.go (.move (.con (.bool false))) (pth 4) ::
[])) .ret) .skip)) (.seq (.seq (.run (.go (.move (.tmp (pth 6))) (pth 53) ::
.go (.move (.tmp (pth 5))) (pth 54) ::
.go (.bin .leq 3 (.tmp (pth 53)) (.tmp (pth 54))) (pth 55) ::
[])) (.cond (.tmp (pth 55)) (.seq (.run (.go (.move (.tmp (pth 5))) (pth 57) ::
.go (.move (.tmp (pth 5))) (pth 58) ::
.go (.move (.tmp (pth 6))) (pth 59) ::
.go (.bin .sub 3 (.tmp (pth 58)) (.tmp (pth 59))) (pth 60) ::
.go (.call (.con (.func (.func 19) ⟨[]⟩ ⟨[]⟩)) [(.tmp (pth 57)),(.tmp (pth 60))]) (pth 61) ::
.go (.move (.tmp (pth 61))) (pth 56) ::
.go (.extract (.tmp (pth 56)) 0) (pth 62) ::
.go (.extract (.tmp (pth 56)) 1) (pth 63) ::
.go (.move (.tmp (pth 62))) (pth 11) ::
.go (.move (.tmp (pth 63))) (pth 12) ::
[])) (.seq (.run (.go (.move (.tmp (pth 12))) (pth 64) ::
.go (.bin .neq 24 (.tmp (pth 64)) (.con (.int .i64 (.ofNat 0)))) (pth 65) ::
.go (.move (.tmp (pth 65))) (pth 66) ::
.gd (pth 66) false (.move (.tmp (pth 11))) (pth 67) ::
.gd (pth 66) false (.move (.tmp (pth 7))) (pth 68) ::
.gd (pth 66) false (.bin .neq 3 (.tmp (pth 67)) (.tmp (pth 68))) (pth 69) ::
.go (.pick (.tmp (pth 66)) (.con (.bool true)) (.tmp (pth 69))) (pth 70) ::
[])) (.cond (.tmp (pth 70)) (.seq (.run (.go (.move (.con (.bool false))) (pth 4) ::
[])) .ret) .skip))) .skip)) (.seq (.seq (.run (.go (.move (.tmp (pth 6))) (pth 71) ::
.go (.bin .eql 3 (.tmp (pth 71)) (.con (.int .i64 (.ofNat 0)))) (pth 72) ::
[])) (.cond (.tmp (pth 72)) (.seq (.run (.go (.call (.con (.func (.func 24) ⟨[]⟩ ⟨[]⟩)) []) (pth 73) ::
.go (.move (.tmp (pth 73))) (pth 4) ::
[])) .ret) .skip)) (.seq (.run (.go (.move (.tmp (pth 5))) (pth 75) ::
.go (.move (.tmp (pth 6))) (pth 76) ::
.go (.bin .sub 3 (.tmp (pth 76)) (.con (.int .i64 (.ofNat 1)))) (pth 77) ::
.go (.call (.con (.func (.func 19) ⟨[]⟩ ⟨[]⟩)) [(.tmp (pth 75)),(.tmp (pth 77))]) (pth 78) ::
.go (.move (.tmp (pth 78))) (pth 74) ::
.go (.extract (.tmp (pth 74)) 0) (pth 79) ::
.go (.extract (.tmp (pth 74)) 1) (pth 80) ::
.go (.move (.tmp (pth 79))) (pth 13) ::
.go (.move (.tmp (pth 80))) (pth 14) ::
[])) (.seq (.run (.go (.move (.tmp (pth 5))) (pth 82) ::
.go (.bin .add 3 (.tmp (pth 82)) (.con (.int .i64 (.ofNat 1)))) (pth 83) ::
.go (.move (.tmp (pth 6))) (pth 84) ::
.go (.call (.con (.func (.func 19) ⟨[]⟩ ⟨[]⟩)) [(.tmp (pth 83)),(.tmp (pth 84))]) (pth 85) ::
.go (.move (.tmp (pth 85))) (pth 81) ::
.go (.extract (.tmp (pth 81)) 0) (pth 86) ::
.go (.extract (.tmp (pth 81)) 1) (pth 87) ::
.go (.move (.tmp (pth 86))) (pth 15) ::
.go (.move (.tmp (pth 87))) (pth 16) ::
[])) (.seq (.run (.go (.move (.tmp (pth 14))) (pth 88) ::
.go (.bin .eql 24 (.tmp (pth 88)) (.con (.int .i64 (.ofNat 0)))) (pth 89) ::
.go (.move (.tmp (pth 89))) (pth 90) ::
.gd (pth 90) true (.move (.tmp (pth 16))) (pth 91) ::
.gd (pth 90) true (.bin .eql 24 (.tmp (pth 91)) (.con (.int .i64 (.ofNat 0)))) (pth 92) ::
.go (.pick (.tmp (pth 90)) (.tmp (pth 92)) (.con (.bool false))) (pth 93) ::
.go (.move (.tmp (pth 93))) (pth 94) ::
.gd (pth 94) true (.move (.tmp (pth 15))) (pth 95) ::
.gd (pth 94) true (.move (.tmp (pth 7))) (pth 96) ::
.gd (pth 94) true (.move (.tmp (pth 13))) (pth 97) ::
.gd (pth 94) true (.bin .add 3 (.tmp (pth 96)) (.tmp (pth 97))) (pth 98) ::
.gd (pth 94) true (.bin .eql 3 (.tmp (pth 95)) (.tmp (pth 98))) (pth 99) ::
.go (.pick (.tmp (pth 94)) (.tmp (pth 99)) (.con (.bool false))) (pth 100) ::
.go (.move (.tmp (pth 100))) (pth 101) ::
.gd (pth 101) true (.call (.con (.func (.func 24) ⟨[]⟩ ⟨[]⟩)) []) (pth 102) ::
.go (.pick (.tmp (pth 101)) (.tmp (pth 102)) (.con (.bool false))) (pth 103) ::
.go (.move (.tmp (pth 103))) (pth 4) ::
[])) .ret))))))))))
theorem de14 : @compF Try.prog (Gl.none Try.prog) Try.f14 2 = .mk d14 (mkTT 104) [(pth 0),(pth 1)] [.tmp (pth 4)] := by kernel_rfl
theorem dg14 : Try.prog.funcs[14]? = some Try.f14 := Try.func14
theorem do14 : okF Try.prog Try.f14 = true := by kernel_rfl
/-- Are ways told of them? -/
def wv (n k : Int) : Prop := (0 ≤ n ∧ n ≤ 60) ∧ (0 ≤ k ∧ k ≤ 60)
instance (n k : Int) : Decidable (wv n k) := by unfold wv; infer_instance
def wy (n k : Int) : Int := if wv n k then (ch n.toNat k.toNat : Nat) else 0
def we (n k : Int) : Int := if wv n k then 0 else 2
theorem wy_nat {n k : Nat} (hn : n ≤ 60) (hk : k ≤ 60) : wy n k = (ch n k : Nat) ∧ we n k = 0 := by
  have h : wv n k := by unfold wv; omega
  unfold wy we
  rw [if_pos h, if_pos h]
  exact ⟨rfl, rfl⟩
theorem wy_not {n k : Int} (h : ¬ wv n k) : wy n k = 0 ∧ we n k = 2 := by
  unfold wy we
  rw [if_neg h, if_neg h]
  exact ⟨rfl, rfl⟩
theorem f19_ok (n k : Int) (H : Heap) : Gives Try.prog 19 [I n, I k] H (.tuple ⟨[I (wy n k), I (we n k)]⟩) := by
  refine F.entryL rfl dg19 do19 de19 rfl (by kernel_rfl) ?_
  simp only [sets]
  refine V.re [(0, I n), (1, I k)] (N := 24) (by intro i; simp only [full_st, Full.mk]) (by simp only [Kn, gt_st, full_st, Full.mk, ↓reduceIte, Nat.reduceEqDiff, Nat.reduceLT, decide_true, and_self]) ?_
  intro t hF hA
  simp only [Kn, and_true] at hA
  (repeat first | refine V.seq ?_ | refine V.block ?_ | refine V.scope ?_ | refine V.skip ?_ | refine V.close ?_)
  refine V.line' (by simp +contextual (maxSteps := 1000000) (disch := (first | omega | (simp only [Heap.next_alloc, Heap.next_set]; omega))) only [D3, mm_max, mm_min, cells_alloc_at, cells_alloc_ne, cells_set_at, cells_set_ne, dop, dA, sets, yfield1, yfieldN, yfieldAddr, Int.reduceNegSucc, Int.reduceEq, Nat.reduceLeDiff, Nat.reduceSub, Nat.reduceAdd, gt_st, full_st, hF, hA, ↓reduceIte, Nat.reduceEqDiff, Nat.reduceLT, decide_true, decide_false, Bool.false_eq_true]; with_reducible rfl) ?_
  (repeat first | refine V.seq ?_ | refine V.block ?_ | refine V.scope ?_ | refine V.skip ?_ | refine V.close ?_)
  refine V.line' (by simp +contextual (maxSteps := 1000000) (disch := (first | omega | (simp only [Heap.next_alloc, Heap.next_set]; omega))) only [D3, mm_max, mm_min, cells_alloc_at, cells_alloc_ne, cells_set_at, cells_set_ne, dop, dA, sets, yfield1, yfieldN, yfieldAddr, Int.reduceNegSucc, Int.reduceEq, Nat.reduceLeDiff, Nat.reduceSub, Nat.reduceAdd, gt_st, full_st, hF, hA, ↓reduceIte, Nat.reduceEqDiff, Nat.reduceLT, decide_true, decide_false, Bool.false_eq_true]; with_reducible rfl) ?_
  refine V.heap (fun H2 => Grow H H2 ∧ Bx H2 H.next (A2 0 60) 53) ⟨?_, ?_⟩ ?_
  · (repeat first | assumption | exact Grow.refl _ | refine Grow.alloc ?_ _ | refine Grow.set ?_ (by first | omega | (simp only [Heap.next_alloc, Heap.next_set]; omega)) _)
  · (repeat first | assumption | exact Bx.new _ _ _ | exact Bx.newAt (by first | omega | (simp only [Heap.next_alloc, Heap.next_set]; omega)) | refine Bx.put (by first | omega | (simp only [Heap.next_alloc, Heap.next_set]; omega)) _ _ | refine Bx.alloc ?_ _ | refine Bx.set ?_ (by first | omega | (simp only [Heap.next_alloc, Heap.next_set]; omega)) _)
  rintro H1 ⟨g1, b1⟩
  (repeat first | refine V.seq ?_ | refine V.block ?_ | refine V.scope ?_ | refine V.skip ?_ | refine V.close ?_)
  refine V.run ?_
  refine VI.steps' 2 (by simp +contextual (maxSteps := 1000000) (disch := (first | omega | (simp only [Heap.next_alloc, Heap.next_set]; omega))) only [D3, mm_max, mm_min, cells_alloc_at, cells_alloc_ne, cells_set_at, cells_set_ne, dop, dA, sets, yfield1, yfieldN, yfieldAddr, Int.reduceNegSucc, Int.reduceEq, Nat.reduceLeDiff, Nat.reduceSub, Nat.reduceAdd, gt_st, full_st, hF, hA, ↓reduceIte, Nat.reduceEqDiff, Nat.reduceLT, decide_true, decide_false, Bool.false_eq_true, b1.2]; with_reducible rfl) ?_
  simp only [List.drop_succ_cons, List.drop_zero]
  refine VI.callA rfl (f52_ok 0 60 n _) (by simp only [List.map_cons, List.map_nil, dA, gt_st, full_st, hF, hA, ↓reduceIte, Nat.reduceEqDiff, Nat.reduceLT, decide_true, decide_false, Bool.false_eq_true, List.nil_append, List.append_nil, List.cons_append]; try rfl) (fun H2 g2 => ?_)
  have b2 := b1.grow g2
  refine VI.steps' 4 (by simp +contextual (maxSteps := 1000000) (disch := (first | omega | (simp only [Heap.next_alloc, Heap.next_set]; omega))) only [D3, mm_max, mm_min, cells_alloc_at, cells_alloc_ne, cells_set_at, cells_set_ne, dop, dA, sets, yfield1, yfieldN, yfieldAddr, Int.reduceNegSucc, Int.reduceEq, Nat.reduceLeDiff, Nat.reduceSub, Nat.reduceAdd, gt_st, full_st, hF, hA, ↓reduceIte, Nat.reduceEqDiff, Nat.reduceLT, decide_true, decide_false, Bool.false_eq_true, b2.2]; with_reducible rfl) ?_
  simp only [List.drop_succ_cons, List.drop_zero]
  first | refine VI.callGt (by simp only [gt_st, full_st, hF, hA, ↓reduceIte, Nat.reduceEqDiff, Nat.reduceLT, decide_true, decide_false, Bool.false_eq_true]; rfl) (fun hc => by simp only [dA, gt_st, full_st, hF, hA, ↓reduceIte, Nat.reduceEqDiff, Nat.reduceLT, decide_true, decide_false, Bool.false_eq_true, hc, and_self, and_true, true_and, not_false_eq_true]; try rfl) (fun hc => f52_ok 0 60 k _) (fun hc => by simp only [List.map_cons, List.map_nil, dA, gt_st, full_st, hF, hA, ↓reduceIte, Nat.reduceEqDiff, Nat.reduceLT, decide_true, decide_false, Bool.false_eq_true, List.nil_append, List.append_nil, List.cons_append, hc, and_self, and_true, true_and, not_false_eq_true]; try rfl) (fun H3 g3 => ?_) | refine VI.callGf (by simp only [gt_st, full_st, hF, hA, ↓reduceIte, Nat.reduceEqDiff, Nat.reduceLT, decide_true, decide_false, Bool.false_eq_true]; rfl) (fun hc => by simp only [dA, gt_st, full_st, hF, hA, ↓reduceIte, Nat.reduceEqDiff, Nat.reduceLT, decide_true, decide_false, Bool.false_eq_true, hc, and_self, and_true, true_and, not_false_eq_true]; try rfl) (fun hc => f52_ok 0 60 k _) (fun hc => by simp only [List.map_cons, List.map_nil, dA, gt_st, full_st, hF, hA, ↓reduceIte, Nat.reduceEqDiff, Nat.reduceLT, decide_true, decide_false, Bool.false_eq_true, List.nil_append, List.append_nil, List.cons_append, hc, and_self, and_true, true_and, not_false_eq_true]; try rfl) (fun H3 g3 => ?_)
  have g3 := (g1.trans g2).trans g3
  refine VI.line' (by simp +contextual (maxSteps := 1000000) (disch := (first | omega | (simp only [Heap.next_alloc, Heap.next_set]; omega))) only [D3, mm_max, mm_min, cells_alloc_at, cells_alloc_ne, cells_set_at, cells_set_ne, dop, dA, sets, yfield1, yfieldN, yfieldAddr, Int.reduceNegSucc, Int.reduceEq, Nat.reduceLeDiff, Nat.reduceSub, Nat.reduceAdd, gt_st, full_st, hF, hA, ↓reduceIte, Nat.reduceEqDiff, Nat.reduceLT, decide_true, decide_false, Bool.false_eq_true]; with_reducible rfl) ?_
  (repeat first | refine V.seq ?_ | refine V.block ?_ | refine V.scope ?_ | refine V.skip ?_ | refine V.close ?_)
  refine V.condP (by simp only [dA, gt_st, full_st, hF, hA, ↓reduceIte, Nat.reduceEqDiff, Nat.reduceLT, decide_true, decide_false, Bool.false_eq_true]; rfl) (fun h => ?_) (fun h => ?_)
  · have hw := wy_not (n := n) (k := k) (fun x => by unfold wv at x; omega)
    (repeat first | refine V.seq ?_ | refine V.block ?_ | refine V.scope ?_ | refine V.skip ?_ | refine V.close ?_)
    refine V.line' (by simp +contextual (maxSteps := 1000000) (disch := (first | omega | (simp only [Heap.next_alloc, Heap.next_set]; omega))) only [D3, mm_max, mm_min, cells_alloc_at, cells_alloc_ne, cells_set_at, cells_set_ne, dop, dA, sets, yfield1, yfieldN, yfieldAddr, Int.reduceNegSucc, Int.reduceEq, Nat.reduceLeDiff, Nat.reduceSub, Nat.reduceAdd, gt_st, full_st, hF, hA, ↓reduceIte, Nat.reduceEqDiff, Nat.reduceLT, decide_true, decide_false, Bool.false_eq_true]; with_reducible rfl) ?_
    (repeat first | refine V.seq ?_ | refine V.block ?_ | refine V.scope ?_ | refine V.skip ?_ | refine V.close ?_)
    refine V.ret (V.rets rfl (Lv.retG (by simp +contextual (disch := (first | omega | (simp only [Heap.next_alloc, Heap.next_set]; omega))) only [D1, cells_alloc_at, cells_alloc_ne, cells_set_at, cells_set_ne, yres, yres1, yresL, Nat.reduceLeDiff, Nat.reduceSub, Nat.reduceAdd, gt_st, full_st, hF, hA, ↓reduceIte, Nat.reduceEqDiff, Nat.reduceLT, decide_true, decide_false, Bool.false_eq_true]; rfl) ?_ ?_))
    · exact g3
    · rw [hw.1, hw.2]
  have hv : wv n k := by unfold wv; omega
  obtain ⟨n, rfl⟩ := Int.eq_ofNat_of_zero_le hv.1.1
  obtain ⟨k, rfl⟩ := Int.eq_ofNat_of_zero_le hv.2.1
  have hn : n ≤ 60 := by have := hv.1.2; omega
  have hk : k ≤ 60 := by have := hv.2.2; omega
  have hw := wy_nat hn hk
  (repeat first | refine V.seq ?_ | refine V.block ?_ | refine V.scope ?_ | refine V.skip ?_ | refine V.close ?_)
  refine V.run ?_
  refine VI.callR (by simp only [dA, gt_st, full_st, hF, hA, ↓reduceIte, Nat.reduceEqDiff, Nat.reduceLT, decide_true, decide_false, Bool.false_eq_true]; try rfl) (f53_ok _) (by simp only [List.map_cons, List.map_nil, dA, gt_st, full_st, hF, hA, ↓reduceIte, Nat.reduceEqDiff, Nat.reduceLT, decide_true, decide_false, Bool.false_eq_true, List.nil_append, List.append_nil, List.cons_append]; try rfl) (fun v4 H4 ⟨i, j, x, hv4, hi, hj, hx, g4, w4⟩ => ?_)
  subst hv4
  refine VI.line' (by simp +contextual (maxSteps := 1000000) (disch := (first | omega | (simp only [Heap.next_alloc, Heap.next_set]; omega))) only [D3, mm_max, mm_min, cells_alloc_at, cells_alloc_ne, cells_set_at, cells_set_ne, dop, dA, sets, yfield1, yfieldN, yfieldAddr, Int.reduceNegSucc, Int.reduceEq, Nat.reduceLeDiff, Nat.reduceSub, Nat.reduceAdd, gt_st, full_st, hF, hA, ↓reduceIte, Nat.reduceEqDiff, Nat.reduceLT, decide_true, decide_false, Bool.false_eq_true]; with_reducible rfl) ?_
  (repeat first | refine V.seq ?_ | refine V.block ?_ | refine V.scope ?_ | refine V.skip ?_ | refine V.close ?_)
  refine V.run ?_
  refine VI.steps' 3 (by simp +contextual (maxSteps := 1000000) (disch := (first | omega | (simp only [Heap.next_alloc, Heap.next_set]; omega))) only [D3, mm_max, mm_min, cells_alloc_at, cells_alloc_ne, cells_set_at, cells_set_ne, dop, dA, sets, yfield1, yfieldN, yfieldAddr, Int.reduceNegSucc, Int.reduceEq, Nat.reduceLeDiff, Nat.reduceSub, Nat.reduceAdd, gt_st, full_st, hF, hA, ↓reduceIte, Nat.reduceEqDiff, Nat.reduceLT, decide_true, decide_false, Bool.false_eq_true]; with_reducible rfl) ?_
  simp only [List.drop_succ_cons, List.drop_zero]
  refine VI.callR (by simp only [dA, gt_st, full_st, hF, hA, ↓reduceIte, Nat.reduceEqDiff, Nat.reduceLT, decide_true, decide_false, Bool.false_eq_true]; try rfl) (f78_ok n k hn hk w4) (by simp only [List.map_cons, List.map_nil, dA, gt_st, full_st, hF, hA, ↓reduceIte, Nat.reduceEqDiff, Nat.reduceLT, decide_true, decide_false, Bool.false_eq_true, List.nil_append, List.append_nil, List.cons_append]; try rfl) (fun v5 H5 ⟨hv5, g5, w5⟩ => ?_)
  subst hv5
  refine VI.line' (by simp +contextual (maxSteps := 1000000) (disch := (first | omega | (simp only [Heap.next_alloc, Heap.next_set]; omega))) only [D3, mm_max, mm_min, cells_alloc_at, cells_alloc_ne, cells_set_at, cells_set_ne, dop, dA, sets, yfield1, yfieldN, yfieldAddr, Int.reduceNegSucc, Int.reduceEq, Nat.reduceLeDiff, Nat.reduceSub, Nat.reduceAdd, gt_st, full_st, hF, hA, ↓reduceIte, Nat.reduceEqDiff, Nat.reduceLT, decide_true, decide_false, Bool.false_eq_true]; with_reducible rfl) ?_
  (repeat first | refine V.seq ?_ | refine V.block ?_ | refine V.scope ?_ | refine V.skip ?_ | refine V.close ?_)
  refine V.ret (V.rets rfl (Lv.retG (by simp +contextual (disch := (first | omega | (simp only [Heap.next_alloc, Heap.next_set]; omega))) only [D1, cells_alloc_at, cells_alloc_ne, cells_set_at, cells_set_ne, yres, yres1, yresL, Nat.reduceLeDiff, Nat.reduceSub, Nat.reduceAdd, gt_st, full_st, hF, hA, ↓reduceIte, Nat.reduceEqDiff, Nat.reduceLT, decide_true, decide_false, Bool.false_eq_true]; rfl) ?_ ?_))
  · exact g3.trans (g5.grow g4 hx)
  · rw [hw.1, hw.2]
abbrev By (n : Int) : Value := .int .u8 n
theorem tm_nat {x b : Int} (hx : 0 ≤ x) (hb : 0 < b) : ∃ q : Nat, x.tmod b = q ∧ (q : Int) < b ∧ (q : Int) ≤ x := by
  rw [Int.tmod_eq_emod_of_nonneg hx]
  refine ⟨(x % b).toNat, ?_, ?_, ?_⟩
  · have := Int.emod_nonneg x (show b ≠ 0 by omega); omega
  · have := Int.emod_nonneg x (show b ≠ 0 by omega); have := Int.emod_lt_of_pos x hb; omega
  · have := Int.emod_nonneg x (show b ≠ 0 by omega)
    have h1 := Int.mul_ediv_add_emod x b
    have h2 : 0 ≤ b * (x / b) := Int.mul_nonneg (by omega) (Int.ediv_nonneg hx (by omega))
    omega
theorem f14_ok {x y : Int} {H : Heap} (hx : 0 ≤ x ∧ x ≤ 255) (hy : 0 ≤ y ∧ y ≤ 255) : F Try.prog 14 ⟨[By x, By y]⟩ H (fun w _ => w = .bool true) := by
  obtain ⟨n, en, hn, hn'⟩ := tm_nat hx.1 (b := 60) (by omega)
  obtain ⟨k, ek, hk, hk'⟩ := tm_nat hy.1 (b := 61) (by omega)
  have w1 : IntKind.i64.wrap x = x := wrap_i64 (by omega) (by omega)
  have w2 : IntKind.i64.wrap y = y := wrap_i64 (by omega) (by omega)
  have n60 : ¬ ((60 : Int) = 0) := by omega
  have n61 : ¬ ((61 : Int) = 0) := by omega
  have c0 := wy_nat (n := n) (k := 0) (by omega) (by omega)
  have c1 := wy_nat (n := n) (k := k) (by omega) (by omega)
  rw [ch_z] at c0
  have z0 : ((0 : Nat) : Int) = 0 := rfl
  rw [z0] at c0
  refine F.entryL rfl dg14 do14 de14 rfl (by kernel_rfl) ?_
  simp only [sets]
  refine V.re [(0, By x), (1, By y)] (N := 104) (by intro i; simp only [full_st, Full.mk]) (by simp only [Kn, gt_st, full_st, Full.mk, ↓reduceIte, Nat.reduceEqDiff, Nat.reduceLT, decide_true, and_self]) ?_
  intro t hF hA
  simp only [Kn, and_true] at hA
  (repeat first | refine V.seq ?_ | refine V.block ?_ | refine V.scope ?_ | refine V.skip ?_ | refine V.close ?_)
  refine V.line' (by simp +contextual (maxSteps := 1000000) (disch := (first | omega | (simp only [Heap.next_alloc, Heap.next_set]; omega))) only [D3, mm_max, mm_min, cells_alloc_at, cells_alloc_ne, cells_set_at, cells_set_ne, dop, dA, sets, yfield1, yfieldN, yfieldAddr, Int.reduceNegSucc, Int.reduceEq, Nat.reduceLeDiff, Nat.reduceSub, Nat.reduceAdd, gt_st, full_st, hF, hA, ↓reduceIte, Nat.reduceEqDiff, Nat.reduceLT, decide_true, decide_false, Bool.false_eq_true]; with_reducible rfl) ?_
  (repeat first | refine V.seq ?_ | refine V.block ?_ | refine V.scope ?_ | refine V.skip ?_ | refine V.close ?_)
  refine V.line' (by simp +contextual (maxSteps := 1000000) (disch := (first | omega | (simp only [Heap.next_alloc, Heap.next_set]; omega))) only [D3, mm_max, mm_min, cells_alloc_at, cells_alloc_ne, cells_set_at, cells_set_ne, dop, dA, sets, yfield1, yfieldN, yfieldAddr, Int.reduceNegSucc, Int.reduceEq, Nat.reduceLeDiff, Nat.reduceSub, Nat.reduceAdd, gt_st, full_st, hF, hA, ↓reduceIte, Nat.reduceEqDiff, Nat.reduceLT, decide_true, decide_false, Bool.false_eq_true, w1, w2, n60, n61, en, ek]; with_reducible rfl) ?_
  (repeat first | refine V.seq ?_ | refine V.block ?_ | refine V.scope ?_ | refine V.skip ?_ | refine V.close ?_)
  refine V.re [(5, I n), (6, I k)] (N := 104) (by intro i; simp only [full_st, hF]) (by simp only [Kn, gt_st, full_st, hF, hA, ↓reduceIte, Nat.reduceEqDiff, Nat.reduceLT, decide_true, decide_false, Bool.false_eq_true, and_self, and_true, true_and]; try (repeat' constructor)) ?_
  clear hF hA
  intro t hF hA
  simp only [Kn, and_true] at hA
  refine V.run ?_
  refine VI.steps' 2 (by simp +contextual (maxSteps := 1000000) (disch := (first | omega | (simp only [Heap.next_alloc, Heap.next_set]; omega))) only [D3, mm_max, mm_min, cells_alloc_at, cells_alloc_ne, cells_set_at, cells_set_ne, dop, dA, sets, yfield1, yfieldN, yfieldAddr, Int.reduceNegSucc, Int.reduceEq, Nat.reduceLeDiff, Nat.reduceSub, Nat.reduceAdd, gt_st, full_st, hF, hA, ↓reduceIte, Nat.reduceEqDiff, Nat.reduceLT, decide_true, decide_false, Bool.false_eq_true]; with_reducible rfl) ?_
  simp only [List.drop_succ_cons, List.drop_zero]
  refine VI.callA rfl (f19_ok n k _) (by simp only [List.map_cons, List.map_nil, dA, gt_st, full_st, hF, hA, ↓reduceIte, Nat.reduceEqDiff, Nat.reduceLT, decide_true, decide_false, Bool.false_eq_true, List.nil_append, List.append_nil, List.cons_append]; try rfl) (fun H1 g1 => ?_)
  rw [c1.1, c1.2]
  refine VI.line' (by simp +contextual (maxSteps := 1000000) (disch := (first | omega | (simp only [Heap.next_alloc, Heap.next_set]; omega))) only [D3, mm_max, mm_min, cells_alloc_at, cells_alloc_ne, cells_set_at, cells_set_ne, dop, dA, sets, yfield1, yfieldN, yfieldAddr, Int.reduceNegSucc, Int.reduceEq, Nat.reduceLeDiff, Nat.reduceSub, Nat.reduceAdd, gt_st, full_st, hF, hA, ↓reduceIte, Nat.reduceEqDiff, Nat.reduceLT, decide_true, decide_false, Bool.false_eq_true]; with_reducible rfl) ?_
  (repeat first | refine V.seq ?_ | refine V.block ?_ | refine V.scope ?_ | refine V.skip ?_ | refine V.close ?_)
  refine V.run ?_
  refine VI.steps' 1 (by simp +contextual (maxSteps := 1000000) (disch := (first | omega | (simp only [Heap.next_alloc, Heap.next_set]; omega))) only [D3, mm_max, mm_min, cells_alloc_at, cells_alloc_ne, cells_set_at, cells_set_ne, dop, dA, sets, yfield1, yfieldN, yfieldAddr, Int.reduceNegSucc, Int.reduceEq, Nat.reduceLeDiff, Nat.reduceSub, Nat.reduceAdd, gt_st, full_st, hF, hA, ↓reduceIte, Nat.reduceEqDiff, Nat.reduceLT, decide_true, decide_false, Bool.false_eq_true]; with_reducible rfl) ?_
  simp only [List.drop_succ_cons, List.drop_zero]
  refine VI.callA rfl (f19_ok n 0 _) (by simp only [List.map_cons, List.map_nil, dA, gt_st, full_st, hF, hA, ↓reduceIte, Nat.reduceEqDiff, Nat.reduceLT, decide_true, decide_false, Bool.false_eq_true, List.nil_append, List.append_nil, List.cons_append]; try rfl) (fun H2 g2 => ?_)
  rw [c0.1, c0.2]
  refine VI.line' (by simp +contextual (maxSteps := 1000000) (disch := (first | omega | (simp only [Heap.next_alloc, Heap.next_set]; omega))) only [D3, mm_max, mm_min, cells_alloc_at, cells_alloc_ne, cells_set_at, cells_set_ne, dop, dA, sets, yfield1, yfieldN, yfieldAddr, Int.reduceNegSucc, Int.reduceEq, Nat.reduceLeDiff, Nat.reduceSub, Nat.reduceAdd, gt_st, full_st, hF, hA, ↓reduceIte, Nat.reduceEqDiff, Nat.reduceLT, decide_true, decide_false, Bool.false_eq_true]; with_reducible rfl) ?_
  (repeat first | refine V.seq ?_ | refine V.block ?_ | refine V.scope ?_ | refine V.skip ?_ | refine V.close ?_)
  refine V.re [(5, I n), (6, I k), (7, I ((ch n k : Nat) : Int)), (8, I 0), (9, I 1), (10, I 0)] (N := 104) (by intro i; simp only [full_st, hF]) (by simp only [Kn, gt_st, full_st, hF, hA, ↓reduceIte, Nat.reduceEqDiff, Nat.reduceLT, decide_true, decide_false, Bool.false_eq_true, and_self, and_true, true_and]; try (repeat' constructor)) ?_
  clear hF hA
  intro t hF hA
  simp only [Kn, and_true] at hA
  refine V.line' (by simp +contextual (maxSteps := 1000000) (disch := (first | omega | (simp only [Heap.next_alloc, Heap.next_set]; omega))) only [D3, mm_max, mm_min, cells_alloc_at, cells_alloc_ne, cells_set_at, cells_set_ne, dop, dA, sets, yfield1, yfieldN, yfieldAddr, Int.reduceNegSucc, Int.reduceEq, Nat.reduceLeDiff, Nat.reduceSub, Nat.reduceAdd, gt_st, full_st, hF, hA, ↓reduceIte, Nat.reduceEqDiff, Nat.reduceLT, decide_true, decide_false, Bool.false_eq_true, ne_eq, not_true_eq_false]; with_reducible rfl) ?_
  (repeat first | refine V.seq ?_ | refine V.block ?_ | refine V.scope ?_ | refine V.skip ?_ | refine V.close ?_)
  refine V.condP (by simp only [dA, gt_st, full_st, hF, hA, ↓reduceIte, Nat.reduceEqDiff, Nat.reduceLT, decide_true, decide_false, Bool.false_eq_true]; rfl) (fun h => ?_) (fun h => ?_)
  · exact absurd (by rw [ch_lt (by omega)]; rfl) h.2
  clear h
  (repeat first | refine V.seq ?_ | refine V.block ?_ | refine V.scope ?_ | refine V.skip ?_ | refine V.close ?_)
  refine V.line' (by simp +contextual (maxSteps := 1000000) (disch := (first | omega | (simp only [Heap.next_alloc, Heap.next_set]; omega))) only [D3, mm_max, mm_min, cells_alloc_at, cells_alloc_ne, cells_set_at, cells_set_ne, dop, dA, sets, yfield1, yfieldN, yfieldAddr, Int.reduceNegSucc, Int.reduceEq, Nat.reduceLeDiff, Nat.reduceSub, Nat.reduceAdd, gt_st, full_st, hF, hA, ↓reduceIte, Nat.reduceEqDiff, Nat.reduceLT, decide_true, decide_false, Bool.false_eq_true]; with_reducible rfl) ?_
  (repeat first | refine V.seq ?_ | refine V.block ?_ | refine V.scope ?_ | refine V.skip ?_ | refine V.close ?_)
  refine V.cut (fun e t m X => e = .normal ∧ m = [] ∧ Full 104 t ∧ Kn [(5, I n), (6, I k), (7, I ((ch n k : Nat) : Int))] t) ?_ ?_
  · refine V.condP (by simp only [dA, gt_st, full_st, hF, hA, ↓reduceIte, Nat.reduceEqDiff, Nat.reduceLT, decide_true, decide_false, Bool.false_eq_true]; rfl) (fun h => ?_) (fun h => ?_)
    · have e3 : (n : Int) - k = ((n - k : Nat) : Int) := by omega
      have c3 := wy_nat (n := n) (k := n - k) (by omega) (by omega)
      rw [ch_sym (by omega)] at c3
      (repeat first | refine V.seq ?_ | refine V.block ?_ | refine V.scope ?_ | refine V.skip ?_ | refine V.close ?_)
      refine V.run ?_
      refine VI.steps' 4 (by simp +contextual (maxSteps := 1000000) (disch := (first | omega | (simp only [Heap.next_alloc, Heap.next_set]; omega))) only [D3, mm_max, mm_min, cells_alloc_at, cells_alloc_ne, cells_set_at, cells_set_ne, dop, dA, sets, yfield1, yfieldN, yfieldAddr, Int.reduceNegSucc, Int.reduceEq, Nat.reduceLeDiff, Nat.reduceSub, Nat.reduceAdd, gt_st, full_st, hF, hA, ↓reduceIte, Nat.reduceEqDiff, Nat.reduceLT, decide_true, decide_false, Bool.false_eq_true, e3]; with_reducible rfl) ?_
      simp only [List.drop_succ_cons, List.drop_zero]
      refine VI.callA rfl (f19_ok n ((n - k : Nat) : Int) _) (by simp only [List.map_cons, List.map_nil, dA, gt_st, full_st, hF, hA, ↓reduceIte, Nat.reduceEqDiff, Nat.reduceLT, decide_true, decide_false, Bool.false_eq_true, List.nil_append, List.append_nil, List.cons_append]; try rfl) (fun H3 g3 => ?_)
      rw [c3.1, c3.2]
      refine VI.line' (by simp +contextual (maxSteps := 1000000) (disch := (first | omega | (simp only [Heap.next_alloc, Heap.next_set]; omega))) only [D3, mm_max, mm_min, cells_alloc_at, cells_alloc_ne, cells_set_at, cells_set_ne, dop, dA, sets, yfield1, yfieldN, yfieldAddr, Int.reduceNegSucc, Int.reduceEq, Nat.reduceLeDiff, Nat.reduceSub, Nat.reduceAdd, gt_st, full_st, hF, hA, ↓reduceIte, Nat.reduceEqDiff, Nat.reduceLT, decide_true, decide_false, Bool.false_eq_true]; with_reducible rfl) ?_
      (repeat first | refine V.seq ?_ | refine V.block ?_ | refine V.scope ?_ | refine V.skip ?_ | refine V.close ?_)
      refine V.line' (by simp +contextual (maxSteps := 1000000) (disch := (first | omega | (simp only [Heap.next_alloc, Heap.next_set]; omega))) only [D3, mm_max, mm_min, cells_alloc_at, cells_alloc_ne, cells_set_at, cells_set_ne, dop, dA, sets, yfield1, yfieldN, yfieldAddr, Int.reduceNegSucc, Int.reduceEq, Nat.reduceLeDiff, Nat.reduceSub, Nat.reduceAdd, gt_st, full_st, hF, hA, ↓reduceIte, Nat.reduceEqDiff, Nat.reduceLT, decide_true, decide_false, Bool.false_eq_true, ne_eq, not_true_eq_false]; with_reducible rfl) ?_
      (repeat first | refine V.seq ?_ | refine V.block ?_ | refine V.scope ?_ | refine V.skip ?_ | refine V.close ?_)
      refine V.condF (by simp only [dA, gt_st, full_st, hF, hA, ↓reduceIte, Nat.reduceEqDiff, Nat.reduceLT, decide_true, decide_false, Bool.false_eq_true]) ?_
      (repeat first | refine V.seq ?_ | refine V.block ?_ | refine V.scope ?_ | refine V.skip ?_ | refine V.close ?_)
      exact ⟨rfl, rfl, (by intro i; simp only [full_st, hF]), (by simp only [Kn, gt_st, full_st, hF, hA, ↓reduceIte, Nat.reduceEqDiff, Nat.reduceLT, decide_true, decide_false, Bool.false_eq_true, and_self, and_true, true_and]; try (repeat' constructor))⟩
    · (repeat first | refine V.seq ?_ | refine V.block ?_ | refine V.scope ?_ | refine V.skip ?_ | refine V.close ?_)
      exact ⟨rfl, rfl, (by intro i; simp only [full_st, hF]), (by simp only [Kn, gt_st, full_st, hF, hA, ↓reduceIte, Nat.reduceEqDiff, Nat.reduceLT, decide_true, decide_false, Bool.false_eq_true, and_self, and_true, true_and]; try (repeat' constructor))⟩
  clear hF hA
  rintro e t m H4 ⟨rfl, rfl, hF, hA⟩
  simp only [Kn, and_true] at hA
  (repeat first | refine V.seq ?_ | refine V.block ?_ | refine V.scope ?_ | refine V.skip ?_ | refine V.close ?_)
  refine V.line' (by simp +contextual (maxSteps := 1000000) (disch := (first | omega | (simp only [Heap.next_alloc, Heap.next_set]; omega))) only [D3, mm_max, mm_min, cells_alloc_at, cells_alloc_ne, cells_set_at, cells_set_ne, dop, dA, sets, yfield1, yfieldN, yfieldAddr, Int.reduceNegSucc, Int.reduceEq, Nat.reduceLeDiff, Nat.reduceSub, Nat.reduceAdd, gt_st, full_st, hF, hA, ↓reduceIte, Nat.reduceEqDiff, Nat.reduceLT, decide_true, decide_false, Bool.false_eq_true]; with_reducible rfl) ?_
  (repeat first | refine V.seq ?_ | refine V.block ?_ | refine V.scope ?_ | refine V.skip ?_ | refine V.close ?_)
  refine V.condP (by simp only [dA, gt_st, full_st, hF, hA, ↓reduceIte, Nat.reduceEqDiff, Nat.reduceLT, decide_true, decide_false, Bool.false_eq_true]; rfl) (fun h => ?_) (fun h => ?_)
  · (repeat first | refine V.seq ?_ | refine V.block ?_ | refine V.scope ?_ | refine V.skip ?_ | refine V.close ?_)
    refine V.run ?_
    refine VI.callA rfl (f24_ok _) (by simp only [List.map_cons, List.map_nil, dA, gt_st, full_st, hF, hA, ↓reduceIte, Nat.reduceEqDiff, Nat.reduceLT, decide_true, decide_false, Bool.false_eq_true, List.nil_append, List.append_nil, List.cons_append]; try rfl) (fun H7 g7 => ?_)
    refine VI.line' (by simp +contextual (maxSteps := 1000000) (disch := (first | omega | (simp only [Heap.next_alloc, Heap.next_set]; omega))) only [D3, mm_max, mm_min, cells_alloc_at, cells_alloc_ne, cells_set_at, cells_set_ne, dop, dA, sets, yfield1, yfieldN, yfieldAddr, Int.reduceNegSucc, Int.reduceEq, Nat.reduceLeDiff, Nat.reduceSub, Nat.reduceAdd, gt_st, full_st, hF, hA, ↓reduceIte, Nat.reduceEqDiff, Nat.reduceLT, decide_true, decide_false, Bool.false_eq_true]; with_reducible rfl) ?_
    (repeat first | refine V.seq ?_ | refine V.block ?_ | refine V.scope ?_ | refine V.skip ?_ | refine V.close ?_)
    refine V.ret (V.rets rfl (Lv.retF (by simp +contextual (disch := (first | omega | (simp only [Heap.next_alloc, Heap.next_set]; omega))) only [D1, cells_alloc_at, cells_alloc_ne, cells_set_at, cells_set_ne, yres, yres1, yresL, Nat.reduceLeDiff, Nat.reduceSub, Nat.reduceAdd, gt_st, full_st, hF, hA, ↓reduceIte, Nat.reduceEqDiff, Nat.reduceLT, decide_true, decide_false, Bool.false_eq_true]; rfl) ?_))
    rfl
  obtain ⟨q, rfl⟩ : ∃ q, k = q + 1 := ⟨k - 1, by omega⟩
  have e4 : ((q + 1 : Nat) : Int) - 1 = q := by omega
  have e5 : (n : Int) + 1 = ((n + 1 : Nat) : Int) := rfl
  have c4 := wy_nat (n := n) (k := q) (by omega) (by omega)
  have c5 := wy_nat (n := n + 1) (k := q + 1) (by omega) (by omega)
  have b4 := ch_bound (n := n) q (by omega)
  have b5 := ch_bound (n := n) (q + 1) (by omega)
  have e6 : ((ch n (q + 1) : Nat) : Int) + ((ch n q : Nat) : Int) = ((ch (n + 1) (q + 1) : Nat) : Int) := by rw [ch_ss]; omega
  (repeat first | refine V.seq ?_ | refine V.block ?_ | refine V.scope ?_ | refine V.skip ?_ | refine V.close ?_)
  refine V.run ?_
  refine VI.steps' 3 (by simp +contextual (maxSteps := 1000000) (disch := (first | omega | (simp only [Heap.next_alloc, Heap.next_set]; omega))) only [D3, mm_max, mm_min, cells_alloc_at, cells_alloc_ne, cells_set_at, cells_set_ne, dop, dA, sets, yfield1, yfieldN, yfieldAddr, Int.reduceNegSucc, Int.reduceEq, Nat.reduceLeDiff, Nat.reduceSub, Nat.reduceAdd, gt_st, full_st, hF, hA, ↓reduceIte, Nat.reduceEqDiff, Nat.reduceLT, decide_true, decide_false, Bool.false_eq_true, e4]; with_reducible rfl) ?_
  simp only [List.drop_succ_cons, List.drop_zero]
  refine VI.callA rfl (f19_ok n q _) (by simp only [List.map_cons, List.map_nil, dA, gt_st, full_st, hF, hA, ↓reduceIte, Nat.reduceEqDiff, Nat.reduceLT, decide_true, decide_false, Bool.false_eq_true, List.nil_append, List.append_nil, List.cons_append]; try rfl) (fun H5 g5 => ?_)
  rw [c4.1, c4.2]
  refine VI.line' (by simp +contextual (maxSteps := 1000000) (disch := (first | omega | (simp only [Heap.next_alloc, Heap.next_set]; omega))) only [D3, mm_max, mm_min, cells_alloc_at, cells_alloc_ne, cells_set_at, cells_set_ne, dop, dA, sets, yfield1, yfieldN, yfieldAddr, Int.reduceNegSucc, Int.reduceEq, Nat.reduceLeDiff, Nat.reduceSub, Nat.reduceAdd, gt_st, full_st, hF, hA, ↓reduceIte, Nat.reduceEqDiff, Nat.reduceLT, decide_true, decide_false, Bool.false_eq_true]; with_reducible rfl) ?_
  (repeat first | refine V.seq ?_ | refine V.block ?_ | refine V.scope ?_ | refine V.skip ?_ | refine V.close ?_)
  refine V.run ?_
  refine VI.steps' 3 (by simp +contextual (maxSteps := 1000000) (disch := (first | omega | (simp only [Heap.next_alloc, Heap.next_set]; omega))) only [D3, mm_max, mm_min, cells_alloc_at, cells_alloc_ne, cells_set_at, cells_set_ne, dop, dA, sets, yfield1, yfieldN, yfieldAddr, Int.reduceNegSucc, Int.reduceEq, Nat.reduceLeDiff, Nat.reduceSub, Nat.reduceAdd, gt_st, full_st, hF, hA, ↓reduceIte, Nat.reduceEqDiff, Nat.reduceLT, decide_true, decide_false, Bool.false_eq_true, e5]; with_reducible rfl) ?_
  simp only [List.drop_succ_cons, List.drop_zero]
  refine VI.callA rfl (f19_ok ((n + 1 : Nat) : Int) ((q + 1 : Nat) : Int) _) (by simp only [List.map_cons, List.map_nil, dA, gt_st, full_st, hF, hA, ↓reduceIte, Nat.reduceEqDiff, Nat.reduceLT, decide_true, decide_false, Bool.false_eq_true, List.nil_append, List.append_nil, List.cons_append]; try rfl) (fun H6 g6 => ?_)
  rw [c5.1, c5.2]
  refine VI.line' (by simp +contextual (maxSteps := 1000000) (disch := (first | omega | (simp only [Heap.next_alloc, Heap.next_set]; omega))) only [D3, mm_max, mm_min, cells_alloc_at, cells_alloc_ne, cells_set_at, cells_set_ne, dop, dA, sets, yfield1, yfieldN, yfieldAddr, Int.reduceNegSucc, Int.reduceEq, Nat.reduceLeDiff, Nat.reduceSub, Nat.reduceAdd, gt_st, full_st, hF, hA, ↓reduceIte, Nat.reduceEqDiff, Nat.reduceLT, decide_true, decide_false, Bool.false_eq_true]; with_reducible rfl) ?_
  (repeat first | refine V.seq ?_ | refine V.block ?_ | refine V.scope ?_ | refine V.skip ?_ | refine V.close ?_)
  refine V.re [(7, I ((ch n (q + 1) : Nat) : Int)), (13, I ((ch n q : Nat) : Int)), (14, I 0), (15, I ((ch (n + 1) (q + 1) : Nat) : Int)), (16, I 0)] (N := 104) (by intro i; simp only [full_st, hF]) (by simp only [Kn, gt_st, full_st, hF, hA, ↓reduceIte, Nat.reduceEqDiff, Nat.reduceLT, decide_true, decide_false, Bool.false_eq_true, and_self, and_true, true_and]; try (repeat' constructor)) ?_
  clear hF hA
  intro t hF hA
  simp only [Kn, and_true] at hA
  refine V.run ?_
  refine VI.steps' 9 (by simp +contextual (maxSteps := 1000000) (disch := (first | omega | (simp only [Heap.next_alloc, Heap.next_set]; omega))) only [D3, mm_max, mm_min, cells_alloc_at, cells_alloc_ne, cells_set_at, cells_set_ne, dop, dA, sets, yfield1, yfieldN, yfieldAddr, Int.reduceNegSucc, Int.reduceEq, Nat.reduceLeDiff, Nat.reduceSub, Nat.reduceAdd, gt_st, full_st, hF, hA, ↓reduceIte, Nat.reduceEqDiff, Nat.reduceLT, decide_true, decide_false, Bool.false_eq_true, e6]; with_reducible rfl) ?_
  simp only [List.drop_succ_cons, List.drop_zero]
  refine VI.steps' 5 (by simp +contextual (maxSteps := 1000000) (disch := (first | omega | (simp only [Heap.next_alloc, Heap.next_set]; omega))) only [D3, mm_max, mm_min, cells_alloc_at, cells_alloc_ne, cells_set_at, cells_set_ne, dop, dA, sets, yfield1, yfieldN, yfieldAddr, Int.reduceNegSucc, Int.reduceEq, Nat.reduceLeDiff, Nat.reduceSub, Nat.reduceAdd, gt_st, full_st, hF, hA, ↓reduceIte, Nat.reduceEqDiff, Nat.reduceLT, decide_true, decide_false, Bool.false_eq_true, e6]; with_reducible rfl) ?_
  simp only [List.drop_succ_cons, List.drop_zero]
  refine VI.callAT (by simp only [gt_st, full_st, hF, hA, ↓reduceIte, Nat.reduceEqDiff, Nat.reduceLT, decide_true, decide_false, Bool.false_eq_true]; try rfl) rfl (f24_ok _) (by simp only [List.map_cons, List.map_nil, dA, gt_st, full_st, hF, hA, ↓reduceIte, Nat.reduceEqDiff, Nat.reduceLT, decide_true, decide_false, Bool.false_eq_true, List.nil_append, List.append_nil, List.cons_append]; try rfl) (fun H8 g8 => ?_)
  refine VI.line' (by simp +contextual (maxSteps := 1000000) (disch := (first | omega | (simp only [Heap.next_alloc, Heap.next_set]; omega))) only [D3, mm_max, mm_min, cells_alloc_at, cells_alloc_ne, cells_set_at, cells_set_ne, dop, dA, sets, yfield1, yfieldN, yfieldAddr, Int.reduceNegSucc, Int.reduceEq, Nat.reduceLeDiff, Nat.reduceSub, Nat.reduceAdd, gt_st, full_st, hF, hA, ↓reduceIte, Nat.reduceEqDiff, Nat.reduceLT, decide_true, decide_false, Bool.false_eq_true]; with_reducible rfl) ?_
  (repeat first | refine V.seq ?_ | refine V.block ?_ | refine V.scope ?_ | refine V.skip ?_ | refine V.close ?_)
  refine V.ret (V.rets rfl (Lv.retF (by simp +contextual (disch := (first | omega | (simp only [Heap.next_alloc, Heap.next_set]; omega))) only [D1, cells_alloc_at, cells_alloc_ne, cells_set_at, cells_set_ne, yres, yres1, yresL, Nat.reduceLeDiff, Nat.reduceSub, Nat.reduceAdd, gt_st, full_st, hF, hA, ↓reduceIte, Nat.reduceEqDiff, Nat.reduceLT, decide_true, decide_false, Bool.false_eq_true]; rfl) ?_))
  rfl
end Go.Xe.TMX
