/- What functions of the layer age come to. Conditions: none. -/
import Derived.Test.YtefoodhfkkcmcaaZm
import Derived.Test.YtefoodhfkkcmcaaTAX
-- MOD TA
namespace Go.Xe.TAX
open Go Go.Xe Go.Proofs
set_option maxRecDepth 100000
set_option maxHeartbeats 1600000
set_option linter.unusedSimpArgs false
noncomputable def d22 : FCode := (.seq (.run (.go (.box 23 (.tmp (pth 0))) (pth 1) ::
.go (.alloc 28 [(.int .i64 (.ofNat 0)),(.int .i64 (.ofNat 0)),(.int .i64 (.ofNat 0)),(.int .i64 (.ofNat 0))]) (pth 2) ::
[])) (.seq (.run (.go (.fieldAddr 0 (.tmp (pth 1))) (pth 3) ::
.go (.load1 (.tmp (pth 3))) (pth 4) ::
.go (.fieldAddr 1 (.tmp (pth 1))) (pth 5) ::
.go (.load1 (.tmp (pth 5))) (pth 6) ::
.go (.fieldAddr 2 (.tmp (pth 1))) (pth 7) ::
.go (.load1 (.tmp (pth 7))) (pth 8) ::
.go (.fieldAddr 3 (.tmp (pth 1))) (pth 9) ::
.go (.load1 (.tmp (pth 9))) (pth 10) ::
.go (.build [(.int .i64 (.ofNat 0)),(.int .i64 (.ofNat 0)),(.int .i64 (.ofNat 0)),(.int .i64 (.ofNat 0))] [(0,1,(.tmp (pth 4))),(1,1,(.tmp (pth 6))),(2,1,(.tmp (pth 8))),(3,1,(.tmp (pth 10)))]) (pth 11) ::
.un (.store 4 (.tmp (pth 2)) (.tmp (pth 11))) ::
[])) .ret))
theorem de22 : @compF Try.prog (Gl.none Try.prog) Try.f22 1 = .mk d22 (mkTT 12) [(pth 0)] [.many (pth 2) 4] := by kernel_rfl
theorem dg22 : Try.prog.funcs[22]? = some Try.f22 := Try.func22
theorem do22 : okF Try.prog Try.f22 = true := by kernel_rfl
noncomputable def d34 : FCode := (.seq (.run (.go (.alloc 48 [(.int .i64 (.ofNat 0)),(.int .i64 (.ofNat 0))]) (pth 4) ::
[])) (.seq (.run (.go (.move (.tmp (pth 0))) (pth 5) ::
.go (.move (.tmp (pth 1))) (pth 6) ::
.go (.build [(.int .i64 (.ofNat 0)),(.int .i64 (.ofNat 0))] [(0,1,(.tmp (pth 5))),(1,1,(.tmp (pth 6)))]) (pth 7) ::
.un (.store 2 (.tmp (pth 4)) (.tmp (pth 7))) ::
[])) .ret))
theorem de34 : @compF Try.prog (Gl.none Try.prog) Try.f34 2 = .mk d34 (mkTT 8) [(pth 0),(pth 1)] [.many (pth 4) 2] := by kernel_rfl
theorem dg34 : Try.prog.funcs[34]? = some Try.f34 := Try.func34
theorem do34 : okF Try.prog Try.f34 = true := by kernel_rfl
noncomputable def d73 : FCode := (.seq (.run (.go (.alloc 48 [(.int .i64 (.ofNat 0)),(.int .i64 (.ofNat 0))]) (pth 0) ::
[])) (.seq (.run (.go (.build [(.int .i64 (.ofNat 0)),(.int .i64 (.ofNat 0))] [(0,1,(.con (.int .i64 (.ofNat 0)))),(1,1,(.con (.int .i64 (.ofNat 120))))]) (pth 1) ::
.un (.store 2 (.tmp (pth 0)) (.tmp (pth 1))) ::
[])) .ret))
theorem de73 : @compF Try.prog (Gl.none Try.prog) Try.f73 0 = .mk d73 (mkTT 2) [] [.many (pth 0) 2] := by kernel_rfl
theorem dg73 : Try.prog.funcs[73]? = some Try.f73 := Try.func73
theorem do73 : okF Try.prog Try.f73 = true := by kernel_rfl
noncomputable def d70 : FCode := (.seq (.run (.go (.move (.con (.int .i64 (.ofNat 0)))) (pth 4) ::
[])) (.seq (.run (.go (.move (.tmp (pth 0))) (pth 5) ::
.go (.move (.tmp (pth 1))) (pth 6) ::
.go (.bin .sub 3 (.tmp (pth 5)) (.tmp (pth 6))) (pth 7) ::
.go (.move (.tmp (pth 1))) (pth 8) ::
.go (.move (.tmp (pth 0))) (pth 9) ::
.go (.bin .sub 3 (.tmp (pth 8)) (.tmp (pth 9))) (pth 10) ::
.go (.mm true [(.tmp (pth 7)),(.tmp (pth 10))]) (pth 11) ::
.go (.move (.tmp (pth 11))) (pth 4) ::
[])) .ret))
theorem de70 : @compF Try.prog (Gl.none Try.prog) Try.f70 2 = .mk d70 (mkTT 12) [(pth 0),(pth 1)] [.tmp (pth 4)] := by kernel_rfl
theorem dg70 : Try.prog.funcs[70]? = some Try.f70 := Try.func70
theorem do70 : okF Try.prog Try.f70 = true := by kernel_rfl
noncomputable def d103 : FCode := (.seq (.run (.go (.box 28 (.tmp (pth 0))) (pth 2) ::
.go (.move (.con (.int .i64 (.ofNat 0)))) (pth 4) ::
[])) (.seq (.run (.go (.move (.tmp (pth 1))) (pth 5) ::
.go (.move (.tmp (pth 1))) (pth 6) ::
.go (.fieldAddr 1 (.tmp (pth 2))) (pth 7) ::
.go (.load1 (.tmp (pth 7))) (pth 8) ::
.go (.bin .rem 3 (.tmp (pth 6)) (.tmp (pth 8))) (pth 9) ::
.go (.bin .sub 3 (.tmp (pth 5)) (.tmp (pth 9))) (pth 10) ::
.go (.move (.tmp (pth 10))) (pth 4) ::
[])) .ret))
theorem de103 : @compF Try.prog (Gl.none Try.prog) Try.f103 2 = .mk d103 (mkTT 11) [(pth 0),(pth 1)] [.tmp (pth 4)] := by kernel_rfl
theorem dg103 : Try.prog.funcs[103]? = some Try.f103 := Try.func103
theorem do103 : okF Try.prog Try.f103 = true := by kernel_rfl
noncomputable def d102 : FCode := (.seq (.run (.go (.box 28 (.tmp (pth 0))) (pth 2) ::
.go (.move (.con (.int .i64 (.ofNat 0)))) (pth 4) ::
[])) (.seq (.run (.go (.loadN 4 (.tmp (pth 2))) (pth 5) ::
.go (.move (.tmp (pth 1))) (pth 6) ::
.go (.fieldAddr 1 (.tmp (pth 2))) (pth 7) ::
.go (.load1 (.tmp (pth 7))) (pth 8) ::
.go (.bin .quo 3 (.tmp (pth 8)) (.con (.int .i64 (.ofNat 2)))) (pth 9) ::
.go (.bin .add 3 (.tmp (pth 6)) (.tmp (pth 9))) (pth 10) ::
.go (.call (.con (.func (.func 103) ⟨[]⟩ ⟨[]⟩)) [(.tmp (pth 5)),(.tmp (pth 10))]) (pth 11) ::
.go (.move (.tmp (pth 11))) (pth 4) ::
[])) .ret))
theorem de102 : @compF Try.prog (Gl.none Try.prog) Try.f102 2 = .mk d102 (mkTT 12) [(pth 0),(pth 1)] [.tmp (pth 4)] := by kernel_rfl
theorem dg102 : Try.prog.funcs[102]? = some Try.f102 := Try.func102
theorem do102 : okF Try.prog Try.f102 = true := by kernel_rfl
noncomputable def d25 : FCode := (.seq (.run (.go (.box 23 (.tmp (pth 0))) (pth 1) ::
.go (.move (.con (.bool false))) (pth 2) ::
[])) (.seq (.run (.go (.fieldAddr 0 (.tmp (pth 1))) (pth 3) ::
.go (.load1 (.tmp (pth 3))) (pth 4) ::
.go (.call (.con (.func (.func 27) ⟨[]⟩ ⟨[]⟩)) [(.tmp (pth 4)),(.con (.int .i64 (.ofNat 0))),(.con (.int .i64 (.ofNat 120)))]) (pth 5) ::
.go (.move (.tmp (pth 5))) (pth 6) ::
.gd (pth 6) true (.fieldAddr 1 (.tmp (pth 1))) (pth 7) ::
.gd (pth 6) true (.load1 (.tmp (pth 7))) (pth 8) ::
.gd (pth 6) true (.call (.con (.func (.func 27) ⟨[]⟩ ⟨[]⟩)) [(.tmp (pth 8)),(.con (.int .i64 (.ofNat 1))),(.con (.int .i64 (.ofNat 12)))]) (pth 9) ::
.go (.pick (.tmp (pth 6)) (.tmp (pth 9)) (.con (.bool false))) (pth 10) ::
.go (.move (.tmp (pth 10))) (pth 11) ::
.gd (pth 11) true (.fieldAddr 2 (.tmp (pth 1))) (pth 12) ::
.gd (pth 11) true (.load1 (.tmp (pth 12))) (pth 13) ::
.gd (pth 11) true (.call (.con (.func (.func 27) ⟨[]⟩ ⟨[]⟩)) [(.tmp (pth 13)),(.con (.int .i64 (.ofNat 0))),(.con (.int .i64 (.ofNat 1)))]) (pth 14) ::
.go (.pick (.tmp (pth 11)) (.tmp (pth 14)) (.con (.bool false))) (pth 15) ::
.go (.move (.tmp (pth 15))) (pth 16) ::
.gd (pth 16) true (.fieldAddr 3 (.tmp (pth 1))) (pth 17) ::
.gd (pth 16) true (.load1 (.tmp (pth 17))) (pth 18) ::
.gd (pth 16) true (.call (.con (.func (.func 27) ⟨[]⟩ ⟨[]⟩)) [(.tmp (pth 18)),(.con (.int .i64 (.ofNat 0))),(.con (.int .i64 (.ofNat 5)))]) (pth 19) ::
.go (.pick (.tmp (pth 16)) (.tmp (pth 19)) (.con (.bool false))) (pth 20) ::
.go (.move (.tmp (pth 20))) (pth 2) ::
[])) .ret))
theorem de25 : @compF Try.prog (Gl.none Try.prog) Try.f25 1 = .mk d25 (mkTT 21) [(pth 0)] [.tmp (pth 2)] := by kernel_rfl
theorem dg25 : Try.prog.funcs[25]? = some Try.f25 := Try.func25
theorem do25 : okF Try.prog Try.f25 = true := by kernel_rfl
noncomputable def d64 : FCode := (.seq (.run (.go (.box 28 (.tmp (pth 0))) (pth 1) ::
.go (.move (.con (.bool false))) (pth 2) ::
[])) (.seq (.run (.go (.call (.con (.func (.func 73) ⟨[]⟩ ⟨[]⟩)) []) (pth 5) ::
.go (.build [(.int .i64 (.ofNat 0)),(.int .i64 (.ofNat 0))] [(0,1,(.con (.int .i64 (.ofNat 0)))),(1,1,(.con (.int .i64 (.ofNat 5))))]) (pth 6) ::
.go (.alloc 48 [(.int .i64 (.ofNat 0)),(.int .i64 (.ofNat 0))]) (pth 3) ::
.go (.alloc 48 [(.int .i64 (.ofNat 0)),(.int .i64 (.ofNat 0))]) (pth 4) ::
.un (.store 2 (.tmp (pth 3)) (.tmp (pth 5))) ::
.un (.store 2 (.tmp (pth 4)) (.tmp (pth 6))) ::
[])) (.seq (.run (.go (.loadN 2 (.tmp (pth 3))) (pth 7) ::
.go (.fieldAddr 0 (.tmp (pth 1))) (pth 8) ::
.go (.load1 (.tmp (pth 8))) (pth 9) ::
.go (.call (.con (.func (.func 65) ⟨[]⟩ ⟨[]⟩)) [(.tmp (pth 7)),(.tmp (pth 9))]) (pth 10) ::
.go (.move (.tmp (pth 10))) (pth 11) ::
.gd (pth 11) true (.fieldAddr 1 (.tmp (pth 1))) (pth 12) ::
.gd (pth 11) true (.load1 (.tmp (pth 12))) (pth 13) ::
.gd (pth 11) true (.call (.con (.func (.func 76) ⟨[]⟩ ⟨[]⟩)) [(.tmp (pth 13))]) (pth 14) ::
.go (.pick (.tmp (pth 11)) (.tmp (pth 14)) (.con (.bool false))) (pth 15) ::
.go (.move (.tmp (pth 15))) (pth 16) ::
.gd (pth 16) true (.fieldAddr 2 (.tmp (pth 1))) (pth 17) ::
.gd (pth 16) true (.load1 (.tmp (pth 17))) (pth 18) ::
.gd (pth 16) true (.bin .eql 3 (.tmp (pth 18)) (.con (.int .i64 (.ofNat 0)))) (pth 19) ::
.gd (pth 16) true (.move (.tmp (pth 19))) (pth 20) ::
.gd (pth 20) false (.fieldAddr 2 (.tmp (pth 1))) (pth 21) ::
.gd (pth 20) false (.load1 (.tmp (pth 21))) (pth 22) ::
.gd (pth 20) false (.bin .eql 3 (.tmp (pth 22)) (.con (.int .i64 (.ofNat 1)))) (pth 23) ::
.gd (pth 16) true (.pick (.tmp (pth 20)) (.con (.bool true)) (.tmp (pth 23))) (pth 24) ::
.go (.pick (.tmp (pth 16)) (.tmp (pth 24)) (.con (.bool false))) (pth 25) ::
.go (.move (.tmp (pth 25))) (pth 26) ::
.gd (pth 26) true (.loadN 2 (.tmp (pth 4))) (pth 27) ::
.gd (pth 26) true (.fieldAddr 3 (.tmp (pth 1))) (pth 28) ::
.gd (pth 26) true (.load1 (.tmp (pth 28))) (pth 29) ::
.gd (pth 26) true (.call (.con (.func (.func 65) ⟨[]⟩ ⟨[]⟩)) [(.tmp (pth 27)),(.tmp (pth 29))]) (pth 30) ::
.go (.pick (.tmp (pth 26)) (.tmp (pth 30)) (.con (.bool false))) (pth 31) ::
.go (.move (.tmp (pth 31))) (pth 2) ::
[])) .ret)))
theorem de64 : @compF Try.prog (Gl.none Try.prog) Try.f64 1 = .mk d64 (mkTT 32) [(pth 0)] [.tmp (pth 2)] := by kernel_rfl
theorem dg64 : Try.prog.funcs[64]? = some Try.f64 := Try.func64
theorem do64 : okF Try.prog Try.f64 = true := by kernel_rfl
noncomputable def d72 : FCode := (.seq (.run (.go (.box 48 (.tmp (pth 0))) (pth 2) ::
.go (.box 48 (.tmp (pth 1))) (pth 3) ::
.go (.move (.con (.bool false))) (pth 4) ::
[])) (.seq (.run (.go (.fieldAddr 0 (.tmp (pth 3))) (pth 5) ::
.go (.load1 (.tmp (pth 5))) (pth 6) ::
.go (.fieldAddr 0 (.tmp (pth 2))) (pth 7) ::
.go (.load1 (.tmp (pth 7))) (pth 8) ::
.go (.bin .leq 3 (.tmp (pth 6)) (.tmp (pth 8))) (pth 9) ::
.go (.move (.tmp (pth 9))) (pth 10) ::
.gd (pth 10) true (.fieldAddr 0 (.tmp (pth 2))) (pth 11) ::
.gd (pth 10) true (.load1 (.tmp (pth 11))) (pth 12) ::
.gd (pth 10) true (.fieldAddr 1 (.tmp (pth 2))) (pth 13) ::
.gd (pth 10) true (.load1 (.tmp (pth 13))) (pth 14) ::
.gd (pth 10) true (.bin .leq 3 (.tmp (pth 12)) (.tmp (pth 14))) (pth 15) ::
.go (.pick (.tmp (pth 10)) (.tmp (pth 15)) (.con (.bool false))) (pth 16) ::
.go (.move (.tmp (pth 16))) (pth 17) ::
.gd (pth 17) true (.fieldAddr 1 (.tmp (pth 2))) (pth 18) ::
.gd (pth 17) true (.load1 (.tmp (pth 18))) (pth 19) ::
.gd (pth 17) true (.fieldAddr 1 (.tmp (pth 3))) (pth 20) ::
.gd (pth 17) true (.load1 (.tmp (pth 20))) (pth 21) ::
.gd (pth 17) true (.bin .leq 3 (.tmp (pth 19)) (.tmp (pth 21))) (pth 22) ::
.go (.pick (.tmp (pth 17)) (.tmp (pth 22)) (.con (.bool false))) (pth 23) ::
.go (.move (.tmp (pth 23))) (pth 4) ::
[])) .ret))
theorem de72 : @compF Try.prog (Gl.none Try.prog) Try.f72 2 = .mk d72 (mkTT 24) [(pth 0),(pth 1)] [.tmp (pth 4)] := by kernel_rfl
theorem dg72 : Try.prog.funcs[72]? = some Try.f72 := Try.func72
theorem do72 : okF Try.prog Try.f72 = true := by kernel_rfl
abbrev R4 (a b c d : Int) : List Value := [I a, I b, I c, I d]
abbrev A2 (a b : Int) : List Value := [I a, I b]
theorem f22_ok (a b c d : Int) (H : Heap) : Gives Try.prog 22 [.agg ⟨R4 a b c d⟩] H (.agg ⟨R4 a b c d⟩) := by
  refine F.entryL rfl dg22 do22 de22 rfl (by kernel_rfl) ?_
  simp only [sets]
  refine V.re [(0, .agg ⟨R4 a b c d⟩)] (N := 12) (by intro i; simp only [full_st, Full.mk]) (by simp only [Kn, gt_st, full_st, Full.mk, reduceIte, Nat.reduceEqDiff, Nat.reduceLT, decide_true, and_self]) ?_
  intro t hF hA
  simp only [Kn, and_true] at hA
  (repeat first | refine V.seq ?_ | refine V.block ?_ | refine V.scope ?_ | refine V.skip ?_ | refine V.close ?_)
  refine V.line' (by simp (maxSteps := 1000000) (disch := (first | omega | (simp only [Heap.next_alloc, Heap.next_set]; omega))) only [D2, mm_max, mm_min, cells_alloc_at, cells_alloc_ne, cells_set_at, cells_set_ne, dop, dA, sets, yfield1, yfieldN, yfieldAddr, Int.reduceNegSucc, Int.reduceEq, Nat.reduceLeDiff, Nat.reduceSub, Nat.reduceAdd, gt_st, full_st, hF, hA, reduceIte, Nat.reduceEqDiff, Nat.reduceLT, decide_true, decide_false, Bool.false_eq_true]; with_reducible rfl) ?_
  (repeat first | refine V.seq ?_ | refine V.block ?_ | refine V.scope ?_ | refine V.skip ?_ | refine V.close ?_)
  refine V.line' (by simp (maxSteps := 1000000) (disch := (first | omega | (simp only [Heap.next_alloc, Heap.next_set]; omega))) only [D2, mm_max, mm_min, cells_alloc_at, cells_alloc_ne, cells_set_at, cells_set_ne, dop, dA, sets, yfield1, yfieldN, yfieldAddr, Int.reduceNegSucc, Int.reduceEq, Nat.reduceLeDiff, Nat.reduceSub, Nat.reduceAdd, gt_st, full_st, hF, hA, reduceIte, Nat.reduceEqDiff, Nat.reduceLT, decide_true, decide_false, Bool.false_eq_true]; with_reducible rfl) ?_
  (repeat first | refine V.seq ?_ | refine V.block ?_ | refine V.scope ?_ | refine V.skip ?_ | refine V.close ?_)
  refine V.ret (V.rets rfl (Lv.retG (by simp (disch := (first | omega | (simp only [Heap.next_alloc, Heap.next_set]; omega))) only [D1, cells_alloc_at, cells_alloc_ne, cells_set_at, cells_set_ne, yres, yres1, yresL, Nat.reduceLeDiff, Nat.reduceSub, Nat.reduceAdd, gt_st, full_st, hF, hA, reduceIte, Nat.reduceEqDiff, Nat.reduceLT, decide_true, decide_false, Bool.false_eq_true]; rfl) ?_ ?_))
  · (repeat first | assumption | exact Grow.refl _ | refine Grow.alloc ?_ _ | refine Grow.set ?_ (by first | omega | (simp only [Heap.next_alloc, Heap.next_set]; omega)) _)
  · rfl
theorem f34_ok (a b : Int) (H : Heap) : Gives Try.prog 34 [I a, I b] H (.agg ⟨A2 a b⟩) := by
  refine F.entryL rfl dg34 do34 de34 rfl (by kernel_rfl) ?_
  simp only [sets]
  refine V.re [(0, I a), (1, I b)] (N := 8) (by intro i; simp only [full_st, Full.mk]) (by simp only [Kn, gt_st, full_st, Full.mk, reduceIte, Nat.reduceEqDiff, Nat.reduceLT, decide_true, and_self]) ?_
  intro t hF hA
  simp only [Kn, and_true] at hA
  (repeat first | refine V.seq ?_ | refine V.block ?_ | refine V.scope ?_ | refine V.skip ?_ | refine V.close ?_)
  refine V.line' (by simp (maxSteps := 1000000) (disch := (first | omega | (simp only [Heap.next_alloc, Heap.next_set]; omega))) only [D2, mm_max, mm_min, cells_alloc_at, cells_alloc_ne, cells_set_at, cells_set_ne, dop, dA, sets, yfield1, yfieldN, yfieldAddr, Int.reduceNegSucc, Int.reduceEq, Nat.reduceLeDiff, Nat.reduceSub, Nat.reduceAdd, gt_st, full_st, hF, hA, reduceIte, Nat.reduceEqDiff, Nat.reduceLT, decide_true, decide_false, Bool.false_eq_true]; with_reducible rfl) ?_
  (repeat first | refine V.seq ?_ | refine V.block ?_ | refine V.scope ?_ | refine V.skip ?_ | refine V.close ?_)
  refine V.line' (by simp (maxSteps := 1000000) (disch := (first | omega | (simp only [Heap.next_alloc, Heap.next_set]; omega))) only [D2, mm_max, mm_min, cells_alloc_at, cells_alloc_ne, cells_set_at, cells_set_ne, dop, dA, sets, yfield1, yfieldN, yfieldAddr, Int.reduceNegSucc, Int.reduceEq, Nat.reduceLeDiff, Nat.reduceSub, Nat.reduceAdd, gt_st, full_st, hF, hA, reduceIte, Nat.reduceEqDiff, Nat.reduceLT, decide_true, decide_false, Bool.false_eq_true]; with_reducible rfl) ?_
  (repeat first | refine V.seq ?_ | refine V.block ?_ | refine V.scope ?_ | refine V.skip ?_ | refine V.close ?_)
  refine V.ret (V.rets rfl (Lv.retG (by simp (disch := (first | omega | (simp only [Heap.next_alloc, Heap.next_set]; omega))) only [D1, cells_alloc_at, cells_alloc_ne, cells_set_at, cells_set_ne, yres, yres1, yresL, Nat.reduceLeDiff, Nat.reduceSub, Nat.reduceAdd, gt_st, full_st, hF, hA, reduceIte, Nat.reduceEqDiff, Nat.reduceLT, decide_true, decide_false, Bool.false_eq_true]; rfl) ?_ ?_))
  · (repeat first | assumption | exact Grow.refl _ | refine Grow.alloc ?_ _ | refine Grow.set ?_ (by first | omega | (simp only [Heap.next_alloc, Heap.next_set]; omega)) _)
  · rfl
theorem f73_ok (H : Heap) : Gives Try.prog 73 [] H (.agg ⟨A2 0 120⟩) := by
  refine F.entryL rfl dg73 do73 de73 rfl (by kernel_rfl) ?_
  simp only [sets]
  refine V.re [] (N := 2) (by intro i; simp only [full_st, Full.mk]) (by simp only [Kn, gt_st, full_st, Full.mk, reduceIte, Nat.reduceEqDiff, Nat.reduceLT, decide_true, and_self]) ?_
  intro t hF hA
  (repeat first | refine V.seq ?_ | refine V.block ?_ | refine V.scope ?_ | refine V.skip ?_ | refine V.close ?_)
  refine V.line' (by simp (maxSteps := 1000000) (disch := (first | omega | (simp only [Heap.next_alloc, Heap.next_set]; omega))) only [D2, mm_max, mm_min, cells_alloc_at, cells_alloc_ne, cells_set_at, cells_set_ne, dop, dA, sets, yfield1, yfieldN, yfieldAddr, Int.reduceNegSucc, Int.reduceEq, Nat.reduceLeDiff, Nat.reduceSub, Nat.reduceAdd, gt_st, full_st, hF, hA, reduceIte, Nat.reduceEqDiff, Nat.reduceLT, decide_true, decide_false, Bool.false_eq_true]; with_reducible rfl) ?_
  (repeat first | refine V.seq ?_ | refine V.block ?_ | refine V.scope ?_ | refine V.skip ?_ | refine V.close ?_)
  refine V.line' (by simp (maxSteps := 1000000) (disch := (first | omega | (simp only [Heap.next_alloc, Heap.next_set]; omega))) only [D2, mm_max, mm_min, cells_alloc_at, cells_alloc_ne, cells_set_at, cells_set_ne, dop, dA, sets, yfield1, yfieldN, yfieldAddr, Int.reduceNegSucc, Int.reduceEq, Nat.reduceLeDiff, Nat.reduceSub, Nat.reduceAdd, gt_st, full_st, hF, hA, reduceIte, Nat.reduceEqDiff, Nat.reduceLT, decide_true, decide_false, Bool.false_eq_true]; with_reducible rfl) ?_
  (repeat first | refine V.seq ?_ | refine V.block ?_ | refine V.scope ?_ | refine V.skip ?_ | refine V.close ?_)
  refine V.ret (V.rets rfl (Lv.retG (by simp (disch := (first | omega | (simp only [Heap.next_alloc, Heap.next_set]; omega))) only [D1, cells_alloc_at, cells_alloc_ne, cells_set_at, cells_set_ne, yres, yres1, yresL, Nat.reduceLeDiff, Nat.reduceSub, Nat.reduceAdd, gt_st, full_st, hF, hA, reduceIte, Nat.reduceEqDiff, Nat.reduceLT, decide_true, decide_false, Bool.false_eq_true]; rfl) ?_ ?_))
  · (repeat first | assumption | exact Grow.refl _ | refine Grow.alloc ?_ _ | refine Grow.set ?_ (by first | omega | (simp only [Heap.next_alloc, Heap.next_set]; omega)) _)
  · rfl
theorem f70_ok (a b : Int) (ha : -1000000 ≤ a ∧ a ≤ 1000000) (hb : -1000000 ≤ b ∧ b ≤ 1000000) (H : Heap) : Gives Try.prog 70 [I a, I b] H (I (max (a - b) (b - a))) := by
  refine F.entryL rfl dg70 do70 de70 rfl (by kernel_rfl) ?_
  simp only [sets]
  refine V.re [(0, I a), (1, I b)] (N := 12) (by intro i; simp only [full_st, Full.mk]) (by simp only [Kn, gt_st, full_st, Full.mk, reduceIte, Nat.reduceEqDiff, Nat.reduceLT, decide_true, and_self]) ?_
  intro t hF hA
  simp only [Kn, and_true] at hA
  (repeat first | refine V.seq ?_ | refine V.block ?_ | refine V.scope ?_ | refine V.skip ?_ | refine V.close ?_)
  refine V.line' (by simp (maxSteps := 1000000) (disch := (first | omega | (simp only [Heap.next_alloc, Heap.next_set]; omega))) only [D2, mm_max, mm_min, cells_alloc_at, cells_alloc_ne, cells_set_at, cells_set_ne, dop, dA, sets, yfield1, yfieldN, yfieldAddr, Int.reduceNegSucc, Int.reduceEq, Nat.reduceLeDiff, Nat.reduceSub, Nat.reduceAdd, gt_st, full_st, hF, hA, reduceIte, Nat.reduceEqDiff, Nat.reduceLT, decide_true, decide_false, Bool.false_eq_true]; with_reducible rfl) ?_
  (repeat first | refine V.seq ?_ | refine V.block ?_ | refine V.scope ?_ | refine V.skip ?_ | refine V.close ?_)
  refine V.line' (by simp (maxSteps := 1000000) (disch := (first | omega | (simp only [Heap.next_alloc, Heap.next_set]; omega))) only [D2, mm_max, mm_min, cells_alloc_at, cells_alloc_ne, cells_set_at, cells_set_ne, dop, dA, sets, yfield1, yfieldN, yfieldAddr, Int.reduceNegSucc, Int.reduceEq, Nat.reduceLeDiff, Nat.reduceSub, Nat.reduceAdd, gt_st, full_st, hF, hA, reduceIte, Nat.reduceEqDiff, Nat.reduceLT, decide_true, decide_false, Bool.false_eq_true]; with_reducible rfl) ?_
  (repeat first | refine V.seq ?_ | refine V.block ?_ | refine V.scope ?_ | refine V.skip ?_ | refine V.close ?_)
  refine V.ret (V.rets rfl (Lv.retG (by simp (disch := (first | omega | (simp only [Heap.next_alloc, Heap.next_set]; omega))) only [D1, cells_alloc_at, cells_alloc_ne, cells_set_at, cells_set_ne, yres, yres1, yresL, Nat.reduceLeDiff, Nat.reduceSub, Nat.reduceAdd, gt_st, full_st, hF, hA, reduceIte, Nat.reduceEqDiff, Nat.reduceLT, decide_true, decide_false, Bool.false_eq_true]; rfl) ?_ ?_))
  · (repeat first | assumption | exact Grow.refl _ | refine Grow.alloc ?_ _ | refine Grow.set ?_ (by first | omega | (simp only [Heap.next_alloc, Heap.next_set]; omega)) _)
  · congr 1; split <;> omega
theorem f103_ok (a b c d n : Int) (hb : 1 ≤ b ∧ b ≤ 12) (hn : 0 ≤ n ∧ n ≤ 1000) (H : Heap) : Gives Try.prog 103 [.agg ⟨R4 a b c d⟩, I n] H (I (n - n.tmod b)) := by
  have h1 := tm_le hn.1 (b := b) (by omega)
  have h2 : b ≠ 0 := by omega
  refine F.entryL rfl dg103 do103 de103 rfl (by kernel_rfl) ?_
  simp only [sets]
  refine V.re [(0, .agg ⟨R4 a b c d⟩), (1, I n)] (N := 11) (by intro i; simp only [full_st, Full.mk]) (by simp only [Kn, gt_st, full_st, Full.mk, reduceIte, Nat.reduceEqDiff, Nat.reduceLT, decide_true, and_self]) ?_
  intro t hF hA
  simp only [Kn, and_true] at hA
  (repeat first | refine V.seq ?_ | refine V.block ?_ | refine V.scope ?_ | refine V.skip ?_ | refine V.close ?_)
  refine V.line' (by simp (maxSteps := 1000000) (disch := (first | omega | (simp only [Heap.next_alloc, Heap.next_set]; omega))) only [D2, mm_max, mm_min, cells_alloc_at, cells_alloc_ne, cells_set_at, cells_set_ne, dop, dA, sets, yfield1, yfieldN, yfieldAddr, Int.reduceNegSucc, Int.reduceEq, Nat.reduceLeDiff, Nat.reduceSub, Nat.reduceAdd, gt_st, full_st, hF, hA, reduceIte, Nat.reduceEqDiff, Nat.reduceLT, decide_true, decide_false, Bool.false_eq_true]; with_reducible rfl) ?_
  (repeat first | refine V.seq ?_ | refine V.block ?_ | refine V.scope ?_ | refine V.skip ?_ | refine V.close ?_)
  refine V.line' (by simp (maxSteps := 1000000) (disch := (first | omega | (simp only [Heap.next_alloc, Heap.next_set]; omega))) only [D2, mm_max, mm_min, cells_alloc_at, cells_alloc_ne, cells_set_at, cells_set_ne, dop, dA, sets, yfield1, yfieldN, yfieldAddr, Int.reduceNegSucc, Int.reduceEq, Nat.reduceLeDiff, Nat.reduceSub, Nat.reduceAdd, gt_st, full_st, hF, hA, reduceIte, Nat.reduceEqDiff, Nat.reduceLT, decide_true, decide_false, Bool.false_eq_true, h2]; with_reducible rfl) ?_
  (repeat first | refine V.seq ?_ | refine V.block ?_ | refine V.scope ?_ | refine V.skip ?_ | refine V.close ?_)
  refine V.ret (V.rets rfl (Lv.retG (by simp (disch := (first | omega | (simp only [Heap.next_alloc, Heap.next_set]; omega))) only [D1, cells_alloc_at, cells_alloc_ne, cells_set_at, cells_set_ne, yres, yres1, yresL, Nat.reduceLeDiff, Nat.reduceSub, Nat.reduceAdd, gt_st, full_st, hF, hA, reduceIte, Nat.reduceEqDiff, Nat.reduceLT, decide_true, decide_false, Bool.false_eq_true]; rfl) ?_ ?_))
  · (repeat first | assumption | exact Grow.refl _ | refine Grow.alloc ?_ _ | refine Grow.set ?_ (by first | omega | (simp only [Heap.next_alloc, Heap.next_set]; omega)) _)
  · rfl
theorem f102_ok (a b c d n : Int) (hb : 1 ≤ b ∧ b ≤ 12) (hn : 0 ≤ n ∧ n ≤ 900) (H : Heap) : Gives Try.prog 102 [.agg ⟨R4 a b c d⟩, I n] H (I (n + b / 2 - (n + b / 2).tmod b)) := by
  have h2 : b.tdiv 2 = b / 2 := Int.tdiv_eq_ediv_of_nonneg (by omega)
  refine F.entryL rfl dg102 do102 de102 rfl (by kernel_rfl) ?_
  simp only [sets]
  refine V.re [(0, .agg ⟨R4 a b c d⟩), (1, I n)] (N := 12) (by intro i; simp only [full_st, Full.mk]) (by simp only [Kn, gt_st, full_st, Full.mk, reduceIte, Nat.reduceEqDiff, Nat.reduceLT, decide_true, and_self]) ?_
  intro t hF hA
  simp only [Kn, and_true] at hA
  (repeat first | refine V.seq ?_ | refine V.block ?_ | refine V.scope ?_ | refine V.skip ?_ | refine V.close ?_)
  refine V.line' (by simp (maxSteps := 1000000) (disch := (first | omega | (simp only [Heap.next_alloc, Heap.next_set]; omega))) only [D2, mm_max, mm_min, cells_alloc_at, cells_alloc_ne, cells_set_at, cells_set_ne, dop, dA, sets, yfield1, yfieldN, yfieldAddr, Int.reduceNegSucc, Int.reduceEq, Nat.reduceLeDiff, Nat.reduceSub, Nat.reduceAdd, gt_st, full_st, hF, hA, reduceIte, Nat.reduceEqDiff, Nat.reduceLT, decide_true, decide_false, Bool.false_eq_true]; with_reducible rfl) ?_
  (repeat first | refine V.seq ?_ | refine V.block ?_ | refine V.scope ?_ | refine V.skip ?_ | refine V.close ?_)
  refine V.run ?_
  refine VI.steps' 6 (by simp (maxSteps := 1000000) (disch := (first | omega | (simp only [Heap.next_alloc, Heap.next_set]; omega))) only [D2, mm_max, mm_min, cells_alloc_at, cells_alloc_ne, cells_set_at, cells_set_ne, dop, dA, sets, yfield1, yfieldN, yfieldAddr, Int.reduceNegSucc, Int.reduceEq, Nat.reduceLeDiff, Nat.reduceSub, Nat.reduceAdd, gt_st, full_st, hF, hA, reduceIte, Nat.reduceEqDiff, Nat.reduceLT, decide_true, decide_false, Bool.false_eq_true, h2]; with_reducible rfl) ?_
  simp only [List.drop_succ_cons, List.drop_zero]
  refine VI.callA rfl (f103_ok a b c d (n + b / 2) hb (by omega) _) (by simp only [List.map_cons, List.map_nil, dA, gt_st, full_st, hF, hA, reduceIte, Nat.reduceEqDiff, Nat.reduceLT, decide_true, decide_false, Bool.false_eq_true, List.nil_append, List.append_nil, List.cons_append]; try rfl) (fun H2 g2 => ?_)
  refine VI.line' (by simp (maxSteps := 1000000) (disch := (first | omega | (simp only [Heap.next_alloc, Heap.next_set]; omega))) only [D2, mm_max, mm_min, cells_alloc_at, cells_alloc_ne, cells_set_at, cells_set_ne, dop, dA, sets, yfield1, yfieldN, yfieldAddr, Int.reduceNegSucc, Int.reduceEq, Nat.reduceLeDiff, Nat.reduceSub, Nat.reduceAdd, gt_st, full_st, hF, hA, reduceIte, Nat.reduceEqDiff, Nat.reduceLT, decide_true, decide_false, Bool.false_eq_true]; with_reducible rfl) ?_
  (repeat first | refine V.seq ?_ | refine V.block ?_ | refine V.scope ?_ | refine V.skip ?_ | refine V.close ?_)
  refine V.ret (V.rets rfl (Lv.retG (by simp (disch := (first | omega | (simp only [Heap.next_alloc, Heap.next_set]; omega))) only [D1, cells_alloc_at, cells_alloc_ne, cells_set_at, cells_set_ne, yres, yres1, yresL, Nat.reduceLeDiff, Nat.reduceSub, Nat.reduceAdd, gt_st, full_st, hF, hA, reduceIte, Nat.reduceEqDiff, Nat.reduceLT, decide_true, decide_false, Bool.false_eq_true]; rfl) ?_ ?_))
  · refine Grow.trans ?_ g2
    (repeat first | assumption | exact Grow.refl _ | refine Grow.alloc ?_ _ | refine Grow.set ?_ (by first | omega | (simp only [Heap.next_alloc, Heap.next_set]; omega)) _)
  · rfl
/-- Is the rule valid? -/
def rv (a b c d : Int) : Prop := (0 ≤ a ∧ a ≤ 120) ∧ (1 ≤ b ∧ b ≤ 12) ∧ (0 ≤ c ∧ c ≤ 1) ∧ (0 ≤ d ∧ d ≤ 5)
instance (a b c d : Int) : Decidable (rv a b c d) := by unfold rv; infer_instance
theorem f25_ok (a b c d : Int) (H : Heap) : Gives Try.prog 25 [.agg ⟨R4 a b c d⟩] H (.bool (decide (rv a b c d))) := by
  refine F.entryL rfl dg25 do25 de25 rfl (by kernel_rfl) ?_
  simp only [sets]
  refine V.re [(0, .agg ⟨R4 a b c d⟩)] (N := 21) (by intro i; simp only [full_st, Full.mk]) (by simp only [Kn, gt_st, full_st, Full.mk, reduceIte, Nat.reduceEqDiff, Nat.reduceLT, decide_true, and_self]) ?_
  intro t hF hA
  simp only [Kn, and_true] at hA
  (repeat first | refine V.seq ?_ | refine V.block ?_ | refine V.scope ?_ | refine V.skip ?_ | refine V.close ?_)
  refine V.line' (by simp (maxSteps := 1000000) (disch := (first | omega | (simp only [Heap.next_alloc, Heap.next_set]; omega))) only [D2, mm_max, mm_min, cells_alloc_at, cells_alloc_ne, cells_set_at, cells_set_ne, dop, dA, sets, yfield1, yfieldN, yfieldAddr, Int.reduceNegSucc, Int.reduceEq, Nat.reduceLeDiff, Nat.reduceSub, Nat.reduceAdd, gt_st, full_st, hF, hA, reduceIte, Nat.reduceEqDiff, Nat.reduceLT, decide_true, decide_false, Bool.false_eq_true]; with_reducible rfl) ?_
  (repeat first | refine V.seq ?_ | refine V.block ?_ | refine V.scope ?_ | refine V.skip ?_ | refine V.close ?_)
  refine V.run ?_
  refine VI.steps' 2 (by simp (maxSteps := 1000000) (disch := (first | omega | (simp only [Heap.next_alloc, Heap.next_set]; omega))) only [D2, mm_max, mm_min, cells_alloc_at, cells_alloc_ne, cells_set_at, cells_set_ne, dop, dA, sets, yfield1, yfieldN, yfieldAddr, Int.reduceNegSucc, Int.reduceEq, Nat.reduceLeDiff, Nat.reduceSub, Nat.reduceAdd, gt_st, full_st, hF, hA, reduceIte, Nat.reduceEqDiff, Nat.reduceLT, decide_true, decide_false, Bool.false_eq_true]; with_reducible rfl) ?_
  simp only [List.drop_succ_cons, List.drop_zero]
  refine VI.callA rfl (f27_ok a 0 120 _) (by simp only [List.map_cons, List.map_nil, dA, gt_st, full_st, hF, hA, reduceIte, Nat.reduceEqDiff, Nat.reduceLT, decide_true, decide_false, Bool.false_eq_true, List.nil_append, List.append_nil, List.cons_append]; try rfl) (fun H2 g2 => ?_)
  have b2 : Bx H2 H.next (R4 a b c d) 23 := (Bx.new _ _ _).grow g2
  have g2 : Grow H H2 := ((Grow.refl H).alloc _).trans g2
  by_cases h1 : 0 ≤ a ∧ a ≤ 120
  · refine VI.steps' 3 (by simp (maxSteps := 1000000) (disch := (first | omega | (simp only [Heap.next_alloc, Heap.next_set]; omega))) only [D2, mm_max, mm_min, cells_alloc_at, cells_alloc_ne, cells_set_at, cells_set_ne, dop, dA, sets, yfield1, yfieldN, yfieldAddr, Int.reduceNegSucc, Int.reduceEq, Nat.reduceLeDiff, Nat.reduceSub, Nat.reduceAdd, gt_st, full_st, hF, hA, reduceIte, Nat.reduceEqDiff, Nat.reduceLT, decide_true, decide_false, Bool.false_eq_true, b2.2, h1]; with_reducible rfl) ?_
    simp only [List.drop_succ_cons, List.drop_zero]
    refine VI.callAT (by simp only [gt_st, full_st, hF, hA, reduceIte, Nat.reduceEqDiff, Nat.reduceLT, decide_true, decide_false, Bool.false_eq_true]; try rfl) rfl (f27_ok b 1 12 _) (by simp only [List.map_cons, List.map_nil, dA, gt_st, full_st, hF, hA, reduceIte, Nat.reduceEqDiff, Nat.reduceLT, decide_true, decide_false, Bool.false_eq_true, List.nil_append, List.append_nil, List.cons_append]; try rfl) (fun H3 g3 => ?_)
    have b3 := b2.grow g3
    have g3 := g2.trans g3
    by_cases h2 : 1 ≤ b ∧ b ≤ 12
    · refine VI.steps' 4 (by simp (maxSteps := 1000000) (disch := (first | omega | (simp only [Heap.next_alloc, Heap.next_set]; omega))) only [D2, mm_max, mm_min, cells_alloc_at, cells_alloc_ne, cells_set_at, cells_set_ne, dop, dA, sets, yfield1, yfieldN, yfieldAddr, Int.reduceNegSucc, Int.reduceEq, Nat.reduceLeDiff, Nat.reduceSub, Nat.reduceAdd, gt_st, full_st, hF, hA, reduceIte, Nat.reduceEqDiff, Nat.reduceLT, decide_true, decide_false, Bool.false_eq_true, b3.2, h2]; with_reducible rfl) ?_
      simp only [List.drop_succ_cons, List.drop_zero]
      refine VI.callAT (by simp only [gt_st, full_st, hF, hA, reduceIte, Nat.reduceEqDiff, Nat.reduceLT, decide_true, decide_false, Bool.false_eq_true]; try rfl) rfl (f27_ok c 0 1 _) (by simp only [List.map_cons, List.map_nil, dA, gt_st, full_st, hF, hA, reduceIte, Nat.reduceEqDiff, Nat.reduceLT, decide_true, decide_false, Bool.false_eq_true, List.nil_append, List.append_nil, List.cons_append]; try rfl) (fun H4 g4 => ?_)
      have b4 := b3.grow g4
      have g4 := g3.trans g4
      by_cases h3 : 0 ≤ c ∧ c ≤ 1
      · refine VI.steps' 4 (by simp (maxSteps := 1000000) (disch := (first | omega | (simp only [Heap.next_alloc, Heap.next_set]; omega))) only [D2, mm_max, mm_min, cells_alloc_at, cells_alloc_ne, cells_set_at, cells_set_ne, dop, dA, sets, yfield1, yfieldN, yfieldAddr, Int.reduceNegSucc, Int.reduceEq, Nat.reduceLeDiff, Nat.reduceSub, Nat.reduceAdd, gt_st, full_st, hF, hA, reduceIte, Nat.reduceEqDiff, Nat.reduceLT, decide_true, decide_false, Bool.false_eq_true, b4.2, h3]; with_reducible rfl) ?_
        simp only [List.drop_succ_cons, List.drop_zero]
        refine VI.callAT (by simp only [gt_st, full_st, hF, hA, reduceIte, Nat.reduceEqDiff, Nat.reduceLT, decide_true, decide_false, Bool.false_eq_true]; try rfl) rfl (f27_ok d 0 5 _) (by simp only [List.map_cons, List.map_nil, dA, gt_st, full_st, hF, hA, reduceIte, Nat.reduceEqDiff, Nat.reduceLT, decide_true, decide_false, Bool.false_eq_true, List.nil_append, List.append_nil, List.cons_append]; try rfl) (fun H5 g5 => ?_)
        refine VI.line' (by simp (maxSteps := 1000000) (disch := (first | omega | (simp only [Heap.next_alloc, Heap.next_set]; omega))) only [D2, mm_max, mm_min, cells_alloc_at, cells_alloc_ne, cells_set_at, cells_set_ne, dop, dA, sets, yfield1, yfieldN, yfieldAddr, Int.reduceNegSucc, Int.reduceEq, Nat.reduceLeDiff, Nat.reduceSub, Nat.reduceAdd, gt_st, full_st, hF, hA, reduceIte, Nat.reduceEqDiff, Nat.reduceLT, decide_true, decide_false, Bool.false_eq_true]; with_reducible rfl) ?_
        (repeat first | refine V.seq ?_ | refine V.block ?_ | refine V.scope ?_ | refine V.skip ?_ | refine V.close ?_)
        refine V.ret (V.rets rfl (Lv.retG (by simp (disch := (first | omega | (simp only [Heap.next_alloc, Heap.next_set]; omega))) only [D1, cells_alloc_at, cells_alloc_ne, cells_set_at, cells_set_ne, yres, yres1, yresL, Nat.reduceLeDiff, Nat.reduceSub, Nat.reduceAdd, gt_st, full_st, hF, hA, reduceIte, Nat.reduceEqDiff, Nat.reduceLT, decide_true, decide_false, Bool.false_eq_true]; rfl) ?_ ?_))
        · exact g4.trans g5
        · congr 1; simp [rv, h1, h2, h3]
      · refine VI.line' (by simp (maxSteps := 1000000) (disch := (first | omega | (simp only [Heap.next_alloc, Heap.next_set]; omega))) only [D2, mm_max, mm_min, cells_alloc_at, cells_alloc_ne, cells_set_at, cells_set_ne, dop, dA, sets, yfield1, yfieldN, yfieldAddr, Int.reduceNegSucc, Int.reduceEq, Nat.reduceLeDiff, Nat.reduceSub, Nat.reduceAdd, gt_st, full_st, hF, hA, reduceIte, Nat.reduceEqDiff, Nat.reduceLT, decide_true, decide_false, Bool.false_eq_true, h3]; with_reducible rfl) ?_
        (repeat first | refine V.seq ?_ | refine V.block ?_ | refine V.scope ?_ | refine V.skip ?_ | refine V.close ?_)
        refine V.ret (V.rets rfl (Lv.retG (by simp (disch := (first | omega | (simp only [Heap.next_alloc, Heap.next_set]; omega))) only [D1, cells_alloc_at, cells_alloc_ne, cells_set_at, cells_set_ne, yres, yres1, yresL, Nat.reduceLeDiff, Nat.reduceSub, Nat.reduceAdd, gt_st, full_st, hF, hA, reduceIte, Nat.reduceEqDiff, Nat.reduceLT, decide_true, decide_false, Bool.false_eq_true]; rfl) ?_ ?_))
        · exact g4
        · congr 1; symm; exact decide_eq_false (fun h => h3 h.2.2.1)
    · refine VI.line' (by simp (maxSteps := 1000000) (disch := (first | omega | (simp only [Heap.next_alloc, Heap.next_set]; omega))) only [D2, mm_max, mm_min, cells_alloc_at, cells_alloc_ne, cells_set_at, cells_set_ne, dop, dA, sets, yfield1, yfieldN, yfieldAddr, Int.reduceNegSucc, Int.reduceEq, Nat.reduceLeDiff, Nat.reduceSub, Nat.reduceAdd, gt_st, full_st, hF, hA, reduceIte, Nat.reduceEqDiff, Nat.reduceLT, decide_true, decide_false, Bool.false_eq_true, h2]; with_reducible rfl) ?_
      (repeat first | refine V.seq ?_ | refine V.block ?_ | refine V.scope ?_ | refine V.skip ?_ | refine V.close ?_)
      refine V.ret (V.rets rfl (Lv.retG (by simp (disch := (first | omega | (simp only [Heap.next_alloc, Heap.next_set]; omega))) only [D1, cells_alloc_at, cells_alloc_ne, cells_set_at, cells_set_ne, yres, yres1, yresL, Nat.reduceLeDiff, Nat.reduceSub, Nat.reduceAdd, gt_st, full_st, hF, hA, reduceIte, Nat.reduceEqDiff, Nat.reduceLT, decide_true, decide_false, Bool.false_eq_true]; rfl) ?_ ?_))
      · exact g3
      · congr 1; symm; exact decide_eq_false (fun h => h2 h.2.1)
  · refine VI.line' (by simp (maxSteps := 1000000) (disch := (first | omega | (simp only [Heap.next_alloc, Heap.next_set]; omega))) only [D2, mm_max, mm_min, cells_alloc_at, cells_alloc_ne, cells_set_at, cells_set_ne, dop, dA, sets, yfield1, yfieldN, yfieldAddr, Int.reduceNegSucc, Int.reduceEq, Nat.reduceLeDiff, Nat.reduceSub, Nat.reduceAdd, gt_st, full_st, hF, hA, reduceIte, Nat.reduceEqDiff, Nat.reduceLT, decide_true, decide_false, Bool.false_eq_true, h1]; with_reducible rfl) ?_
    (repeat first | refine V.seq ?_ | refine V.block ?_ | refine V.scope ?_ | refine V.skip ?_ | refine V.close ?_)
    refine V.ret (V.rets rfl (Lv.retG (by simp (disch := (first | omega | (simp only [Heap.next_alloc, Heap.next_set]; omega))) only [D1, cells_alloc_at, cells_alloc_ne, cells_set_at, cells_set_ne, yres, yres1, yresL, Nat.reduceLeDiff, Nat.reduceSub, Nat.reduceAdd, gt_st, full_st, hF, hA, reduceIte, Nat.reduceEqDiff, Nat.reduceLT, decide_true, decide_false, Bool.false_eq_true]; rfl) ?_ ?_))
    · exact g2
    · congr 1; symm; exact decide_eq_false (fun h => h1 h.1)
theorem f64_ok (a b c d : Int) (H : Heap) : Gives Try.prog 64 [.agg ⟨R4 a b c d⟩] H (.bool (decide (rv a b c d))) := by
  refine F.entryL rfl dg64 do64 de64 rfl (by kernel_rfl) ?_
  simp only [sets]
  refine V.re [(0, .agg ⟨R4 a b c d⟩)] (N := 32) (by intro i; simp only [full_st, Full.mk]) (by simp only [Kn, gt_st, full_st, Full.mk, reduceIte, Nat.reduceEqDiff, Nat.reduceLT, decide_true, and_self]) ?_
  intro t hF hA
  simp only [Kn, and_true] at hA
  (repeat first | refine V.seq ?_ | refine V.block ?_ | refine V.scope ?_ | refine V.skip ?_ | refine V.close ?_)
  refine V.line' (by simp (maxSteps := 1000000) (disch := (first | omega | (simp only [Heap.next_alloc, Heap.next_set]; omega))) only [D2, mm_max, mm_min, cells_alloc_at, cells_alloc_ne, cells_set_at, cells_set_ne, dop, dA, sets, yfield1, yfieldN, yfieldAddr, Int.reduceNegSucc, Int.reduceEq, Nat.reduceLeDiff, Nat.reduceSub, Nat.reduceAdd, gt_st, full_st, hF, hA, reduceIte, Nat.reduceEqDiff, Nat.reduceLT, decide_true, decide_false, Bool.false_eq_true]; with_reducible rfl) ?_
  (repeat first | refine V.seq ?_ | refine V.block ?_ | refine V.scope ?_ | refine V.skip ?_ | refine V.close ?_)
  refine V.run ?_
  refine VI.callA rfl (f73_ok _) (by simp only [List.map_cons, List.map_nil, dA, gt_st, full_st, hF, hA, reduceIte, Nat.reduceEqDiff, Nat.reduceLT, decide_true, decide_false, Bool.false_eq_true, List.nil_append, List.append_nil, List.cons_append]; try rfl) (fun H1 g1 => ?_)
  have b1 : Bx H1 H.next (R4 a b c d) 28 := (Bx.new _ _ _).grow g1
  have g1 : Grow H H1 := ((Grow.refl H).alloc _).trans g1
  refine VI.line' (by simp (maxSteps := 1000000) (disch := (first | omega | (simp only [Heap.next_alloc, Heap.next_set]; omega))) only [D2, mm_max, mm_min, cells_alloc_at, cells_alloc_ne, cells_set_at, cells_set_ne, dop, dA, sets, yfield1, yfieldN, yfieldAddr, Int.reduceNegSucc, Int.reduceEq, Nat.reduceLeDiff, Nat.reduceSub, Nat.reduceAdd, gt_st, full_st, hF, hA, reduceIte, Nat.reduceEqDiff, Nat.reduceLT, decide_true, decide_false, Bool.false_eq_true]; with_reducible rfl) ?_
  refine V.heap (fun H2 => Grow H H2 ∧ Bx H2 H.next (R4 a b c d) 28 ∧ Bx H2 H1.next (A2 0 120) 48 ∧ Bx H2 (H1.next + 1) (A2 0 5) 48) ⟨?_, ?_, ?_, ?_⟩ ?_
  · have := g1.1; (repeat first | assumption | exact Grow.refl _ | refine Grow.alloc ?_ _ | refine Grow.set ?_ (by first | omega | (simp only [Heap.next_alloc, Heap.next_set]; omega)) _)
  · have := b1.1; (repeat first | assumption | exact Bx.new _ _ _ | exact Bx.newAt (by first | omega | (simp only [Heap.next_alloc, Heap.next_set]; omega)) | refine Bx.put (by first | omega | (simp only [Heap.next_alloc, Heap.next_set]; omega)) _ _ | refine Bx.alloc ?_ _ | refine Bx.set ?_ (by first | omega | (simp only [Heap.next_alloc, Heap.next_set]; omega)) _)
  · (repeat first | assumption | exact Bx.new _ _ _ | exact Bx.newAt (by first | omega | (simp only [Heap.next_alloc, Heap.next_set]; omega)) | refine Bx.put (by first | omega | (simp only [Heap.next_alloc, Heap.next_set]; omega)) _ _ | refine Bx.alloc ?_ _ | refine Bx.set ?_ (by first | omega | (simp only [Heap.next_alloc, Heap.next_set]; omega)) _)
  · (repeat first | assumption | exact Bx.new _ _ _ | exact Bx.newAt (by first | omega | (simp only [Heap.next_alloc, Heap.next_set]; omega)) | refine Bx.put (by first | omega | (simp only [Heap.next_alloc, Heap.next_set]; omega)) _ _ | refine Bx.alloc ?_ _ | refine Bx.set ?_ (by first | omega | (simp only [Heap.next_alloc, Heap.next_set]; omega)) _)
  rintro H2 ⟨g2, b2, c2, e2⟩
  (repeat first | refine V.seq ?_ | refine V.block ?_ | refine V.scope ?_ | refine V.skip ?_ | refine V.close ?_)
  refine V.run ?_
  refine VI.steps' 3 (by simp (maxSteps := 1000000) (disch := (first | omega | (simp only [Heap.next_alloc, Heap.next_set]; omega))) only [D2, mm_max, mm_min, cells_alloc_at, cells_alloc_ne, cells_set_at, cells_set_ne, dop, dA, sets, yfield1, yfieldN, yfieldAddr, Int.reduceNegSucc, Int.reduceEq, Nat.reduceLeDiff, Nat.reduceSub, Nat.reduceAdd, gt_st, full_st, hF, hA, reduceIte, Nat.reduceEqDiff, Nat.reduceLT, decide_true, decide_false, Bool.false_eq_true, b2.2, c2.2]; with_reducible rfl) ?_
  simp only [List.drop_succ_cons, List.drop_zero]
  refine VI.callA rfl (f65_ok 0 120 a _) (by simp only [List.map_cons, List.map_nil, dA, gt_st, full_st, hF, hA, reduceIte, Nat.reduceEqDiff, Nat.reduceLT, decide_true, decide_false, Bool.false_eq_true, List.nil_append, List.append_nil, List.cons_append]; try rfl) (fun H3 g3 => ?_)
  have b3 := b2.grow g3
  have e3 := e2.grow g3
  have g3 := g2.trans g3
  by_cases h1 : 0 ≤ a ∧ a ≤ 120
  · refine VI.steps' 3 (by simp (maxSteps := 1000000) (disch := (first | omega | (simp only [Heap.next_alloc, Heap.next_set]; omega))) only [D2, mm_max, mm_min, cells_alloc_at, cells_alloc_ne, cells_set_at, cells_set_ne, dop, dA, sets, yfield1, yfieldN, yfieldAddr, Int.reduceNegSucc, Int.reduceEq, Nat.reduceLeDiff, Nat.reduceSub, Nat.reduceAdd, gt_st, full_st, hF, hA, reduceIte, Nat.reduceEqDiff, Nat.reduceLT, decide_true, decide_false, Bool.false_eq_true, b3.2, h1]; with_reducible rfl) ?_
    simp only [List.drop_succ_cons, List.drop_zero]
    refine VI.callAT (by simp only [gt_st, full_st, hF, hA, reduceIte, Nat.reduceEqDiff, Nat.reduceLT, decide_true, decide_false, Bool.false_eq_true]; try rfl) rfl (f76_ok b _) (by simp only [List.map_cons, List.map_nil, dA, gt_st, full_st, hF, hA, reduceIte, Nat.reduceEqDiff, Nat.reduceLT, decide_true, decide_false, Bool.false_eq_true, List.nil_append, List.append_nil, List.cons_append]; try rfl) (fun H4 g4 => ?_)
    have b4 := b3.grow g4
    have e4 := e3.grow g4
    have g4 := g3.trans g4
    by_cases h2 : 1 ≤ b ∧ b ≤ 12
    · by_cases h3 : c = 0 ∨ c = 1
      · have hc : (0 ≤ c ∧ c ≤ 1) := by omega
        rcases h3 with rfl | rfl
        · refine VI.steps' 9 (by simp (maxSteps := 1000000) (disch := (first | omega | (simp only [Heap.next_alloc, Heap.next_set]; omega))) only [D2, mm_max, mm_min, cells_alloc_at, cells_alloc_ne, cells_set_at, cells_set_ne, dop, dA, sets, yfield1, yfieldN, yfieldAddr, Int.reduceNegSucc, Int.reduceEq, Nat.reduceLeDiff, Nat.reduceSub, Nat.reduceAdd, gt_st, full_st, hF, hA, reduceIte, Nat.reduceEqDiff, Nat.reduceLT, decide_true, decide_false, Bool.false_eq_true, b4.2, e4.2, h2]; with_reducible rfl) ?_
          simp only [List.drop_succ_cons, List.drop_zero]
          refine VI.steps' 6 (by simp (maxSteps := 1000000) (disch := (first | omega | (simp only [Heap.next_alloc, Heap.next_set]; omega))) only [D2, mm_max, mm_min, cells_alloc_at, cells_alloc_ne, cells_set_at, cells_set_ne, dop, dA, sets, yfield1, yfieldN, yfieldAddr, Int.reduceNegSucc, Int.reduceEq, Nat.reduceLeDiff, Nat.reduceSub, Nat.reduceAdd, gt_st, full_st, hF, hA, reduceIte, Nat.reduceEqDiff, Nat.reduceLT, decide_true, decide_false, Bool.false_eq_true, b4.2, e4.2, h2]; with_reducible rfl) ?_
          simp only [List.drop_succ_cons, List.drop_zero]
          refine VI.callAT (by simp only [gt_st, full_st, hF, hA, reduceIte, Nat.reduceEqDiff, Nat.reduceLT, decide_true, decide_false, Bool.false_eq_true]; try rfl) rfl (f65_ok 0 5 d _) (by simp only [List.map_cons, List.map_nil, dA, gt_st, full_st, hF, hA, reduceIte, Nat.reduceEqDiff, Nat.reduceLT, decide_true, decide_false, Bool.false_eq_true, List.nil_append, List.append_nil, List.cons_append]; try rfl) (fun H5 g5 => ?_)
          refine VI.line' (by simp (maxSteps := 1000000) (disch := (first | omega | (simp only [Heap.next_alloc, Heap.next_set]; omega))) only [D2, mm_max, mm_min, cells_alloc_at, cells_alloc_ne, cells_set_at, cells_set_ne, dop, dA, sets, yfield1, yfieldN, yfieldAddr, Int.reduceNegSucc, Int.reduceEq, Nat.reduceLeDiff, Nat.reduceSub, Nat.reduceAdd, gt_st, full_st, hF, hA, reduceIte, Nat.reduceEqDiff, Nat.reduceLT, decide_true, decide_false, Bool.false_eq_true]; with_reducible rfl) ?_
          (repeat first | refine V.seq ?_ | refine V.block ?_ | refine V.scope ?_ | refine V.skip ?_ | refine V.close ?_)
          refine V.ret (V.rets rfl (Lv.retG (by simp (disch := (first | omega | (simp only [Heap.next_alloc, Heap.next_set]; omega))) only [D1, cells_alloc_at, cells_alloc_ne, cells_set_at, cells_set_ne, yres, yres1, yresL, Nat.reduceLeDiff, Nat.reduceSub, Nat.reduceAdd, gt_st, full_st, hF, hA, reduceIte, Nat.reduceEqDiff, Nat.reduceLT, decide_true, decide_false, Bool.false_eq_true]; rfl) ?_ ?_))
          · exact g4.trans g5
          · congr 1; simp [rv, h1, h2]
        · refine VI.steps' 9 (by simp (maxSteps := 1000000) (disch := (first | omega | (simp only [Heap.next_alloc, Heap.next_set]; omega))) only [D2, mm_max, mm_min, cells_alloc_at, cells_alloc_ne, cells_set_at, cells_set_ne, dop, dA, sets, yfield1, yfieldN, yfieldAddr, Int.reduceNegSucc, Int.reduceEq, Nat.reduceLeDiff, Nat.reduceSub, Nat.reduceAdd, gt_st, full_st, hF, hA, reduceIte, Nat.reduceEqDiff, Nat.reduceLT, decide_true, decide_false, Bool.false_eq_true, b4.2, e4.2, h2]; with_reducible rfl) ?_
          simp only [List.drop_succ_cons, List.drop_zero]
          refine VI.steps' 6 (by simp (maxSteps := 1000000) (disch := (first | omega | (simp only [Heap.next_alloc, Heap.next_set]; omega))) only [D2, mm_max, mm_min, cells_alloc_at, cells_alloc_ne, cells_set_at, cells_set_ne, dop, dA, sets, yfield1, yfieldN, yfieldAddr, Int.reduceNegSucc, Int.reduceEq, Nat.reduceLeDiff, Nat.reduceSub, Nat.reduceAdd, gt_st, full_st, hF, hA, reduceIte, Nat.reduceEqDiff, Nat.reduceLT, decide_true, decide_false, Bool.false_eq_true, b4.2, e4.2, h2]; with_reducible rfl) ?_
          simp only [List.drop_succ_cons, List.drop_zero]
          refine VI.callAT (by simp only [gt_st, full_st, hF, hA, reduceIte, Nat.reduceEqDiff, Nat.reduceLT, decide_true, decide_false, Bool.false_eq_true]; try rfl) rfl (f65_ok 0 5 d _) (by simp only [List.map_cons, List.map_nil, dA, gt_st, full_st, hF, hA, reduceIte, Nat.reduceEqDiff, Nat.reduceLT, decide_true, decide_false, Bool.false_eq_true, List.nil_append, List.append_nil, List.cons_append]; try rfl) (fun H5 g5 => ?_)
          refine VI.line' (by simp (maxSteps := 1000000) (disch := (first | omega | (simp only [Heap.next_alloc, Heap.next_set]; omega))) only [D2, mm_max, mm_min, cells_alloc_at, cells_alloc_ne, cells_set_at, cells_set_ne, dop, dA, sets, yfield1, yfieldN, yfieldAddr, Int.reduceNegSucc, Int.reduceEq, Nat.reduceLeDiff, Nat.reduceSub, Nat.reduceAdd, gt_st, full_st, hF, hA, reduceIte, Nat.reduceEqDiff, Nat.reduceLT, decide_true, decide_false, Bool.false_eq_true]; with_reducible rfl) ?_
          (repeat first | refine V.seq ?_ | refine V.block ?_ | refine V.scope ?_ | refine V.skip ?_ | refine V.close ?_)
          refine V.ret (V.rets rfl (Lv.retG (by simp (disch := (first | omega | (simp only [Heap.next_alloc, Heap.next_set]; omega))) only [D1, cells_alloc_at, cells_alloc_ne, cells_set_at, cells_set_ne, yres, yres1, yresL, Nat.reduceLeDiff, Nat.reduceSub, Nat.reduceAdd, gt_st, full_st, hF, hA, reduceIte, Nat.reduceEqDiff, Nat.reduceLT, decide_true, decide_false, Bool.false_eq_true]; rfl) ?_ ?_))
          · exact g4.trans g5
          · congr 1; simp [rv, h1, h2]
      · have n0 : ¬ c = 0 := fun h => h3 (.inl h)
        have n1 : ¬ c = 1 := fun h => h3 (.inr h)
        refine VI.line' (by simp (maxSteps := 1000000) (disch := (first | omega | (simp only [Heap.next_alloc, Heap.next_set]; omega))) only [D2, mm_max, mm_min, cells_alloc_at, cells_alloc_ne, cells_set_at, cells_set_ne, dop, dA, sets, yfield1, yfieldN, yfieldAddr, Int.reduceNegSucc, Int.reduceEq, Nat.reduceLeDiff, Nat.reduceSub, Nat.reduceAdd, gt_st, full_st, hF, hA, reduceIte, Nat.reduceEqDiff, Nat.reduceLT, decide_true, decide_false, Bool.false_eq_true, b4.2, h2, n0, n1]; with_reducible rfl) ?_
        (repeat first | refine V.seq ?_ | refine V.block ?_ | refine V.scope ?_ | refine V.skip ?_ | refine V.close ?_)
        refine V.ret (V.rets rfl (Lv.retG (by simp (disch := (first | omega | (simp only [Heap.next_alloc, Heap.next_set]; omega))) only [D1, cells_alloc_at, cells_alloc_ne, cells_set_at, cells_set_ne, yres, yres1, yresL, Nat.reduceLeDiff, Nat.reduceSub, Nat.reduceAdd, gt_st, full_st, hF, hA, reduceIte, Nat.reduceEqDiff, Nat.reduceLT, decide_true, decide_false, Bool.false_eq_true]; rfl) ?_ ?_))
        · exact g4
        · congr 1; symm; exact decide_eq_false (fun h => h3 (by have := h.2.2.1; omega))
    · refine VI.line' (by simp (maxSteps := 1000000) (disch := (first | omega | (simp only [Heap.next_alloc, Heap.next_set]; omega))) only [D2, mm_max, mm_min, cells_alloc_at, cells_alloc_ne, cells_set_at, cells_set_ne, dop, dA, sets, yfield1, yfieldN, yfieldAddr, Int.reduceNegSucc, Int.reduceEq, Nat.reduceLeDiff, Nat.reduceSub, Nat.reduceAdd, gt_st, full_st, hF, hA, reduceIte, Nat.reduceEqDiff, Nat.reduceLT, decide_true, decide_false, Bool.false_eq_true, h2]; with_reducible rfl) ?_
      (repeat first | refine V.seq ?_ | refine V.block ?_ | refine V.scope ?_ | refine V.skip ?_ | refine V.close ?_)
      refine V.ret (V.rets rfl (Lv.retG (by simp (disch := (first | omega | (simp only [Heap.next_alloc, Heap.next_set]; omega))) only [D1, cells_alloc_at, cells_alloc_ne, cells_set_at, cells_set_ne, yres, yres1, yresL, Nat.reduceLeDiff, Nat.reduceSub, Nat.reduceAdd, gt_st, full_st, hF, hA, reduceIte, Nat.reduceEqDiff, Nat.reduceLT, decide_true, decide_false, Bool.false_eq_true]; rfl) ?_ ?_))
      · exact g4
      · congr 1; symm; exact decide_eq_false (fun h => h2 h.2.1)
  · refine VI.line' (by simp (maxSteps := 1000000) (disch := (first | omega | (simp only [Heap.next_alloc, Heap.next_set]; omega))) only [D2, mm_max, mm_min, cells_alloc_at, cells_alloc_ne, cells_set_at, cells_set_ne, dop, dA, sets, yfield1, yfieldN, yfieldAddr, Int.reduceNegSucc, Int.reduceEq, Nat.reduceLeDiff, Nat.reduceSub, Nat.reduceAdd, gt_st, full_st, hF, hA, reduceIte, Nat.reduceEqDiff, Nat.reduceLT, decide_true, decide_false, Bool.false_eq_true, h1]; with_reducible rfl) ?_
    (repeat first | refine V.seq ?_ | refine V.block ?_ | refine V.scope ?_ | refine V.skip ?_ | refine V.close ?_)
    refine V.ret (V.rets rfl (Lv.retG (by simp (disch := (first | omega | (simp only [Heap.next_alloc, Heap.next_set]; omega))) only [D1, cells_alloc_at, cells_alloc_ne, cells_set_at, cells_set_ne, yres, yres1, yresL, Nat.reduceLeDiff, Nat.reduceSub, Nat.reduceAdd, gt_st, full_st, hF, hA, reduceIte, Nat.reduceEqDiff, Nat.reduceLT, decide_true, decide_false, Bool.false_eq_true]; rfl) ?_ ?_))
    · exact g3
    · congr 1; symm; exact decide_eq_false (fun h => h1 h.1)
theorem f72_ok (a b c d : Int) (H : Heap) : Gives Try.prog 72 [.agg ⟨A2 a b⟩, .agg ⟨A2 c d⟩] H (.bool (decide (c ≤ a ∧ a ≤ b ∧ b ≤ d))) := by
  refine F.entryL rfl dg72 do72 de72 rfl (by kernel_rfl) ?_
  simp only [sets]
  refine V.re [(0, .agg ⟨A2 a b⟩), (1, .agg ⟨A2 c d⟩)] (N := 24) (by intro i; simp only [full_st, Full.mk]) (by simp only [Kn, gt_st, full_st, Full.mk, reduceIte, Nat.reduceEqDiff, Nat.reduceLT, decide_true, and_self]) ?_
  intro t hF hA
  simp only [Kn, and_true] at hA
  (repeat first | refine V.seq ?_ | refine V.block ?_ | refine V.scope ?_ | refine V.skip ?_ | refine V.close ?_)
  refine V.line' (by simp (maxSteps := 1000000) (disch := (first | omega | (simp only [Heap.next_alloc, Heap.next_set]; omega))) only [D2, mm_max, mm_min, cells_alloc_at, cells_alloc_ne, cells_set_at, cells_set_ne, dop, dA, sets, yfield1, yfieldN, yfieldAddr, Int.reduceNegSucc, Int.reduceEq, Nat.reduceLeDiff, Nat.reduceSub, Nat.reduceAdd, gt_st, full_st, hF, hA, reduceIte, Nat.reduceEqDiff, Nat.reduceLT, decide_true, decide_false, Bool.false_eq_true]; with_reducible rfl) ?_
  (repeat first | refine V.seq ?_ | refine V.block ?_ | refine V.scope ?_ | refine V.skip ?_ | refine V.close ?_)
  by_cases h1 : c ≤ a
  · by_cases h2 : a ≤ b
    · refine V.line' (by simp (maxSteps := 1000000) (disch := (first | omega | (simp only [Heap.next_alloc, Heap.next_set]; omega))) only [D2, mm_max, mm_min, cells_alloc_at, cells_alloc_ne, cells_set_at, cells_set_ne, dop, dA, sets, yfield1, yfieldN, yfieldAddr, Int.reduceNegSucc, Int.reduceEq, Nat.reduceLeDiff, Nat.reduceSub, Nat.reduceAdd, gt_st, full_st, hF, hA, reduceIte, Nat.reduceEqDiff, Nat.reduceLT, decide_true, decide_false, Bool.false_eq_true, h1, h2]; with_reducible rfl) ?_
      (repeat first | refine V.seq ?_ | refine V.block ?_ | refine V.scope ?_ | refine V.skip ?_ | refine V.close ?_)
      refine V.ret (V.rets rfl (Lv.retG (by simp (disch := (first | omega | (simp only [Heap.next_alloc, Heap.next_set]; omega))) only [D1, cells_alloc_at, cells_alloc_ne, cells_set_at, cells_set_ne, yres, yres1, yresL, Nat.reduceLeDiff, Nat.reduceSub, Nat.reduceAdd, gt_st, full_st, hF, hA, reduceIte, Nat.reduceEqDiff, Nat.reduceLT, decide_true, decide_false, Bool.false_eq_true]; rfl) ?_ ?_))
      · (repeat first | assumption | exact Grow.refl _ | refine Grow.alloc ?_ _ | refine Grow.set ?_ (by first | omega | (simp only [Heap.next_alloc, Heap.next_set]; omega)) _)
      · simp [h1, h2]
    · refine V.line' (by simp (maxSteps := 1000000) (disch := (first | omega | (simp only [Heap.next_alloc, Heap.next_set]; omega))) only [D2, mm_max, mm_min, cells_alloc_at, cells_alloc_ne, cells_set_at, cells_set_ne, dop, dA, sets, yfield1, yfieldN, yfieldAddr, Int.reduceNegSucc, Int.reduceEq, Nat.reduceLeDiff, Nat.reduceSub, Nat.reduceAdd, gt_st, full_st, hF, hA, reduceIte, Nat.reduceEqDiff, Nat.reduceLT, decide_true, decide_false, Bool.false_eq_true, h1, h2]; with_reducible rfl) ?_
      (repeat first | refine V.seq ?_ | refine V.block ?_ | refine V.scope ?_ | refine V.skip ?_ | refine V.close ?_)
      refine V.ret (V.rets rfl (Lv.retG (by simp (disch := (first | omega | (simp only [Heap.next_alloc, Heap.next_set]; omega))) only [D1, cells_alloc_at, cells_alloc_ne, cells_set_at, cells_set_ne, yres, yres1, yresL, Nat.reduceLeDiff, Nat.reduceSub, Nat.reduceAdd, gt_st, full_st, hF, hA, reduceIte, Nat.reduceEqDiff, Nat.reduceLT, decide_true, decide_false, Bool.false_eq_true]; rfl) ?_ ?_))
      · (repeat first | assumption | exact Grow.refl _ | refine Grow.alloc ?_ _ | refine Grow.set ?_ (by first | omega | (simp only [Heap.next_alloc, Heap.next_set]; omega)) _)
      · simp [h1, h2]
  · refine V.line' (by simp (maxSteps := 1000000) (disch := (first | omega | (simp only [Heap.next_alloc, Heap.next_set]; omega))) only [D2, mm_max, mm_min, cells_alloc_at, cells_alloc_ne, cells_set_at, cells_set_ne, dop, dA, sets, yfield1, yfieldN, yfieldAddr, Int.reduceNegSucc, Int.reduceEq, Nat.reduceLeDiff, Nat.reduceSub, Nat.reduceAdd, gt_st, full_st, hF, hA, reduceIte, Nat.reduceEqDiff, Nat.reduceLT, decide_true, decide_false, Bool.false_eq_true, h1]; with_reducible rfl) ?_
    (repeat first | refine V.seq ?_ | refine V.block ?_ | refine V.scope ?_ | refine V.skip ?_ | refine V.close ?_)
    refine V.ret (V.rets rfl (Lv.retG (by simp (disch := (first | omega | (simp only [Heap.next_alloc, Heap.next_set]; omega))) only [D1, cells_alloc_at, cells_alloc_ne, cells_set_at, cells_set_ne, yres, yres1, yresL, Nat.reduceLeDiff, Nat.reduceSub, Nat.reduceAdd, gt_st, full_st, hF, hA, reduceIte, Nat.reduceEqDiff, Nat.reduceLT, decide_true, decide_false, Bool.false_eq_true]; rfl) ?_ ?_))
    · (repeat first | assumption | exact Grow.refl _ | refine Grow.alloc ?_ _ | refine Grow.set ?_ (by first | omega | (simp only [Heap.next_alloc, Heap.next_set]; omega)) _)
    · simp [h1]
end Go.Xe.TAX
