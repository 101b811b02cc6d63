/- What functions of the layer age come to: true ages, and how many of them lie in a range. Conditions: none. -/
import Derived.Test.YtefoodhfkkcmcaaZr
import Derived.Test.YtefoodhfkkcmcaaTAG
-- MOD TA
namespace Go.Xe.TAX
open Go Go.Xe Go.Proofs
set_option maxRecDepth 100000
set_option maxHeartbeats 1600000
set_option linter.unusedSimpArgs false
noncomputable def d92 : FCode := (.seq (.run (.go (.move (.con (.int .i64 (.ofNat 0)))) (pth 4) ::
[])) (.seq (.seq (.run (.go (.move (.tmp (pth 1))) (pth 7) ::
.go (.len 0 (.tmp (pth 7))) (pth 8) ::
.go (.move (.con (.int .i64 (.ofNat 0)))) (pth 9) ::
[])) (.block 0 (.loop (.seq (.run (.go (.bin .lss 3 (.tmp (pth 9)) (.tmp (pth 8))) (pth 10) ::
[])) (.seq (.cond (.tmp (pth 10)) .skip (.exit 0)) (.seq (.block 1 (.seq (.run (.go (.indexAddr none 1 (.tmp (pth 7)) (.tmp (pth 9))) (pth 11) ::
.go (.load1 (.tmp (pth 11))) (pth 12) ::
.go (.move (.tmp (pth 12))) (pth 6) ::
[])) (.seq (.run (.go (.move (.tmp (pth 6))) (pth 13) ::
.go (.move (.tmp (pth 0))) (pth 14) ::
.go (.bin .gtr 3 (.tmp (pth 13)) (.tmp (pth 14))) (pth 15) ::
[])) (.cond (.tmp (pth 15)) (.run (.go (.move (.tmp (pth 6))) (pth 16) ::
.go (.move (.tmp (pth 16))) (pth 0) ::
[])) .skip)))) (.run (.go (.bin .add 3 (.tmp (pth 9)) (.con (.int .i64 (.ofNat 1)))) (pth 17) ::
.go (.move (.tmp (pth 17))) (pth 9) ::
[])))))))) (.seq (.run (.go (.move (.tmp (pth 0))) (pth 18) ::
.go (.move (.tmp (pth 18))) (pth 4) ::
[])) .ret)))
theorem de92 : @compF Try.prog (Gl.none Try.prog) Try.f92 2 = .mk d92 (mkTT 19) [(pth 0),(pth 1)] [.tmp (pth 4)] := by kernel_rfl
theorem dg92 : Try.prog.funcs[92]? = some Try.f92 := Try.func92
theorem do92 : okF Try.prog Try.f92 = true := by kernel_rfl
noncomputable def d75 : FCode := (.seq (.run (.go (.box 113 (.tmp (pth 0))) (pth 2) ::
.go (.box 48 (.tmp (pth 1))) (pth 3) ::
.go (.move (.con (.int .i64 (.ofNat 0)))) (pth 4) ::
[])) (.seq (.run (.go (.move (.con (.int .i64 (.ofNat 0)))) (pth 5) ::
[])) (.seq (.seq (.run (.go (.move (.con (.int .i64 (.ofNat 0)))) (pth 7) ::
[])) (.block 0 (.loop (.seq (.run (.go (.bin .lss 3 (.tmp (pth 7)) (.con (.int .i64 (.ofNat 121)))) (pth 8) ::
[])) (.seq (.cond (.tmp (pth 8)) .skip (.exit 0)) (.seq (.block 1 (.seq (.run (.go (.move (.tmp (pth 7))) (pth 9) ::
.go (.move (.tmp (pth 9))) (pth 6) ::
[])) (.seq (.run (.go (.move (.tmp (pth 6))) (pth 10) ::
.go (.indexAddr (some 121) 1 (.tmp (pth 2)) (.tmp (pth 10))) (pth 11) ::
.go (.load1 (.tmp (pth 11))) (pth 12) ::
.go (.move (.tmp (pth 12))) (pth 13) ::
.gd (pth 13) true (.loadN 2 (.tmp (pth 3))) (pth 14) ::
.gd (pth 13) true (.move (.tmp (pth 6))) (pth 15) ::
.gd (pth 13) true (.call (.con (.func (.func 65) ⟨[]⟩ ⟨[]⟩)) [(.tmp (pth 14)),(.tmp (pth 15))]) (pth 16) ::
.go (.pick (.tmp (pth 13)) (.tmp (pth 16)) (.con (.bool false))) (pth 17) ::
[])) (.cond (.tmp (pth 17)) (.run (.go (.move (.tmp (pth 5))) (pth 18) ::
.go (.bin .add 3 (.tmp (pth 18)) (.con (.int .i64 (.ofNat 1)))) (pth 19) ::
.go (.move (.tmp (pth 19))) (pth 5) ::
[])) .skip)))) (.run (.go (.bin .add 3 (.tmp (pth 7)) (.con (.int .i64 (.ofNat 1)))) (pth 20) ::
.go (.move (.tmp (pth 20))) (pth 7) ::
[])))))))) (.seq (.run (.go (.move (.tmp (pth 5))) (pth 21) ::
.go (.move (.tmp (pth 21))) (pth 4) ::
[])) .ret))))
theorem de75 : @compF Try.prog (Gl.none Try.prog) Try.f75 2 = .mk d75 (mkTT 22) [(pth 0),(pth 1)] [.tmp (pth 4)] := by kernel_rfl
theorem dg75 : Try.prog.funcs[75]? = some Try.f75 := Try.func75
theorem do75 : okF Try.prog Try.f75 = true := by kernel_rfl
noncomputable def d68 : FCode := (.seq (.run (.go (.box 115 (.tmp (pth 0))) (pth 1) ::
.go (.alloc 113 [(.bool false),(.bool false),(.bool false),(.bool false),(.bool false),(.bool false),(.bool false),(.bool false),(.bool false),(.bool false),(.bool false),(.bool false),(.bool false),(.bool false),(.bool false),(.bool false),(.bool false),(.bool false),(.bool false),(.bool false),(.bool false),(.bool false),(.bool false),(.bool false),(.bool false),(.bool false),(.bool false),(.bool false),(.bool false),(.bool false),(.bool false),(.bool false),(.bool false),(.bool false),(.bool false),(.bool false),(.bool false),(.bool false),(.bool false),(.bool false),(.bool false),(.bool false),(.bool false),(.bool false),(.bool false),(.bool false),(.bool false),(.bool false),(.bool false),(.bool false),(.bool false),(.bool false),(.bool false),(.bool false),(.bool false),(.bool false),(.bool false),(.bool false),(.bool false),(.bool false),(.bool false),(.bool false),(.bool false),(.bool false),(.bool false),(.bool false),(.bool false),(.bool false),(.bool false),(.bool false),(.bool false),(.bool false),(.bool false),(.bool false),(.bool false),(.bool false),(.bool false),(.bool false),(.bool false),(.bool false),(.bool false),(.bool false),(.bool false),(.bool false),(.bool false),(.bool false),(.bool false),(.bool false),(.bool false),(.bool false),(.bool false),(.bool false),(.bool false),(.bool false),(.bool false),(.bool false),(.bool false),(.bool false),(.bool false),(.bool false),(.bool false),(.bool false),(.bool false),(.bool false),(.bool false),(.bool false),(.bool false),(.bool false),(.bool false),(.bool false),(.bool false),(.bool false),(.bool false),(.bool false),(.bool false),(.bool false),(.bool false),(.bool false),(.bool false),(.bool false),(.bool false)]) (pth 2) ::
[])) (.seq (.run (.go (.alloc 113 [(.bool false),(.bool false),(.bool false),(.bool false),(.bool false),(.bool false),(.bool false),(.bool false),(.bool false),(.bool false),(.bool false),(.bool false),(.bool false),(.bool false),(.bool false),(.bool false),(.bool false),(.bool false),(.bool false),(.bool false),(.bool false),(.bool false),(.bool false),(.bool false),(.bool false),(.bool false),(.bool false),(.bool false),(.bool false),(.bool false),(.bool false),(.bool false),(.bool false),(.bool false),(.bool false),(.bool false),(.bool false),(.bool false),(.bool false),(.bool false),(.bool false),(.bool false),(.bool false),(.bool false),(.bool false),(.bool false),(.bool false),(.bool false),(.bool false),(.bool false),(.bool false),(.bool false),(.bool false),(.bool false),(.bool false),(.bool false),(.bool false),(.bool false),(.bool false),(.bool false),(.bool false),(.bool false),(.bool false),(.bool false),(.bool false),(.bool false),(.bool false),(.bool false),(.bool false),(.bool false),(.bool false),(.bool false),(.bool false),(.bool false),(.bool false),(.bool false),(.bool false),(.bool false),(.bool false),(.bool false),(.bool false),(.bool false),(.bool false),(.bool false),(.bool false),(.bool false),(.bool false),(.bool false),(.bool false),(.bool false),(.bool false),(.bool false),(.bool false),(.bool false),(.bool false),(.bool false),(.bool false),(.bool false),(.bool false),(.bool false),(.bool false),(.bool false),(.bool false),(.bool false),(.bool false),(.bool false),(.bool false),(.bool false),(.bool false),(.bool false),(.bool false),(.bool false),(.bool false),(.bool false),(.bool false),(.bool false),(.bool false),(.bool false),(.bool false),(.bool false),(.bool false)]) (pth 3) ::
[])) (.seq (.seq (.run (.go (.move (.con (.int .i64 (.ofNat 0)))) (pth 6) ::
[])) (.block 0 (.loop (.seq (.run (.go (.bin .lss 3 (.tmp (pth 6)) (.con (.int .i64 (.ofNat 121)))) (pth 7) ::
[])) (.seq (.cond (.tmp (pth 7)) .skip (.exit 0)) (.seq (.block 1 (.seq (.run (.go (.move (.tmp (pth 6))) (pth 8) ::
.go (.move (.tmp (pth 8))) (pth 4) ::
[])) (.seq (.run (.go (.move (.tmp (pth 4))) (pth 9) ::
.go (.fieldAddr 0 (.tmp (pth 1))) (pth 10) ::
.go (.fieldAddr 3 (.tmp (pth 10))) (pth 11) ::
.go (.load1 (.tmp (pth 11))) (pth 12) ::
.go (.bin .sub 3 (.tmp (pth 9)) (.tmp (pth 12))) (pth 13) ::
.go (.buildSlice 3 1 [(.int .i64 (.ofNat 0))] [(0,1,(.tmp (pth 13)))]) (pth 14) ::
.go (.call (.con (.func (.func 92) ⟨[]⟩ ⟨[]⟩)) [(.con (.int .i64 (.ofNat 0))),(.tmp (pth 14))]) (pth 15) ::
.go (.move (.tmp (pth 15))) (pth 5) ::
[])) (.block 2 (.loop (.seq (.seq (.run (.go (.move (.tmp (pth 5))) (pth 16) ::
.go (.move (.tmp (pth 4))) (pth 17) ::
.go (.fieldAddr 0 (.tmp (pth 1))) (pth 18) ::
.go (.fieldAddr 3 (.tmp (pth 18))) (pth 19) ::
.go (.load1 (.tmp (pth 19))) (pth 20) ::
.go (.bin .add 3 (.tmp (pth 17)) (.tmp (pth 20))) (pth 21) ::
.go (.bin .leq 3 (.tmp (pth 16)) (.tmp (pth 21))) (pth 22) ::
[])) (.cond (.tmp (pth 22)) .skip (.exit 2))) (.seq (.block 3 (.seq (.draw 7 (.go (.fieldAddr 0 (.tmp (pth 1))) (pth 25) ::
.go (.loadN 4 (.tmp (pth 25))) (pth 26) ::
.go (.move (.tmp (pth 5))) (pth 27) ::
.go (.call (.con (.func (.func 66) ⟨[]⟩ ⟨[]⟩)) [(.tmp (pth 26)),(.tmp (pth 27))]) (pth 28) ::
.go (.fieldAddr 4 (.tmp (pth 1))) (pth 29) ::
.go (.load1 (.tmp (pth 29))) (pth 30) ::
.go (.bin .eql 3 (.tmp (pth 28)) (.tmp (pth 30))) (pth 31) ::
[]) [.ok,.ok,.ok,.ok,.ok,.rd none (.load1 (.tmp (pth 29))) (some (pth 30)) [0],.ok]) (.cond (.tmp (pth 31)) (.run (.go (.move (.tmp (pth 4))) (pth 32) ::
.go (.indexAddr (some 121) 1 (.tmp (pth 3)) (.tmp (pth 32))) (pth 33) ::
.un (.store 1 (.tmp (pth 33)) (.con (.bool true))) ::
[])) .skip))) (.run (.go (.move (.tmp (pth 5))) (pth 23) ::
.go (.bin .add 3 (.tmp (pth 23)) (.con (.int .i64 (.ofNat 1)))) (pth 24) ::
.go (.move (.tmp (pth 24))) (pth 5) ::
[]))))))))) (.run (.go (.bin .add 3 (.tmp (pth 6)) (.con (.int .i64 (.ofNat 1)))) (pth 34) ::
.go (.move (.tmp (pth 34))) (pth 6) ::
[])))))))) (.seq (.run (.go (.loadN 121 (.tmp (pth 3))) (pth 35) ::
.un (.store 121 (.tmp (pth 2)) (.tmp (pth 35))) ::
[])) .ret))))
theorem de68 : @compF Try.prog (Gl.none Try.prog) Try.f68 1 = .mk d68 (mkTT 36) [(pth 0)] [.many (pth 2) 121] := by kernel_rfl
theorem dg68 : Try.prog.funcs[68]? = some Try.f68 := Try.func68
theorem do68 : okF Try.prog Try.f68 = true := by kernel_rfl
theorem f92_ok (a x : Int) {v : Value} {H : Heap} (hS : Sl H v [I x]) : Gives Try.prog 92 [I a, v] H (I (max a x)) := by
  have hlen : ∀ H', Grow H H' → ylen 0 H' v = some (I 1) := fun H' g => (hS.grow g).len
  obtain ⟨q, hq1, hq2⟩ := hS.get (n := 0) (k := 0) (x := I x) (kd := .i64) rfl rfl
  refine F.entryL rfl dg92 do92 de92 rfl (by kernel_rfl) ?_
  simp only [sets]
  refine V.re [(0, I a), (1, v)] (N := 19) (by intro i; simp only [full_st, Full.mk]) (by simp only [Kn, gt_st, full_st, Full.mk, reduceIte, Nat.reduceEqDiff, Nat.reduceLT, decide_true, and_self]) ?_
  intro t hF hA
  simp only [Kn, and_true] at hA
  (repeat first | refine V.seq ?_ | refine V.block ?_ | refine V.scope ?_ | refine V.skip ?_ | refine V.close ?_)
  refine V.line' (by simp (maxSteps := 1000000) (disch := (first | omega | (simp only [Heap.next_alloc, Heap.next_set]; omega))) only [D2, mm_max, mm_min, cells_alloc_at, cells_alloc_ne, cells_set_at, cells_set_ne, dop, dA, sets, yfield1, yfieldN, yfieldAddr, Int.reduceNegSucc, Int.reduceEq, Nat.reduceLeDiff, Nat.reduceSub, Nat.reduceAdd, gt_st, full_st, hF, hA, reduceIte, Nat.reduceEqDiff, Nat.reduceLT, decide_true, decide_false, Bool.false_eq_true]; with_reducible rfl) ?_
  (repeat first | refine V.seq ?_ | refine V.block ?_ | refine V.scope ?_ | refine V.skip ?_ | refine V.close ?_)
  refine V.line' (by simp (maxSteps := 1000000) (disch := (first | omega | (simp only [Heap.next_alloc, Heap.next_set]; omega))) only [D2, mm_max, mm_min, cells_alloc_at, cells_alloc_ne, cells_set_at, cells_set_ne, dop, dA, sets, yfield1, yfieldN, yfieldAddr, Int.reduceNegSucc, Int.reduceEq, Nat.reduceLeDiff, Nat.reduceSub, Nat.reduceAdd, gt_st, full_st, hF, hA, reduceIte, Nat.reduceEqDiff, Nat.reduceLT, decide_true, decide_false, Bool.false_eq_true, hlen _ (Grow.refl H)]; with_reducible rfl) ?_
  (repeat first | refine V.seq ?_ | refine V.block ?_ | refine V.scope ?_ | refine V.skip ?_ | refine V.close ?_)
  refine V.loop (fun n t m H' => ∃ (k : Nat) (y : Int), ((k = 0 ∧ y = a) ∨ (k = 1 ∧ y = max a x)) ∧ n = 1 - k ∧ m = [] ∧ H' = H ∧ Full 19 t ∧ Kn [(0, I y), (7, v), (8, I 1), (9, I k)] t) 1 ?_ ?_
  · exact ⟨0, a, .inl ⟨rfl, rfl⟩, rfl, rfl, rfl, (by intro i; simp only [full_st, hF]), (by simp only [Kn, gt_st, full_st, hF, hA, reduceIte, Nat.reduceEqDiff, Nat.reduceLT, decide_true, decide_false, Bool.false_eq_true, and_self, and_true, true_and]; try (repeat' constructor))⟩
  clear hF hA
  rintro n t m H' ⟨k, y, hk, rfl, rfl, rfl, hF, hA⟩
  simp only [Kn, and_true] at hA
  (repeat first | refine V.seq ?_ | refine V.block ?_ | refine V.scope ?_ | refine V.skip ?_ | refine V.close ?_)
  refine V.line' (by simp (maxSteps := 1000000) (disch := (first | omega | (simp only [Heap.next_alloc, Heap.next_set]; omega))) only [D2, mm_max, mm_min, cells_alloc_at, cells_alloc_ne, cells_set_at, cells_set_ne, dop, dA, sets, yfield1, yfieldN, yfieldAddr, Int.reduceNegSucc, Int.reduceEq, Nat.reduceLeDiff, Nat.reduceSub, Nat.reduceAdd, gt_st, full_st, hF, hA, reduceIte, Nat.reduceEqDiff, Nat.reduceLT, decide_true, decide_false, Bool.false_eq_true]; with_reducible rfl) ?_
  (repeat first | refine V.seq ?_ | refine V.block ?_ | refine V.scope ?_ | refine V.skip ?_ | refine V.close ?_)
  refine V.condP (by simp only [dA, gt_st, full_st, hF, hA, reduceIte, Nat.reduceEqDiff, Nat.reduceLT, decide_true, decide_false, Bool.false_eq_true]; rfl) (fun h1 => ?_) (fun h1 => ?_)
  · obtain ⟨rfl, rfl⟩ : k = 0 ∧ y = a := by omega
    simp only [Int.natCast_zero, Int.ofNat_zero, Int.cast_ofNat_Int, Int.natCast_eq_zero] at hA
    (repeat first | refine V.seq ?_ | refine V.block ?_ | refine V.scope ?_ | refine V.skip ?_ | refine V.close ?_)
    refine V.line' (by simp (maxSteps := 1000000) (disch := (first | omega | (simp only [Heap.next_alloc, Heap.next_set]; omega))) only [D2, mm_max, mm_min, cells_alloc_at, cells_alloc_ne, cells_set_at, cells_set_ne, dop, dA, sets, yfield1, yfieldN, yfieldAddr, Int.reduceNegSucc, Int.reduceEq, Nat.reduceLeDiff, Nat.reduceSub, Nat.reduceAdd, gt_st, full_st, hF, hA, reduceIte, Nat.reduceEqDiff, Nat.reduceLT, decide_true, decide_false, Bool.false_eq_true, hq1, hq2 _ (Grow.refl H'), Int.natCast_zero]; with_reducible rfl) ?_
    (repeat first | refine V.seq ?_ | refine V.block ?_ | refine V.scope ?_ | refine V.skip ?_ | refine V.close ?_)
    refine V.line' (by simp (maxSteps := 1000000) (disch := (first | omega | (simp only [Heap.next_alloc, Heap.next_set]; omega))) only [D2, mm_max, mm_min, cells_alloc_at, cells_alloc_ne, cells_set_at, cells_set_ne, dop, dA, sets, yfield1, yfieldN, yfieldAddr, Int.reduceNegSucc, Int.reduceEq, Nat.reduceLeDiff, Nat.reduceSub, Nat.reduceAdd, gt_st, full_st, hF, hA, reduceIte, Nat.reduceEqDiff, Nat.reduceLT, decide_true, decide_false, Bool.false_eq_true]; with_reducible rfl) ?_
    (repeat first | refine V.seq ?_ | refine V.block ?_ | refine V.scope ?_ | refine V.skip ?_ | refine V.close ?_)
    refine V.cut (fun e t m H'' => e = .normal ∧ m = [] ∧ H'' = H' ∧ Full 19 t ∧ Kn [(0, I (max y x)), (7, v), (8, I 1), (9, I 0)] t) ?_ ?_
    · refine V.condP (by simp only [dA, gt_st, full_st, hF, hA, reduceIte, Nat.reduceEqDiff, Nat.reduceLT, decide_true, decide_false, Bool.false_eq_true]; rfl) (fun h2 => ?_) (fun h2 => ?_)
      · (repeat first | refine V.seq ?_ | refine V.block ?_ | refine V.scope ?_ | refine V.skip ?_ | refine V.close ?_)
        refine V.line' (by simp (maxSteps := 1000000) (disch := (first | omega | (simp only [Heap.next_alloc, Heap.next_set]; omega))) only [D2, mm_max, mm_min, cells_alloc_at, cells_alloc_ne, cells_set_at, cells_set_ne, dop, dA, sets, yfield1, yfieldN, yfieldAddr, Int.reduceNegSucc, Int.reduceEq, Nat.reduceLeDiff, Nat.reduceSub, Nat.reduceAdd, gt_st, full_st, hF, hA, reduceIte, Nat.reduceEqDiff, Nat.reduceLT, decide_true, decide_false, Bool.false_eq_true]; with_reducible rfl) ?_
        have : max y x = x := by omega
        exact ⟨rfl, rfl, rfl, (by intro i; simp only [full_st, hF]), by rw [this]; exact (by simp only [Kn, gt_st, full_st, hF, hA, reduceIte, Nat.reduceEqDiff, Nat.reduceLT, decide_true, decide_false, Bool.false_eq_true, and_self, and_true, true_and]; try (repeat' constructor))⟩
      · (repeat first | refine V.seq ?_ | refine V.block ?_ | refine V.scope ?_ | refine V.skip ?_ | refine V.close ?_)
        have : max y x = y := by omega
        exact ⟨rfl, rfl, rfl, (by intro i; simp only [full_st, hF]), by rw [this]; exact (by simp only [Kn, gt_st, full_st, hF, hA, reduceIte, Nat.reduceEqDiff, Nat.reduceLT, decide_true, decide_false, Bool.false_eq_true, and_self, and_true, true_and]; try (repeat' constructor))⟩
    rintro e t m H'' ⟨rfl, rfl, rfl, hF, hA⟩
    simp only [Kn, and_true] at hA
    (repeat first | refine V.seq ?_ | refine V.block ?_ | refine V.scope ?_ | refine V.skip ?_ | refine V.close ?_)
    refine V.line' (by simp (maxSteps := 1000000) (disch := (first | omega | (simp only [Heap.next_alloc, Heap.next_set]; omega))) only [D2, mm_max, mm_min, cells_alloc_at, cells_alloc_ne, cells_set_at, cells_set_ne, dop, dA, sets, yfield1, yfieldN, yfieldAddr, Int.reduceNegSucc, Int.reduceEq, Nat.reduceLeDiff, Nat.reduceSub, Nat.reduceAdd, gt_st, full_st, hF, hA, reduceIte, Nat.reduceEqDiff, Nat.reduceLT, decide_true, decide_false, Bool.false_eq_true]; with_reducible rfl) ?_
    (repeat first | refine V.seq ?_ | refine V.block ?_ | refine V.scope ?_ | refine V.skip ?_ | refine V.close ?_)
    refine V.nil (Or.inl ⟨rfl, 0, by omega, ?_⟩)
    exact ⟨1, max y x, .inr ⟨rfl, rfl⟩, rfl, rfl, rfl, (by intro i; simp only [full_st, hF]), (by simp only [Kn, gt_st, full_st, hF, hA, reduceIte, Nat.reduceEqDiff, Nat.reduceLT, decide_true, decide_false, Bool.false_eq_true, and_self, and_true, true_and]; try (repeat' constructor))⟩
  · obtain ⟨rfl, rfl⟩ : k = 1 ∧ y = max a x := by omega
    refine V.exit ?_
    (repeat first | refine V.pass ?_ | refine V.here ?_ | refine V.out (by decide) ?_)
    refine V.nil (Or.inr ⟨by simp, ?_⟩)
    (repeat first | refine V.pass ?_ | refine V.here ?_ | refine V.out (by decide) ?_)
    (repeat first | refine V.seq ?_ | refine V.block ?_ | refine V.scope ?_ | refine V.skip ?_ | refine V.close ?_)
    refine V.line' (by simp (maxSteps := 1000000) (disch := (first | omega | (simp only [Heap.next_alloc, Heap.next_set]; omega))) only [D2, mm_max, mm_min, cells_alloc_at, cells_alloc_ne, cells_set_at, cells_set_ne, dop, dA, sets, yfield1, yfieldN, yfieldAddr, Int.reduceNegSucc, Int.reduceEq, Nat.reduceLeDiff, Nat.reduceSub, Nat.reduceAdd, gt_st, full_st, hF, hA, reduceIte, Nat.reduceEqDiff, Nat.reduceLT, decide_true, decide_false, Bool.false_eq_true]; with_reducible rfl) ?_
    (repeat first | refine V.seq ?_ | refine V.block ?_ | refine V.scope ?_ | refine V.skip ?_ | refine V.close ?_)
    refine V.ret (V.rets rfl (Lv.retG (by simp (disch := (first | omega | (simp only [Heap.next_alloc, Heap.next_set]; omega))) only [D1, cells_alloc_at, cells_alloc_ne, cells_set_at, cells_set_ne, yres, yres1, yresL, Nat.reduceLeDiff, Nat.reduceSub, Nat.reduceAdd, gt_st, full_st, hF, hA, reduceIte, Nat.reduceEqDiff, Nat.reduceLT, decide_true, decide_false, Bool.false_eq_true]; rfl) ?_ ?_))
    · exact .refl _
    · rfl
/-- How many of the first n indexes lie in the range, of those of which p is true. -/
def ct (p : Nat → Bool) (lo hi : Int) (n : Nat) : Nat := ((List.range n).filter fun i => p i && decide (lo ≤ i ∧ i ≤ hi)).length
theorem ct_succ (p : Nat → Bool) (lo hi : Int) (n : Nat) : ct p lo hi (n + 1) = ct p lo hi n + (if p n = true ∧ lo ≤ n ∧ n ≤ hi then 1 else 0) := by
  unfold ct
  rw [List.range_succ, List.filter_append, List.length_append]
  congr 1
  by_cases h : p n = true ∧ lo ≤ n ∧ n ≤ hi
  · rw [if_pos h]; simp [h]
  · rw [if_neg h]
    have : (p n && decide (lo ≤ n ∧ n ≤ hi)) = false := by
      cases hp : p n
      · rfl
      · simp only [Bool.true_and]; exact decide_eq_false (fun h' => h ⟨hp, h'⟩)
    rw [List.filter_cons, this]; rfl
theorem ct_le (p : Nat → Bool) (lo hi : Int) (n : Nat) : ct p lo hi n ≤ n := by
  have := List.length_filter_le (fun i => p i && decide (lo ≤ i ∧ i ≤ hi)) (List.range n)
  rw [List.length_range] at this
  exact this
theorem f75_ok (p : Nat → Bool) (lo hi : Int) (H : Heap) : Gives Try.prog 75 [.agg ⟨An 121 fun i => .bool (p i)⟩, .agg ⟨A2 lo hi⟩] H (I (ct p lo hi 121)) := by
  refine F.entryL rfl dg75 do75 de75 rfl (by kernel_rfl) ?_
  simp only [sets]
  refine V.re [(0, .agg ⟨An 121 fun i => .bool (p i)⟩), (1, .agg ⟨A2 lo hi⟩)] (N := 22) (by intro i; simp only [full_st, Full.mk]) (by simp only [Kn, gt_st, full_st, Full.mk, reduceIte, Nat.reduceEqDiff, Nat.reduceLT, decide_true, and_self]) ?_
  intro t hF hA
  simp only [Kn, and_true] at hA
  (repeat first | refine V.seq ?_ | refine V.block ?_ | refine V.scope ?_ | refine V.skip ?_ | refine V.close ?_)
  refine V.line' (by simp (maxSteps := 1000000) (disch := (first | omega | (simp only [Heap.next_alloc, Heap.next_set]; omega))) only [D2, mm_max, mm_min, cells_alloc_at, cells_alloc_ne, cells_set_at, cells_set_ne, dop, dA, sets, yfield1, yfieldN, yfieldAddr, Int.reduceNegSucc, Int.reduceEq, Nat.reduceLeDiff, Nat.reduceSub, Nat.reduceAdd, gt_st, full_st, hF, hA, reduceIte, Nat.reduceEqDiff, Nat.reduceLT, decide_true, decide_false, Bool.false_eq_true]; with_reducible rfl) ?_
  (repeat first | refine V.seq ?_ | refine V.block ?_ | refine V.scope ?_ | refine V.skip ?_ | refine V.close ?_)
  refine V.line' (by simp (maxSteps := 1000000) (disch := (first | omega | (simp only [Heap.next_alloc, Heap.next_set]; omega))) only [D2, mm_max, mm_min, cells_alloc_at, cells_alloc_ne, cells_set_at, cells_set_ne, dop, dA, sets, yfield1, yfieldN, yfieldAddr, Int.reduceNegSucc, Int.reduceEq, Nat.reduceLeDiff, Nat.reduceSub, Nat.reduceAdd, gt_st, full_st, hF, hA, reduceIte, Nat.reduceEqDiff, Nat.reduceLT, decide_true, decide_false, Bool.false_eq_true]; with_reducible rfl) ?_
  (repeat first | refine V.seq ?_ | refine V.block ?_ | refine V.scope ?_ | refine V.skip ?_ | refine V.close ?_)
  refine V.line' (by simp (maxSteps := 1000000) (disch := (first | omega | (simp only [Heap.next_alloc, Heap.next_set]; omega))) only [D2, mm_max, mm_min, cells_alloc_at, cells_alloc_ne, cells_set_at, cells_set_ne, dop, dA, sets, yfield1, yfieldN, yfieldAddr, Int.reduceNegSucc, Int.reduceEq, Nat.reduceLeDiff, Nat.reduceSub, Nat.reduceAdd, gt_st, full_st, hF, hA, reduceIte, Nat.reduceEqDiff, Nat.reduceLT, decide_true, decide_false, Bool.false_eq_true]; with_reducible rfl) ?_
  (repeat first | refine V.seq ?_ | refine V.block ?_ | refine V.scope ?_ | refine V.skip ?_ | refine V.close ?_)
  refine V.heap (fun H2 => Grow H H2 ∧ Bx H2 H.next (An 121 fun i => .bool (p i)) 113 ∧ Bx H2 (H.next + 1) (A2 lo hi) 48) ⟨?_, ?_, ?_⟩ ?_
  · (repeat first | assumption | exact Grow.refl _ | refine Grow.alloc ?_ _ | refine Grow.set ?_ (by first | omega | (simp only [Heap.next_alloc, Heap.next_set]; omega)) _)
  · (repeat first | assumption | exact Bx.new _ _ _ | exact Bx.newAt (by first | omega | (simp only [Heap.next_alloc, Heap.next_set]; omega)) | refine Bx.put (by first | omega | (simp only [Heap.next_alloc, Heap.next_set]; omega)) _ _ | refine Bx.alloc ?_ _ | refine Bx.set ?_ (by first | omega | (simp only [Heap.next_alloc, Heap.next_set]; omega)) _)
  · (repeat first | assumption | exact Bx.new _ _ _ | exact Bx.newAt (by first | omega | (simp only [Heap.next_alloc, Heap.next_set]; omega)) | refine Bx.put (by first | omega | (simp only [Heap.next_alloc, Heap.next_set]; omega)) _ _ | refine Bx.alloc ?_ _ | refine Bx.set ?_ (by first | omega | (simp only [Heap.next_alloc, Heap.next_set]; omega)) _)
  rintro H1 ⟨g1, b1, c1⟩
  refine V.loop (fun n t m H' => ∃ (k y : Nat), k ≤ 121 ∧ n = 121 - k ∧ y = ct p lo hi k ∧ m = [] ∧ Grow H H' ∧ Bx H' H.next (An 121 fun i => .bool (p i)) 113 ∧ Bx H' (H.next + 1) (A2 lo hi) 48 ∧ Full 22 t ∧ Kn [(2, .pointer (some ⟨H.next, 0, none⟩)), (3, .pointer (some ⟨H.next + 1, 0, none⟩)), (5, I y), (7, I k)] t) 121 ?_ ?_
  · exact ⟨0, 0, by omega, by omega, rfl, rfl, g1, b1, c1, (by intro i; simp only [full_st, hF]), (by simp only [Kn, gt_st, full_st, hF, hA, reduceIte, Nat.reduceEqDiff, Nat.reduceLT, decide_true, decide_false, Bool.false_eq_true, and_self, and_true, true_and]; try (repeat' constructor))⟩
  clear hF hA
  rintro n t m H' ⟨k, y, hk, rfl, rfl, rfl, hg, hb, hc, hF, hA⟩
  simp only [Kn, and_true] at hA
  have hy := ct_le p lo hi k
  (repeat first | refine V.seq ?_ | refine V.block ?_ | refine V.scope ?_ | refine V.skip ?_ | refine V.close ?_)
  refine V.line' (by simp (maxSteps := 1000000) (disch := (first | omega | (simp only [Heap.next_alloc, Heap.next_set]; omega))) only [D2, mm_max, mm_min, cells_alloc_at, cells_alloc_ne, cells_set_at, cells_set_ne, dop, dA, sets, yfield1, yfieldN, yfieldAddr, Int.reduceNegSucc, Int.reduceEq, Nat.reduceLeDiff, Nat.reduceSub, Nat.reduceAdd, gt_st, full_st, hF, hA, reduceIte, Nat.reduceEqDiff, Nat.reduceLT, decide_true, decide_false, Bool.false_eq_true]; with_reducible rfl) ?_
  (repeat first | refine V.seq ?_ | refine V.block ?_ | refine V.scope ?_ | refine V.skip ?_ | refine V.close ?_)
  refine V.condP (by simp only [dA, gt_st, full_st, hF, hA, reduceIte, Nat.reduceEqDiff, Nat.reduceLT, decide_true, decide_false, Bool.false_eq_true]; rfl) (fun h1 => ?_) (fun h1 => ?_)
  · have hk' : k < 121 := by omega
    have hs := ct_succ p lo hi k
    (repeat first | refine V.seq ?_ | refine V.block ?_ | refine V.scope ?_ | refine V.skip ?_ | refine V.close ?_)
    refine V.line' (by simp (maxSteps := 1000000) (disch := (first | omega | (simp only [Heap.next_alloc, Heap.next_set]; omega))) only [D2, mm_max, mm_min, cells_alloc_at, cells_alloc_ne, cells_set_at, cells_set_ne, dop, dA, sets, yfield1, yfieldN, yfieldAddr, Int.reduceNegSucc, Int.reduceEq, Nat.reduceLeDiff, Nat.reduceSub, Nat.reduceAdd, gt_st, full_st, hF, hA, reduceIte, Nat.reduceEqDiff, Nat.reduceLT, decide_true, decide_false, Bool.false_eq_true]; with_reducible rfl) ?_
    (repeat first | refine V.seq ?_ | refine V.block ?_ | refine V.scope ?_ | refine V.skip ?_ | refine V.close ?_)
    refine V.cut (fun e t m H'' => e = .normal ∧ m = [] ∧ Grow H H'' ∧ Bx H'' H.next (An 121 fun i => .bool (p i)) 113 ∧ Bx H'' (H.next + 1) (A2 lo hi) 48 ∧ ∃ q : Bool, (q = true ↔ (p k = true ∧ lo ≤ k ∧ k ≤ hi)) ∧ Full 22 t ∧ Kn [(2, .pointer (some ⟨H.next, 0, none⟩)), (3, .pointer (some ⟨H.next + 1, 0, none⟩)), (5, I (ct p lo hi k)), (7, I k), (17, .bool q)] t) ?_ ?_
    · refine V.run ?_
      refine VI.steps' 3 (by simp (maxSteps := 1000000) (disch := (first | omega | (simp only [Heap.next_alloc, Heap.next_set]; omega))) only [D2, mm_max, mm_min, cells_alloc_at, cells_alloc_ne, cells_set_at, cells_set_ne, dop, dA, sets, yfield1, yfieldN, yfieldAddr, Int.reduceNegSucc, Int.reduceEq, Nat.reduceLeDiff, Nat.reduceSub, Nat.reduceAdd, gt_st, full_st, hF, hA, reduceIte, Nat.reduceEqDiff, Nat.reduceLT, decide_true, decide_false, Bool.false_eq_true, idx_arr hk', hb.2, An_get hk']; with_reducible rfl) ?_
      simp only [List.drop_succ_cons, List.drop_zero]
      by_cases hp : p k = true
      · refine VI.steps' 3 (by simp (maxSteps := 1000000) (disch := (first | omega | (simp only [Heap.next_alloc, Heap.next_set]; omega))) only [D2, mm_max, mm_min, cells_alloc_at, cells_alloc_ne, cells_set_at, cells_set_ne, dop, dA, sets, yfield1, yfieldN, yfieldAddr, Int.reduceNegSucc, Int.reduceEq, Nat.reduceLeDiff, Nat.reduceSub, Nat.reduceAdd, gt_st, full_st, hF, hA, reduceIte, Nat.reduceEqDiff, Nat.reduceLT, decide_true, decide_false, Bool.false_eq_true, hc.2, hp]; with_reducible rfl) ?_
        simp only [List.drop_succ_cons, List.drop_zero]
        refine VI.callAT (by simp only [gt_st, full_st, hF, hA, reduceIte, Nat.reduceEqDiff, Nat.reduceLT, decide_true, decide_false, Bool.false_eq_true]; try rfl) rfl (f65_ok lo hi k H') (by simp only [List.map_cons, List.map_nil, dA, gt_st, full_st, hF, hA, reduceIte, Nat.reduceEqDiff, Nat.reduceLT, decide_true, decide_false, Bool.false_eq_true, List.nil_append, List.append_nil, List.cons_append]; try rfl) (fun H2 g2 => ?_)
        refine VI.line' (by simp (maxSteps := 1000000) (disch := (first | omega | (simp only [Heap.next_alloc, Heap.next_set]; omega))) only [D2, mm_max, mm_min, cells_alloc_at, cells_alloc_ne, cells_set_at, cells_set_ne, dop, dA, sets, yfield1, yfieldN, yfieldAddr, Int.reduceNegSucc, Int.reduceEq, Nat.reduceLeDiff, Nat.reduceSub, Nat.reduceAdd, gt_st, full_st, hF, hA, reduceIte, Nat.reduceEqDiff, Nat.reduceLT, decide_true, decide_false, Bool.false_eq_true]; with_reducible rfl) ?_
        exact ⟨rfl, rfl, hg.trans g2, hb.grow g2, hc.grow g2, decide (lo ≤ k ∧ k ≤ hi), by simp [hp], (by intro i; simp only [full_st, hF]), (by simp only [Kn, gt_st, full_st, hF, hA, reduceIte, Nat.reduceEqDiff, Nat.reduceLT, decide_true, decide_false, Bool.false_eq_true, and_self, and_true, true_and]; try (repeat' constructor))⟩
      · refine VI.line' (by simp (maxSteps := 1000000) (disch := (first | omega | (simp only [Heap.next_alloc, Heap.next_set]; omega))) only [D2, mm_max, mm_min, cells_alloc_at, cells_alloc_ne, cells_set_at, cells_set_ne, dop, dA, sets, yfield1, yfieldN, yfieldAddr, Int.reduceNegSucc, Int.reduceEq, Nat.reduceLeDiff, Nat.reduceSub, Nat.reduceAdd, gt_st, full_st, hF, hA, reduceIte, Nat.reduceEqDiff, Nat.reduceLT, decide_true, decide_false, Bool.false_eq_true, Bool.not_eq_true _ ▸ hp]; with_reducible rfl) ?_
        exact ⟨rfl, rfl, hg, hb, hc, false, by simp [hp], (by intro i; simp only [full_st, hF]), (by simp only [Kn, gt_st, full_st, hF, hA, reduceIte, Nat.reduceEqDiff, Nat.reduceLT, decide_true, decide_false, Bool.false_eq_true, and_self, and_true, true_and]; try (repeat' constructor))⟩
    rintro e t m H'' ⟨rfl, rfl, hg, hb, hc, q, hq, hF, hA⟩
    simp only [Kn, and_true] at hA
    (repeat first | refine V.seq ?_ | refine V.block ?_ | refine V.scope ?_ | refine V.skip ?_ | refine V.close ?_)
    refine V.cut (fun e t m H3 => e = .normal ∧ m = [] ∧ H3 = H'' ∧ Full 22 t ∧ Kn [(2, .pointer (some ⟨H.next, 0, none⟩)), (3, .pointer (some ⟨H.next + 1, 0, none⟩)), (5, I (ct p lo hi (k + 1))), (7, I k)] t) ?_ ?_
    · refine V.condB (by simp only [dA, gt_st, full_st, hF, hA, reduceIte, Nat.reduceEqDiff, Nat.reduceLT, decide_true, decide_false, Bool.false_eq_true]; rfl) (fun h2 => ?_) (fun h2 => ?_)
      · rw [if_pos (hq.1 h2)] at hs
        (repeat first | refine V.seq ?_ | refine V.block ?_ | refine V.scope ?_ | refine V.skip ?_ | refine V.close ?_)
        refine V.line' (by simp (maxSteps := 1000000) (disch := (first | omega | (simp only [Heap.next_alloc, Heap.next_set]; omega))) only [D2, mm_max, mm_min, cells_alloc_at, cells_alloc_ne, cells_set_at, cells_set_ne, dop, dA, sets, yfield1, yfieldN, yfieldAddr, Int.reduceNegSucc, Int.reduceEq, Nat.reduceLeDiff, Nat.reduceSub, Nat.reduceAdd, gt_st, full_st, hF, hA, reduceIte, Nat.reduceEqDiff, Nat.reduceLT, decide_true, decide_false, Bool.false_eq_true]; with_reducible rfl) ?_
        exact ⟨rfl, rfl, rfl, (by intro i; simp only [full_st, hF]), by rw [hs]; exact (by simp only [Kn, gt_st, full_st, hF, hA, reduceIte, Nat.reduceEqDiff, Nat.reduceLT, decide_true, decide_false, Bool.false_eq_true, and_self, and_true, true_and]; try (repeat' constructor))⟩
      · rw [if_neg (fun h => by rw [hq.2 h] at h2; cases h2)] at hs
        (repeat first | refine V.seq ?_ | refine V.block ?_ | refine V.scope ?_ | refine V.skip ?_ | refine V.close ?_)
        exact ⟨rfl, rfl, rfl, (by intro i; simp only [full_st, hF]), by rw [hs]; exact (by simp only [Kn, gt_st, full_st, hF, hA, reduceIte, Nat.reduceEqDiff, Nat.reduceLT, decide_true, decide_false, Bool.false_eq_true, and_self, and_true, true_and]; try (repeat' constructor))⟩
    rintro e t m H3 ⟨rfl, rfl, rfl, hF, hA⟩
    simp only [Kn, and_true] at hA
    (repeat first | refine V.seq ?_ | refine V.block ?_ | refine V.scope ?_ | refine V.skip ?_ | refine V.close ?_)
    refine V.line' (by simp (maxSteps := 1000000) (disch := (first | omega | (simp only [Heap.next_alloc, Heap.next_set]; omega))) only [D2, mm_max, mm_min, cells_alloc_at, cells_alloc_ne, cells_set_at, cells_set_ne, dop, dA, sets, yfield1, yfieldN, yfieldAddr, Int.reduceNegSucc, Int.reduceEq, Nat.reduceLeDiff, Nat.reduceSub, Nat.reduceAdd, gt_st, full_st, hF, hA, reduceIte, Nat.reduceEqDiff, Nat.reduceLT, decide_true, decide_false, Bool.false_eq_true]; with_reducible rfl) ?_
    (repeat first | refine V.seq ?_ | refine V.block ?_ | refine V.scope ?_ | refine V.skip ?_ | refine V.close ?_)
    refine V.nil (Or.inl ⟨rfl, 121 - (k + 1), by omega, ?_⟩)
    exact ⟨k + 1, _, by omega, rfl, rfl, rfl, hg, hb, hc, (by intro i; simp only [full_st, hF]), (by simp only [Kn, gt_st, full_st, hF, hA, reduceIte, Nat.reduceEqDiff, Nat.reduceLT, decide_true, decide_false, Bool.false_eq_true, and_self, and_true, true_and]; try (repeat' constructor))⟩
  · obtain rfl : k = 121 := by omega
    refine V.exit ?_
    (repeat first | refine V.pass ?_ | refine V.here ?_ | refine V.out (by decide) ?_)
    refine V.nil (Or.inr ⟨by simp, ?_⟩)
    (repeat first | refine V.pass ?_ | refine V.here ?_ | refine V.out (by decide) ?_)
    (repeat first | refine V.seq ?_ | refine V.block ?_ | refine V.scope ?_ | refine V.skip ?_ | refine V.close ?_)
    refine V.line' (by simp (maxSteps := 1000000) (disch := (first | omega | (simp only [Heap.next_alloc, Heap.next_set]; omega))) only [D2, mm_max, mm_min, cells_alloc_at, cells_alloc_ne, cells_set_at, cells_set_ne, dop, dA, sets, yfield1, yfieldN, yfieldAddr, Int.reduceNegSucc, Int.reduceEq, Nat.reduceLeDiff, Nat.reduceSub, Nat.reduceAdd, gt_st, full_st, hF, hA, reduceIte, Nat.reduceEqDiff, Nat.reduceLT, decide_true, decide_false, Bool.false_eq_true]; with_reducible rfl) ?_
    (repeat first | refine V.seq ?_ | refine V.block ?_ | refine V.scope ?_ | refine V.skip ?_ | refine V.close ?_)
    refine V.ret (V.rets rfl (Lv.retG (by simp (disch := (first | omega | (simp only [Heap.next_alloc, Heap.next_set]; omega))) only [D1, cells_alloc_at, cells_alloc_ne, cells_set_at, cells_set_ne, yres, yres1, yresL, Nat.reduceLeDiff, Nat.reduceSub, Nat.reduceAdd, gt_st, full_st, hF, hA, reduceIte, Nat.reduceEqDiff, Nat.reduceLT, decide_true, decide_false, Bool.false_eq_true]; rfl) ?_ ?_))
    · exact hg
    · rfl
theorem f68_ok (a b c d w : Int) (hv : rv a b c d) (H : Heap) : Gives Try.prog 68 [.agg ⟨[I a, I b, I c, I d, I w]⟩] H (.agg ⟨tr a b c d w⟩) := by
  obtain ⟨hv1, hb, hc, hd⟩ := id hv
  refine F.entryL rfl dg68 do68 de68 rfl (by kernel_rfl) ?_
  simp only [sets]
  refine V.re [(0, .agg ⟨[I a, I b, I c, I d, I w]⟩)] (N := 36) (by intro i; simp only [full_st, Full.mk]) (by simp only [Kn, gt_st, full_st, Full.mk, reduceIte, Nat.reduceEqDiff, Nat.reduceLT, decide_true, and_self]) ?_
  intro t hF hA
  simp only [Kn, and_true] at hA
  (repeat first | refine V.seq ?_ | refine V.block ?_ | refine V.scope ?_ | refine V.skip ?_ | refine V.close ?_)
  refine V.line' (by simp (maxSteps := 1000000) (disch := (first | omega | (simp only [Heap.next_alloc, Heap.next_set]; omega))) only [D2, mm_max, mm_min, cells_alloc_at, cells_alloc_ne, cells_set_at, cells_set_ne, dop, dA, sets, yfield1, yfieldN, yfieldAddr, Int.reduceNegSucc, Int.reduceEq, Nat.reduceLeDiff, Nat.reduceSub, Nat.reduceAdd, gt_st, full_st, hF, hA, reduceIte, Nat.reduceEqDiff, Nat.reduceLT, decide_true, decide_false, Bool.false_eq_true]; with_reducible rfl) ?_
  (repeat first | refine V.seq ?_ | refine V.block ?_ | refine V.scope ?_ | refine V.skip ?_ | refine V.close ?_)
  refine V.line' (by simp (maxSteps := 1000000) (disch := (first | omega | (simp only [Heap.next_alloc, Heap.next_set]; omega))) only [D2, mm_max, mm_min, cells_alloc_at, cells_alloc_ne, cells_set_at, cells_set_ne, dop, dA, sets, yfield1, yfieldN, yfieldAddr, Int.reduceNegSucc, Int.reduceEq, Nat.reduceLeDiff, Nat.reduceSub, Nat.reduceAdd, gt_st, full_st, hF, hA, reduceIte, Nat.reduceEqDiff, Nat.reduceLT, decide_true, decide_false, Bool.false_eq_true]; with_reducible rfl) ?_
  (repeat first | refine V.seq ?_ | refine V.block ?_ | refine V.scope ?_ | refine V.skip ?_ | refine V.close ?_)
  refine V.line' (by simp (maxSteps := 1000000) (disch := (first | omega | (simp only [Heap.next_alloc, Heap.next_set]; omega))) only [D2, mm_max, mm_min, cells_alloc_at, cells_alloc_ne, cells_set_at, cells_set_ne, dop, dA, sets, yfield1, yfieldN, yfieldAddr, Int.reduceNegSucc, Int.reduceEq, Nat.reduceLeDiff, Nat.reduceSub, Nat.reduceAdd, gt_st, full_st, hF, hA, reduceIte, Nat.reduceEqDiff, Nat.reduceLT, decide_true, decide_false, Bool.false_eq_true]; with_reducible rfl) ?_
  (repeat first | refine V.seq ?_ | refine V.block ?_ | refine V.scope ?_ | refine V.skip ?_ | refine V.close ?_)
  refine V.heap (fun H2 => Grow H H2 ∧ Bx H2 H.next [I a, I b, I c, I d, I w] 115 ∧ Bx H2 (H.next + 1) (An 121 fun _ => .bool false) 113 ∧ Bx H2 (H.next + 2) (An 121 fun _ => .bool false) 113) ⟨?_, ?_, ?_, ?_⟩ ?_
  · (repeat first | assumption | exact Grow.refl _ | refine Grow.alloc ?_ _ | refine Grow.set ?_ (by first | omega | (simp only [Heap.next_alloc, Heap.next_set]; omega)) _)
  · (repeat first | assumption | exact Bx.new _ _ _ | exact Bx.newAt (by first | omega | (simp only [Heap.next_alloc, Heap.next_set]; omega)) | refine Bx.put (by first | omega | (simp only [Heap.next_alloc, Heap.next_set]; omega)) _ _ | refine Bx.alloc ?_ _ | refine Bx.set ?_ (by first | omega | (simp only [Heap.next_alloc, Heap.next_set]; omega)) _)
  · rw [z121]; (repeat first | assumption | exact Bx.new _ _ _ | exact Bx.newAt (by first | omega | (simp only [Heap.next_alloc, Heap.next_set]; omega)) | refine Bx.put (by first | omega | (simp only [Heap.next_alloc, Heap.next_set]; omega)) _ _ | refine Bx.alloc ?_ _ | refine Bx.set ?_ (by first | omega | (simp only [Heap.next_alloc, Heap.next_set]; omega)) _)
  · rw [z121]; (repeat first | assumption | exact Bx.new _ _ _ | exact Bx.newAt (by first | omega | (simp only [Heap.next_alloc, Heap.next_set]; omega)) | refine Bx.put (by first | omega | (simp only [Heap.next_alloc, Heap.next_set]; omega)) _ _ | refine Bx.alloc ?_ _ | refine Bx.set ?_ (by first | omega | (simp only [Heap.next_alloc, Heap.next_set]; omega)) _)
  rintro H1 ⟨g1, b1, c1, e1⟩
  refine V.loop (fun n t m H' => ∃ (k : Nat), k ≤ 121 ∧ n = 121 - k ∧ m = [] ∧ Grow H H' ∧ Bx H' H.next [I a, I b, I c, I d, I w] 115 ∧ Bx H' (H.next + 1) (An 121 fun _ => .bool false) 113 ∧ Bx H' (H.next + 2) (An 121 fun i => .bool (decide (i < k) && decide (cn a b c d w i))) 113 ∧ Full 36 t ∧ Kn [(1, .pointer (some ⟨H.next, 0, none⟩)), (2, .pointer (some ⟨H.next + 1, 0, none⟩)), (3, .pointer (some ⟨H.next + 2, 0, none⟩)), (6, I k)] t) 121 ?_ ?_
  · exact ⟨0, by omega, by omega, rfl, g1, b1, c1, e1, (by intro i; simp only [full_st, hF]), (by simp only [Kn, gt_st, full_st, hF, hA, reduceIte, Nat.reduceEqDiff, Nat.reduceLT, decide_true, decide_false, Bool.false_eq_true, and_self, and_true, true_and]; try (repeat' constructor))⟩
  clear hF hA
  rintro n t m H' ⟨k, hk, rfl, rfl, hg, hb', hc', he', hF, hA⟩
  simp only [Kn, and_true] at hA
  (repeat first | refine V.seq ?_ | refine V.block ?_ | refine V.scope ?_ | refine V.skip ?_ | refine V.close ?_)
  refine V.line' (by simp (maxSteps := 1000000) (disch := (first | omega | (simp only [Heap.next_alloc, Heap.next_set]; omega))) only [D2, mm_max, mm_min, cells_alloc_at, cells_alloc_ne, cells_set_at, cells_set_ne, dop, dA, sets, yfield1, yfieldN, yfieldAddr, Int.reduceNegSucc, Int.reduceEq, Nat.reduceLeDiff, Nat.reduceSub, Nat.reduceAdd, gt_st, full_st, hF, hA, reduceIte, Nat.reduceEqDiff, Nat.reduceLT, decide_true, decide_false, Bool.false_eq_true]; with_reducible rfl) ?_
  (repeat first | refine V.seq ?_ | refine V.block ?_ | refine V.scope ?_ | refine V.skip ?_ | refine V.close ?_)
  refine V.condP (by simp only [dA, gt_st, full_st, hF, hA, reduceIte, Nat.reduceEqDiff, Nat.reduceLT, decide_true, decide_false, Bool.false_eq_true]; rfl) (fun h1 => ?_) (fun h1 => ?_)
  · have hk' : k < 121 := by omega
    (repeat first | refine V.seq ?_ | refine V.block ?_ | refine V.scope ?_ | refine V.skip ?_ | refine V.close ?_)
    refine V.line' (by simp (maxSteps := 1000000) (disch := (first | omega | (simp only [Heap.next_alloc, Heap.next_set]; omega))) only [D2, mm_max, mm_min, cells_alloc_at, cells_alloc_ne, cells_set_at, cells_set_ne, dop, dA, sets, yfield1, yfieldN, yfieldAddr, Int.reduceNegSucc, Int.reduceEq, Nat.reduceLeDiff, Nat.reduceSub, Nat.reduceAdd, gt_st, full_st, hF, hA, reduceIte, Nat.reduceEqDiff, Nat.reduceLT, decide_true, decide_false, Bool.false_eq_true]; with_reducible rfl) ?_
    (repeat first | refine V.seq ?_ | refine V.block ?_ | refine V.scope ?_ | refine V.skip ?_ | refine V.close ?_)
    refine V.run ?_
    refine VI.steps' 6 (by simp (maxSteps := 1000000) (disch := (first | omega | (simp only [Heap.next_alloc, Heap.next_set]; omega))) only [D2, mm_max, mm_min, cells_alloc_at, cells_alloc_ne, cells_set_at, cells_set_ne, dop, dA, sets, yfield1, yfieldN, yfieldAddr, Int.reduceNegSucc, Int.reduceEq, Nat.reduceLeDiff, Nat.reduceSub, Nat.reduceAdd, gt_st, full_st, hF, hA, reduceIte, Nat.reduceEqDiff, Nat.reduceLT, decide_true, decide_false, Bool.false_eq_true, hb'.2]; with_reducible rfl) ?_
    simp only [List.drop_succ_cons, List.drop_zero]
    refine VI.heap (fun H2 => Grow H H2 ∧ Bx H2 H.next [I a, I b, I c, I d, I w] 115 ∧ Bx H2 (H.next + 1) (An 121 fun _ => .bool false) 113 ∧ Bx H2 (H.next + 2) (An 121 fun i => .bool (decide (i < k) && decide (cn a b c d w i))) 113 ∧ Bx H2 H'.next [I (k - d)] 3) ⟨?_, ?_, ?_, ?_, ?_⟩ ?_
    · (repeat first | assumption | exact Grow.refl _ | refine Grow.alloc ?_ _ | refine Grow.set ?_ (by first | omega | (simp only [Heap.next_alloc, Heap.next_set]; omega)) _)
    · (repeat first | assumption | exact Bx.new _ _ _ | exact Bx.newAt (by first | omega | (simp only [Heap.next_alloc, Heap.next_set]; omega)) | refine Bx.put (by first | omega | (simp only [Heap.next_alloc, Heap.next_set]; omega)) _ _ | refine Bx.alloc ?_ _ | refine Bx.set ?_ (by first | omega | (simp only [Heap.next_alloc, Heap.next_set]; omega)) _)
    · (repeat first | assumption | exact Bx.new _ _ _ | exact Bx.newAt (by first | omega | (simp only [Heap.next_alloc, Heap.next_set]; omega)) | refine Bx.put (by first | omega | (simp only [Heap.next_alloc, Heap.next_set]; omega)) _ _ | refine Bx.alloc ?_ _ | refine Bx.set ?_ (by first | omega | (simp only [Heap.next_alloc, Heap.next_set]; omega)) _)
    · (repeat first | assumption | exact Bx.new _ _ _ | exact Bx.newAt (by first | omega | (simp only [Heap.next_alloc, Heap.next_set]; omega)) | refine Bx.put (by first | omega | (simp only [Heap.next_alloc, Heap.next_set]; omega)) _ _ | refine Bx.alloc ?_ _ | refine Bx.set ?_ (by first | omega | (simp only [Heap.next_alloc, Heap.next_set]; omega)) _)
    · (repeat first | assumption | exact Bx.new _ _ _ | exact Bx.newAt (by first | omega | (simp only [Heap.next_alloc, Heap.next_set]; omega)) | refine Bx.put (by first | omega | (simp only [Heap.next_alloc, Heap.next_set]; omega)) _ _ | refine Bx.alloc ?_ _ | refine Bx.set ?_ (by first | omega | (simp only [Heap.next_alloc, Heap.next_set]; omega)) _)
    rintro H2 ⟨g2, b2, c2, e2, s2⟩
    have hsl : Sl H2 (.slice (some ⟨H'.next, 0, none⟩) 1 1) [I (k - d)] := .at s2.1 s2.2 (by omega) rfl (by simp) (fun k x hx => by simpa using hx)
    refine VI.callA rfl (f92_ok 0 (k - d) hsl) (by simp only [List.map_cons, List.map_nil, dA, gt_st, full_st, hF, hA, reduceIte, Nat.reduceEqDiff, Nat.reduceLT, decide_true, decide_false, Bool.false_eq_true, List.nil_append, List.append_nil, List.cons_append]; try rfl) (fun H3 g3 => ?_)
    have b3 := b2.grow g3
    have c3 := c2.grow g3
    have e3 := e2.grow g3
    have g3 := g2.trans g3
    refine VI.line' (by simp (maxSteps := 1000000) (disch := (first | omega | (simp only [Heap.next_alloc, Heap.next_set]; omega))) only [D2, mm_max, mm_min, cells_alloc_at, cells_alloc_ne, cells_set_at, cells_set_ne, dop, dA, sets, yfield1, yfieldN, yfieldAddr, Int.reduceNegSucc, Int.reduceEq, Nat.reduceLeDiff, Nat.reduceSub, Nat.reduceAdd, gt_st, full_st, hF, hA, reduceIte, Nat.reduceEqDiff, Nat.reduceLT, decide_true, decide_false, Bool.false_eq_true]; with_reducible rfl) ?_
    (repeat first | refine V.seq ?_ | refine V.block ?_ | refine V.scope ?_ | refine V.skip ?_ | refine V.close ?_)
    refine V.loop (fun n t m H' => ∃ (x : Int) (q : Bool), max 0 (k - d) ≤ x ∧ x ≤ k + d + 1 ∧ n = (k + d + 1 - x).toNat ∧ (q = true ↔ ∃ j, max 0 (k - d) ≤ j ∧ j < x ∧ wr a b c j = w) ∧ m = [] ∧ Grow H H' ∧ Bx H' H.next [I a, I b, I c, I d, I w] 115 ∧ Bx H' (H.next + 1) (An 121 fun _ => .bool false) 113 ∧ Bx H' (H.next + 2) (An 121 fun i => .bool (if i = k then q else (decide (i < k) && decide (cn a b c d w i)))) 113 ∧ Full 36 t ∧ Kn [(1, .pointer (some ⟨H.next, 0, none⟩)), (2, .pointer (some ⟨H.next + 1, 0, none⟩)), (3, .pointer (some ⟨H.next + 2, 0, none⟩)), (4, I k), (5, I x), (6, I k)] t) (k + d + 1 - max 0 (k - d)).toNat ?_ ?_
    · refine ⟨max 0 (k - d), false, by omega, by omega, rfl, ⟨fun h => (by cases h), fun ⟨j, h1, h2, _⟩ => (by omega)⟩, rfl, g3, b3, c3, ?_, (by intro i; simp only [full_st, hF]), (by simp only [Kn, gt_st, full_st, hF, hA, reduceIte, Nat.reduceEqDiff, Nat.reduceLT, decide_true, decide_false, Bool.false_eq_true, and_self, and_true, true_and]; try (repeat' constructor))⟩
      have : (An 121 fun i => .bool (if i = k then false else (decide (i < k) && decide (cn a b c d w i)))) = An 121 fun i => .bool (decide (i < k) && decide (cn a b c d w i)) := An_cong (fun i hi => by
        by_cases e : i = k
        · subst e; simp
        · rw [if_neg e])
      rw [this]; exact e3
    clear hF hA
    rintro n t m H4 ⟨x, q, hx1, hx2, rfl, hq, rfl, g4, b4, c4, e4, hF, hA⟩
    simp only [Kn, and_true] at hA
    (repeat first | refine V.seq ?_ | refine V.block ?_ | refine V.scope ?_ | refine V.skip ?_ | refine V.close ?_)
    refine V.line' (by simp (maxSteps := 1000000) (disch := (first | omega | (simp only [Heap.next_alloc, Heap.next_set]; omega))) only [D2, mm_max, mm_min, cells_alloc_at, cells_alloc_ne, cells_set_at, cells_set_ne, dop, dA, sets, yfield1, yfieldN, yfieldAddr, Int.reduceNegSucc, Int.reduceEq, Nat.reduceLeDiff, Nat.reduceSub, Nat.reduceAdd, gt_st, full_st, hF, hA, reduceIte, Nat.reduceEqDiff, Nat.reduceLT, decide_true, decide_false, Bool.false_eq_true, b4.2]; with_reducible rfl) ?_
    (repeat first | refine V.seq ?_ | refine V.block ?_ | refine V.scope ?_ | refine V.skip ?_ | refine V.close ?_)
    refine V.condP (by simp only [dA, gt_st, full_st, hF, hA, reduceIte, Nat.reduceEqDiff, Nat.reduceLT, decide_true, decide_false, Bool.false_eq_true]; rfl) (fun h3 => ?_) (fun h3 => ?_)
    · (repeat first | refine V.seq ?_ | refine V.block ?_ | refine V.scope ?_ | refine V.skip ?_ | refine V.close ?_)
      refine V.draw ?_
      refine VD.dins 3 (by simp (maxSteps := 1000000) (disch := (first | omega | (simp only [Heap.next_alloc, Heap.next_set]; omega))) only [D2, mm_max, mm_min, cells_alloc_at, cells_alloc_ne, cells_set_at, cells_set_ne, dop, dA, sets, yfield1, yfieldN, yfieldAddr, Int.reduceNegSucc, Int.reduceEq, Nat.reduceLeDiff, Nat.reduceSub, Nat.reduceAdd, gt_st, full_st, hF, hA, reduceIte, Nat.reduceEqDiff, Nat.reduceLT, decide_true, decide_false, Bool.false_eq_true, b4.2]; with_reducible rfl) ?_
      simp only [List.drop_succ_cons, List.drop_zero]
      refine VD.callA (by simp only [dA, gt_st, full_st, hF, hA, reduceIte, Nat.reduceEqDiff, Nat.reduceLT, decide_true, decide_false, Bool.false_eq_true]; try rfl) (f66_ok a b c d x hb (by omega) H4) (by simp only [List.map_cons, List.map_nil, dA, gt_st, full_st, hF, hA, reduceIte, Nat.reduceEqDiff, Nat.reduceLT, decide_true, decide_false, Bool.false_eq_true, List.nil_append, List.append_nil, List.cons_append]; try rfl) (fun H5 g5 => ?_)
      have b5 := b4.grow g5
      have c5 := c4.grow g5
      have e5 := e4.grow g5
      have g45 := g5.1
      have g5 := g4.trans g5
      refine VD.lineD' (by simp (maxSteps := 1000000) (disch := (first | omega | (simp only [Heap.next_alloc, Heap.next_set]; omega))) only [D2, mm_max, mm_min, cells_alloc_at, cells_alloc_ne, cells_set_at, cells_set_ne, dop, dA, sets, yfield1, yfieldN, yfieldAddr, Int.reduceNegSucc, Int.reduceEq, Nat.reduceLeDiff, Nat.reduceSub, Nat.reduceAdd, gt_st, full_st, hF, hA, reduceIte, Nat.reduceEqDiff, Nat.reduceLT, decide_true, decide_false, Bool.false_eq_true, b5.2]; with_reducible rfl) ?_ ?_ rfl ?_
      · simp only [monoG, List.cons_append, List.nil_append, Nat.le_refl, true_and, and_true]
        exact g45
      · simp only [dcAll, dcOk, wantD, List.cons_append, List.nil_append, true_and, and_true]
        exact fun _ q hq => by simp only [List.mem_cons, List.not_mem_nil, or_false] at hq; first | (subst hq; exact ⟨_, _, _, rfl, (by simp (maxSteps := 1000000) (disch := (first | omega | (simp only [Heap.next_alloc, Heap.next_set]; omega))) only [D2, mm_max, mm_min, cells_alloc_at, cells_alloc_ne, cells_set_at, cells_set_ne, dop, dA, sets, yfield1, yfieldN, yfieldAddr, Int.reduceNegSucc, Int.reduceEq, Nat.reduceLeDiff, Nat.reduceSub, Nat.reduceAdd, gt_st, full_st, hF, hA, reduceIte, Nat.reduceEqDiff, Nat.reduceLT, decide_true, decide_false, Bool.false_eq_true, b4.2, b5.2]; with_reducible rfl), fun p hp => by cases hp; simp only [gt_st, full_st, hF, hA, reduceIte, Nat.reduceEqDiff, Nat.reduceLT, decide_true, decide_false, Bool.false_eq_true]; first | exact vEq_An | simp [vEq, vEq0, all2]⟩) | (rcases hq with rfl | rfl <;> exact ⟨_, _, _, rfl, (by simp (maxSteps := 1000000) (disch := (first | omega | (simp only [Heap.next_alloc, Heap.next_set]; omega))) only [D2, mm_max, mm_min, cells_alloc_at, cells_alloc_ne, cells_set_at, cells_set_ne, dop, dA, sets, yfield1, yfieldN, yfieldAddr, Int.reduceNegSucc, Int.reduceEq, Nat.reduceLeDiff, Nat.reduceSub, Nat.reduceAdd, gt_st, full_st, hF, hA, reduceIte, Nat.reduceEqDiff, Nat.reduceLT, decide_true, decide_false, Bool.false_eq_true, b4.2, b5.2]; with_reducible rfl), fun p hp => by cases hp; simp only [gt_st, full_st, hF, hA, reduceIte, Nat.reduceEqDiff, Nat.reduceLT, decide_true, decide_false, Bool.false_eq_true]; first | exact vEq_An | simp [vEq, vEq0, all2]⟩) | (rcases hq with rfl | rfl | rfl <;> exact ⟨_, _, _, rfl, (by simp (maxSteps := 1000000) (disch := (first | omega | (simp only [Heap.next_alloc, Heap.next_set]; omega))) only [D2, mm_max, mm_min, cells_alloc_at, cells_alloc_ne, cells_set_at, cells_set_ne, dop, dA, sets, yfield1, yfieldN, yfieldAddr, Int.reduceNegSucc, Int.reduceEq, Nat.reduceLeDiff, Nat.reduceSub, Nat.reduceAdd, gt_st, full_st, hF, hA, reduceIte, Nat.reduceEqDiff, Nat.reduceLT, decide_true, decide_false, Bool.false_eq_true, b4.2, b5.2]; with_reducible rfl), fun p hp => by cases hp; simp only [gt_st, full_st, hF, hA, reduceIte, Nat.reduceEqDiff, Nat.reduceLT, decide_true, decide_false, Bool.false_eq_true]; first | exact vEq_An | simp [vEq, vEq0, all2]⟩)
      (repeat first | refine V.seq ?_ | refine V.block ?_ | refine V.scope ?_ | refine V.skip ?_ | refine V.close ?_)
      refine V.cut (fun e t m H6 => e = .normal ∧ m = [] ∧ Grow H H6 ∧ Bx H6 H.next [I a, I b, I c, I d, I w] 115 ∧ Bx H6 (H.next + 1) (An 121 fun _ => .bool false) 113 ∧ (∃ q' : Bool, (q' = true ↔ ∃ j, max 0 (k - d) ≤ j ∧ j < x + 1 ∧ wr a b c j = w) ∧ Bx H6 (H.next + 2) (An 121 fun i => .bool (if i = k then q' else (decide (i < k) && decide (cn a b c d w i)))) 113) ∧ Full 36 t ∧ Kn [(1, .pointer (some ⟨H.next, 0, none⟩)), (2, .pointer (some ⟨H.next + 1, 0, none⟩)), (3, .pointer (some ⟨H.next + 2, 0, none⟩)), (4, I k), (5, I x), (6, I k)] t) ?_ ?_
      · refine V.condP (by simp only [dA, gt_st, full_st, hF, hA, reduceIte, Nat.reduceEqDiff, Nat.reduceLT, decide_true, decide_false, Bool.false_eq_true]; rfl) (fun h4 => ?_) (fun h4 => ?_)
        · (repeat first | refine V.seq ?_ | refine V.block ?_ | refine V.scope ?_ | refine V.skip ?_ | refine V.close ?_)
          refine V.line' (by simp (maxSteps := 1000000) (disch := (first | omega | (simp only [Heap.next_alloc, Heap.next_set]; omega))) only [D2, mm_max, mm_min, cells_alloc_at, cells_alloc_ne, cells_set_at, cells_set_ne, dop, dA, sets, yfield1, yfieldN, yfieldAddr, Int.reduceNegSucc, Int.reduceEq, Nat.reduceLeDiff, Nat.reduceSub, Nat.reduceAdd, gt_st, full_st, hF, hA, reduceIte, Nat.reduceEqDiff, Nat.reduceLT, decide_true, decide_false, Bool.false_eq_true, idx_arr hk', e5.2, An_len, An_set, hk']; with_reducible rfl) ?_
          have hcl := e5.1
          have hnx := b5.1
          refine ⟨rfl, rfl, ?_, ?_, ?_, ⟨true, ⟨fun _ => ⟨x, hx1, by omega, h4⟩, fun _ => rfl⟩, ?_⟩, (by intro i; simp only [full_st, hF]), (by simp only [Kn, gt_st, full_st, hF, hA, reduceIte, Nat.reduceEqDiff, Nat.reduceLT, decide_true, decide_false, Bool.false_eq_true, and_self, and_true, true_and]; try (repeat' constructor))⟩
          · (repeat first | assumption | exact Grow.refl _ | refine Grow.alloc ?_ _ | refine Grow.set ?_ (by first | omega | (simp only [Heap.next_alloc, Heap.next_set]; omega)) _)
          · (repeat first | assumption | exact Bx.new _ _ _ | exact Bx.newAt (by first | omega | (simp only [Heap.next_alloc, Heap.next_set]; omega)) | refine Bx.put (by first | omega | (simp only [Heap.next_alloc, Heap.next_set]; omega)) _ _ | refine Bx.alloc ?_ _ | refine Bx.set ?_ (by first | omega | (simp only [Heap.next_alloc, Heap.next_set]; omega)) _)
          · (repeat first | assumption | exact Bx.new _ _ _ | exact Bx.newAt (by first | omega | (simp only [Heap.next_alloc, Heap.next_set]; omega)) | refine Bx.put (by first | omega | (simp only [Heap.next_alloc, Heap.next_set]; omega)) _ _ | refine Bx.alloc ?_ _ | refine Bx.set ?_ (by first | omega | (simp only [Heap.next_alloc, Heap.next_set]; omega)) _)
          · have : (An 121 fun i => .bool (if i = k then true else (decide (i < k) && decide (cn a b c d w i)))) = An 121 fun i => if i = k then .bool true else .bool (if i = k then q else (decide (i < k) && decide (cn a b c d w i))) := An_cong (fun i hi => by
              by_cases e : i = k
              · rw [if_pos e, if_pos e]
              · rw [if_neg e, if_neg e, if_neg e])
            rw [this]
            (repeat first | assumption | exact Bx.new _ _ _ | exact Bx.newAt (by first | omega | (simp only [Heap.next_alloc, Heap.next_set]; omega)) | refine Bx.put (by first | omega | (simp only [Heap.next_alloc, Heap.next_set]; omega)) _ _ | refine Bx.alloc ?_ _ | refine Bx.set ?_ (by first | omega | (simp only [Heap.next_alloc, Heap.next_set]; omega)) _)
        · (repeat first | refine V.seq ?_ | refine V.block ?_ | refine V.scope ?_ | refine V.skip ?_ | refine V.close ?_)
          refine ⟨rfl, rfl, g5, b5, c5, ⟨q, ⟨fun h => ?_, fun ⟨j, h5, h6, h7⟩ => ?_⟩, e5⟩, (by intro i; simp only [full_st, hF]), (by simp only [Kn, gt_st, full_st, hF, hA, reduceIte, Nat.reduceEqDiff, Nat.reduceLT, decide_true, decide_false, Bool.false_eq_true, and_self, and_true, true_and]; try (repeat' constructor))⟩
          · obtain ⟨j, h5, h6, h7⟩ := hq.1 h
            exact ⟨j, h5, by omega, h7⟩
          · refine hq.2 ⟨j, h5, ?_, h7⟩
            by_cases e : j = x
            · subst e; exact absurd h7 h4
            · omega
      rintro e t m H6 ⟨rfl, rfl, g6, b6, c6, ⟨q', hq', e6⟩, hF, hA⟩
      simp only [Kn, and_true] at hA
      (repeat first | refine V.seq ?_ | refine V.block ?_ | refine V.scope ?_ | refine V.skip ?_ | refine V.close ?_)
      have hw1 : IntKind.i64.wrap (x + 1) = x + 1 := by
        clear hq hq'
        exact wrap_i64 (by omega) (by omega)
      refine V.line' (by simp (maxSteps := 1000000) (disch := (first | omega | (simp only [Heap.next_alloc, Heap.next_set]; omega))) only [D2, mm_max, mm_min, cells_alloc_at, cells_alloc_ne, cells_set_at, cells_set_ne, dop, dA, sets, yfield1, yfieldN, yfieldAddr, Int.reduceNegSucc, Int.reduceEq, Nat.reduceLeDiff, Nat.reduceSub, Nat.reduceAdd, gt_st, full_st, hF, hA, reduceIte, Nat.reduceEqDiff, Nat.reduceLT, decide_true, decide_false, Bool.false_eq_true, hw1]; with_reducible rfl) ?_
      (repeat first | refine V.seq ?_ | refine V.block ?_ | refine V.scope ?_ | refine V.skip ?_ | refine V.close ?_)
      refine V.nil (Or.inl ⟨rfl, (k + d + 1 - (x + 1)).toNat, by omega, ?_⟩)
      exact ⟨x + 1, q', by omega, by omega, rfl, hq', rfl, g6, b6, c6, e6, (by intro i; simp only [full_st, hF]), (by simp only [Kn, gt_st, full_st, hF, hA, reduceIte, Nat.reduceEqDiff, Nat.reduceLT, decide_true, decide_false, Bool.false_eq_true, and_self, and_true, true_and]; try (repeat' constructor))⟩
    · refine V.exit ?_
      (repeat first | refine V.pass ?_ | refine V.here ?_ | refine V.out (by decide) ?_)
      refine V.nil (Or.inr ⟨by simp, ?_⟩)
      (repeat first | refine V.pass ?_ | refine V.here ?_ | refine V.out (by decide) ?_)
      (repeat first | refine V.seq ?_ | refine V.block ?_ | refine V.scope ?_ | refine V.skip ?_ | refine V.close ?_)
      refine V.line' (by simp (maxSteps := 1000000) (disch := (first | omega | (simp only [Heap.next_alloc, Heap.next_set]; omega))) only [D2, mm_max, mm_min, cells_alloc_at, cells_alloc_ne, cells_set_at, cells_set_ne, dop, dA, sets, yfield1, yfieldN, yfieldAddr, Int.reduceNegSucc, Int.reduceEq, Nat.reduceLeDiff, Nat.reduceSub, Nat.reduceAdd, gt_st, full_st, hF, hA, reduceIte, Nat.reduceEqDiff, Nat.reduceLT, decide_true, decide_false, Bool.false_eq_true]; with_reducible rfl) ?_
      (repeat first | refine V.seq ?_ | refine V.block ?_ | refine V.scope ?_ | refine V.skip ?_ | refine V.close ?_)
      refine V.nil (Or.inl ⟨rfl, 121 - (k + 1), by omega, ?_⟩)
      refine ⟨k + 1, by omega, rfl, rfl, g4, b4, c4, ?_, (by intro i; simp only [full_st, hF]), (by simp only [Kn, gt_st, full_st, hF, hA, reduceIte, Nat.reduceEqDiff, Nat.reduceLT, decide_true, decide_false, Bool.false_eq_true, and_self, and_true, true_and]; try (repeat' constructor))⟩
      have : (An 121 fun i => .bool (decide (i < k + 1) && decide (cn a b c d w i))) = An 121 fun i => .bool (if i = k then q else (decide (i < k) && decide (cn a b c d w i))) := An_cong (fun i hi => by
        by_cases e : i = k
        · subst e
          rw [if_pos rfl]
          have : q = decide (cn a b c d w i) := by
            rw [Bool.eq_iff_iff, hq, decide_eq_true_iff]
            exact ⟨fun ⟨j, h5, h6, h7⟩ => ⟨j, h5, by omega, h7⟩, fun ⟨j, h5, h6, h7⟩ => ⟨j, h5, by omega, h7⟩⟩
          rw [this]; simp
        · rw [if_neg e]; congr 2; exact decide_eq_decide.2 (by omega))
      rw [this]; exact e4
  · obtain rfl : k = 121 := by omega
    have hfin : (An 121 fun i => .bool (decide (i < 121) && decide (cn a b c d w i))) = tr a b c d w := An_cong (fun i hi => by simp [hi])
    rw [hfin] at he'
    have hcl := hc'.1
    refine V.exit ?_
    (repeat first | refine V.pass ?_ | refine V.here ?_ | refine V.out (by decide) ?_)
    refine V.nil (Or.inr ⟨by simp, ?_⟩)
    (repeat first | refine V.pass ?_ | refine V.here ?_ | refine V.out (by decide) ?_)
    (repeat first | refine V.seq ?_ | refine V.block ?_ | refine V.scope ?_ | refine V.skip ?_ | refine V.close ?_)
    refine V.line' (by simp (maxSteps := 1000000) (disch := (first | omega | (simp only [Heap.next_alloc, Heap.next_set]; omega))) only [D2, mm_max, mm_min, cells_alloc_at, cells_alloc_ne, cells_set_at, cells_set_ne, dop, dA, sets, yfield1, yfieldN, yfieldAddr, Int.reduceNegSucc, Int.reduceEq, Nat.reduceLeDiff, Nat.reduceSub, Nat.reduceAdd, gt_st, full_st, hF, hA, reduceIte, Nat.reduceEqDiff, Nat.reduceLT, decide_true, decide_false, Bool.false_eq_true, he'.2, hc'.2, tr, An_len, An_take, An_ok, setC_An]; with_reducible rfl) ?_
    (repeat first | refine V.seq ?_ | refine V.block ?_ | refine V.scope ?_ | refine V.skip ?_ | refine V.close ?_)
    refine V.ret (V.rets rfl (Lv.retG (by simp (disch := (first | omega | (simp only [Heap.next_alloc, Heap.next_set]; omega))) only [D1, cells_alloc_at, cells_alloc_ne, cells_set_at, cells_set_ne, yres, yres1, yresL, Nat.reduceLeDiff, Nat.reduceSub, Nat.reduceAdd, gt_st, full_st, hF, hA, reduceIte, Nat.reduceEqDiff, Nat.reduceLT, decide_true, decide_false, Bool.false_eq_true, An_len, An_take]; rfl) ?_ ?_))
    · (repeat first | assumption | exact Grow.refl _ | refine Grow.alloc ?_ _ | refine Grow.set ?_ (by first | omega | (simp only [Heap.next_alloc, Heap.next_set]; omega)) _)
    · rfl
end Go.Xe.TAX
