/- What the functions of the layer age that tell how ages are heaped come to, and the statement about them, over whatever heap. Conditions: none. -/
import Derived.Test.YtefoodhfkkcmcaaZm
import Derived.Test.YtefoodhfkkcmcaaTAO
-- MOD TA
namespace Go.Xe.TAX
open Go Go.Xe Go.Proofs
set_option maxRecDepth 100000
set_option linter.unusedSimpArgs false
noncomputable def d27 : FCode := (.seq (.run (.go (.move (.con (.bool false))) (pth 6) ::
[])) (.seq (.run (.go (.move (.tmp (pth 0))) (pth 7) ::
.go (.move (.tmp (pth 1))) (pth 8) ::
.go (.bin .geq 3 (.tmp (pth 7)) (.tmp (pth 8))) (pth 9) ::
.go (.move (.tmp (pth 9))) (pth 10) ::
.gd (pth 10) true (.move (.tmp (pth 0))) (pth 11) ::
.gd (pth 10) true (.move (.tmp (pth 2))) (pth 12) ::
.gd (pth 10) true (.bin .leq 3 (.tmp (pth 11)) (.tmp (pth 12))) (pth 13) ::
.go (.pick (.tmp (pth 10)) (.tmp (pth 13)) (.con (.bool false))) (pth 14) ::
.go (.move (.tmp (pth 14))) (pth 6) ::
[])) .ret))
theorem de27 : @compF Try.prog (Gl.none Try.prog) Try.f27 3 = .mk d27 (mkTT 15) [(pth 0),(pth 1),(pth 2)] [.tmp (pth 6)] := by kernel_rfl
theorem dg27 : Try.prog.funcs[27]? = some Try.f27 := Try.func27
theorem do27 : okF Try.prog Try.f27 = true := by kernel_rfl
noncomputable def d65 : FCode := (.seq (.run (.go (.box 48 (.tmp (pth 0))) (pth 2) ::
.go (.move (.con (.bool false))) (pth 4) ::
[])) (.seq (.run (.go (.fieldAddr 0 (.tmp (pth 2))) (pth 5) ::
.go (.load1 (.tmp (pth 5))) (pth 6) ::
.go (.move (.tmp (pth 1))) (pth 7) ::
.go (.bin .leq 3 (.tmp (pth 6)) (.tmp (pth 7))) (pth 8) ::
.go (.move (.tmp (pth 8))) (pth 9) ::
.gd (pth 9) true (.move (.tmp (pth 1))) (pth 10) ::
.gd (pth 9) true (.fieldAddr 1 (.tmp (pth 2))) (pth 11) ::
.gd (pth 9) true (.load1 (.tmp (pth 11))) (pth 12) ::
.gd (pth 9) true (.bin .leq 3 (.tmp (pth 10)) (.tmp (pth 12))) (pth 13) ::
.go (.pick (.tmp (pth 9)) (.tmp (pth 13)) (.con (.bool false))) (pth 14) ::
.go (.move (.tmp (pth 14))) (pth 4) ::
[])) .ret))
theorem de65 : @compF Try.prog (Gl.none Try.prog) Try.f65 2 = .mk d65 (mkTT 15) [(pth 0),(pth 1)] [.tmp (pth 4)] := by kernel_rfl
theorem dg65 : Try.prog.funcs[65]? = some Try.f65 := Try.func65
theorem do65 : okF Try.prog Try.f65 = true := by kernel_rfl
noncomputable def d89 : FCode := (.seq (.run (.go (.move (.con (.bool false))) (pth 4) ::
[])) (.seq (.seq (.run (.go (.move (.tmp (pth 0))) (pth 7) ::
.go (.len 0 (.tmp (pth 7))) (pth 8) ::
.go (.move (.con (.int .i64 (.ofNat 0)))) (pth 9) ::
[])) (.block 0 (.loop (.seq (.run (.go (.bin .lss 3 (.tmp (pth 9)) (.tmp (pth 8))) (pth 10) ::
[])) (.seq (.cond (.tmp (pth 10)) .skip (.exit 0)) (.seq (.block 1 (.seq (.run (.go (.indexAddr none 1 (.tmp (pth 7)) (.tmp (pth 9))) (pth 11) ::
.go (.load1 (.tmp (pth 11))) (pth 12) ::
.go (.move (.tmp (pth 12))) (pth 6) ::
[])) (.seq (.run (.go (.move (.tmp (pth 1))) (pth 13) ::
.go (.move (.tmp (pth 6))) (pth 14) ::
.go (.call (.tmp (pth 13)) [(.tmp (pth 14))]) (pth 15) ::
.go (.un .not (.tmp (pth 15))) (pth 16) ::
[])) (.cond (.tmp (pth 16)) (.seq (.run (.go (.move (.con (.bool false))) (pth 4) ::
[])) .ret) .skip)))) (.run (.go (.bin .add 3 (.tmp (pth 9)) (.con (.int .i64 (.ofNat 1)))) (pth 17) ::
.go (.move (.tmp (pth 17))) (pth 9) ::
[])))))))) (.seq (.run (.go (.move (.con (.bool true))) (pth 4) ::
[])) .ret)))
theorem de89 : @compF Try.prog (Gl.none Try.prog) Try.f89 2 = .mk d89 (mkTT 18) [(pth 0),(pth 1)] [.tmp (pth 4)] := by kernel_rfl
theorem dg89 : Try.prog.funcs[89]? = some Try.f89 := Try.func89
theorem do89 : okF Try.prog Try.f89 = true := by kernel_rfl
noncomputable def d76 : FCode := (.seq (.run (.go (.move (.con (.bool false))) (pth 2) ::
[])) (.seq (.run (.go (.move (.tmp (pth 0))) (pth 3) ::
.go (.bin .leq 3 (.con (.int .i64 (.ofNat 1))) (.tmp (pth 3))) (pth 4) ::
.go (.move (.tmp (pth 4))) (pth 5) ::
.gd (pth 5) true (.move (.tmp (pth 0))) (pth 6) ::
.gd (pth 5) true (.bin .leq 3 (.tmp (pth 6)) (.con (.int .i64 (.ofNat 12)))) (pth 7) ::
.go (.pick (.tmp (pth 5)) (.tmp (pth 7)) (.con (.bool false))) (pth 8) ::
.go (.move (.tmp (pth 8))) (pth 2) ::
[])) .ret))
theorem de76 : @compF Try.prog (Gl.none Try.prog) Try.f76 1 = .mk d76 (mkTT 9) [(pth 0)] [.tmp (pth 2)] := by kernel_rfl
theorem dg76 : Try.prog.funcs[76]? = some Try.f76 := Try.func76
theorem do76 : okF Try.prog Try.f76 = true := by kernel_rfl
noncomputable def d67 : FCode := (.seq (.run (.go (.move (.con (.bool false))) (pth 2) ::
[])) (.seq (.run (.go (.build [(.int .i64 (.ofNat 0)),(.int .i64 (.ofNat 0))] [(0,1,(.con (.int .i64 (.ofNat 0)))),(1,1,(.con (.int .i64 (.ofNat 140))))]) (pth 4) ::
.go (.alloc 48 [(.int .i64 (.ofNat 0)),(.int .i64 (.ofNat 0))]) (pth 3) ::
.un (.store 2 (.tmp (pth 3)) (.tmp (pth 4))) ::
[])) (.seq (.run (.go (.move (.tmp (pth 0))) (pth 5) ::
.go (.loadN 2 (.tmp (pth 3))) (pth 6) ::
.go (.makeFunc 65 [(.tmp (pth 6))] []) (pth 7) ::
.go (.call (.con (.func (.func 89) ⟨[]⟩ ⟨[]⟩)) [(.tmp (pth 5)),(.tmp (pth 7))]) (pth 8) ::
.go (.move (.tmp (pth 8))) (pth 2) ::
[])) .ret)))
theorem de67 : @compF Try.prog (Gl.none Try.prog) Try.f67 1 = .mk d67 (mkTT 9) [(pth 0)] [.tmp (pth 2)] := by kernel_rfl
theorem dg67 : Try.prog.funcs[67]? = some Try.f67 := Try.func67
theorem do67 : okF Try.prog Try.f67 = true := by kernel_rfl
noncomputable def d33 : FCode := (.seq (.run (.go (.move (.con (.slice none 0 0))) (pth 2) ::
[])) (.seq (.run (.go (.move (.tmp (pth 0))) (pth 3) ::
.go (.append 3 1 8 (.con (.slice none 0 0)) (.tmp (pth 3))) (pth 4) ::
.go (.move (.tmp (pth 4))) (pth 2) ::
[])) .ret))
theorem de33 : @compF Try.prog (Gl.none Try.prog) Try.f33 1 = .mk d33 (mkTT 5) [(pth 0)] [.tmp (pth 2)] := by kernel_rfl
theorem dg33 : Try.prog.funcs[33]? = some Try.f33 := Try.func33
theorem do33 : okF Try.prog Try.f33 = true := by kernel_rfl
@[reducible] instance gl : Gl Try.prog := Gl.none Try.prog
@[reducible] instance orc : Orc Try.prog := TAO.orc
abbrev I (n : Int) : Value := .int .i64 n
abbrev U : Value := undef

theorem tm_le {x b : Int} (hx : 0 ≤ x) (hb : 0 < b) : 0 ≤ x.tmod b ∧ x.tmod b < b ∧ x.tmod b ≤ x := by
  rw [Int.tmod_eq_emod_of_nonneg hx]
  refine ⟨Int.emod_nonneg _ (by omega), Int.emod_lt_of_pos _ hb, ?_⟩
  have h1 := Int.mul_ediv_add_emod x b
  have h2 : 0 ≤ b * (x / b) := Int.mul_nonneg (by omega) (Int.ediv_nonneg hx (by omega))
  omega
theorem f27_ok (a b c : Int) (H : Heap) : Gives Try.prog 27 [I a, I b, I c] H (.bool (decide (b ≤ a ∧ a ≤ c))) := by
  refine F.entryL rfl dg27 do27 de27 rfl (by kernel_rfl) ?_
  simp only [sets]
  refine V.re [(0, I a), (1, I b), (2, I c)] (N := 15) (by intro i; simp only [full_st, Full.mk]) (by simp only [Kn, gt_st, full_st, Full.mk, reduceIte, Nat.reduceEqDiff, Nat.reduceLT, decide_true, and_self]) ?_
  intro t hF hA
  simp only [Kn, and_true] at hA
  (repeat first | refine V.seq ?_ | refine V.block ?_ | refine V.scope ?_ | refine V.skip ?_ | refine V.close ?_)
  refine V.line' (by simp (maxSteps := 1000000) (disch := (first | omega | (simp only [Heap.next_alloc, Heap.next_set]; omega))) only [D2, mm_max, mm_min, cells_alloc_at, cells_alloc_ne, cells_set_at, cells_set_ne, dop, dA, sets, yfield1, yfieldN, yfieldAddr, Int.reduceNegSucc, Int.reduceEq, Nat.reduceLeDiff, Nat.reduceSub, Nat.reduceAdd, gt_st, full_st, hF, hA, reduceIte, Nat.reduceEqDiff, Nat.reduceLT, decide_true, decide_false, Bool.false_eq_true]; with_reducible rfl) ?_
  (repeat first | refine V.seq ?_ | refine V.block ?_ | refine V.scope ?_ | refine V.skip ?_ | refine V.close ?_)
  by_cases h : b ≤ a
  · refine V.line' (by simp (maxSteps := 1000000) (disch := (first | omega | (simp only [Heap.next_alloc, Heap.next_set]; omega))) only [D2, mm_max, mm_min, cells_alloc_at, cells_alloc_ne, cells_set_at, cells_set_ne, dop, dA, sets, yfield1, yfieldN, yfieldAddr, Int.reduceNegSucc, Int.reduceEq, Nat.reduceLeDiff, Nat.reduceSub, Nat.reduceAdd, gt_st, full_st, hF, hA, reduceIte, Nat.reduceEqDiff, Nat.reduceLT, decide_true, decide_false, Bool.false_eq_true, h]; with_reducible rfl) ?_
    refine V.ret (V.rets rfl (Lv.retG (by simp (disch := (first | omega | (simp only [Heap.next_alloc, Heap.next_set]; omega))) only [D1, cells_alloc_at, cells_alloc_ne, cells_set_at, cells_set_ne, yres, yres1, yresL, Nat.reduceLeDiff, Nat.reduceSub, Nat.reduceAdd, gt_st, full_st, hF, hA, reduceIte, Nat.reduceEqDiff, Nat.reduceLT, decide_true, decide_false, Bool.false_eq_true]; rfl) ?_ ?_))
    · exact .refl _
    · simp [h]
  · refine V.line' (by simp (maxSteps := 1000000) (disch := (first | omega | (simp only [Heap.next_alloc, Heap.next_set]; omega))) only [D2, mm_max, mm_min, cells_alloc_at, cells_alloc_ne, cells_set_at, cells_set_ne, dop, dA, sets, yfield1, yfieldN, yfieldAddr, Int.reduceNegSucc, Int.reduceEq, Nat.reduceLeDiff, Nat.reduceSub, Nat.reduceAdd, gt_st, full_st, hF, hA, reduceIte, Nat.reduceEqDiff, Nat.reduceLT, decide_true, decide_false, Bool.false_eq_true, h]; with_reducible rfl) ?_
    refine V.ret (V.rets rfl (Lv.retG (by simp (disch := (first | omega | (simp only [Heap.next_alloc, Heap.next_set]; omega))) only [D1, cells_alloc_at, cells_alloc_ne, cells_set_at, cells_set_ne, yres, yres1, yresL, Nat.reduceLeDiff, Nat.reduceSub, Nat.reduceAdd, gt_st, full_st, hF, hA, reduceIte, Nat.reduceEqDiff, Nat.reduceLT, decide_true, decide_false, Bool.false_eq_true]; rfl) ?_ ?_))
    · exact .refl _
    · simp [h]
theorem f65_ok (a b n : Int) (H : Heap) : Gives Try.prog 65 [.agg ⟨[I a, I b]⟩, I n] H (.bool (decide (a ≤ n ∧ n ≤ b))) := by
  refine F.entryL rfl dg65 do65 de65 rfl (by kernel_rfl) ?_
  simp only [sets]
  refine V.re [(0, .agg ⟨[I a, I b]⟩), (1, I n)] (N := 15) (by intro i; simp only [full_st, Full.mk]) (by simp only [Kn, gt_st, full_st, Full.mk, reduceIte, Nat.reduceEqDiff, Nat.reduceLT, decide_true, and_self]) ?_
  intro t hF hA
  simp only [Kn, and_true] at hA
  (repeat first | refine V.seq ?_ | refine V.block ?_ | refine V.scope ?_ | refine V.skip ?_ | refine V.close ?_)
  refine V.line' (by simp (maxSteps := 1000000) (disch := (first | omega | (simp only [Heap.next_alloc, Heap.next_set]; omega))) only [D2, mm_max, mm_min, cells_alloc_at, cells_alloc_ne, cells_set_at, cells_set_ne, dop, dA, sets, yfield1, yfieldN, yfieldAddr, Int.reduceNegSucc, Int.reduceEq, Nat.reduceLeDiff, Nat.reduceSub, Nat.reduceAdd, gt_st, full_st, hF, hA, reduceIte, Nat.reduceEqDiff, Nat.reduceLT, decide_true, decide_false, Bool.false_eq_true]; with_reducible rfl) ?_
  (repeat first | refine V.seq ?_ | refine V.block ?_ | refine V.scope ?_ | refine V.skip ?_ | refine V.close ?_)
  by_cases h : a ≤ n
  · refine V.line' (by simp (maxSteps := 1000000) (disch := (first | omega | (simp only [Heap.next_alloc, Heap.next_set]; omega))) only [D2, mm_max, mm_min, cells_alloc_at, cells_alloc_ne, cells_set_at, cells_set_ne, dop, dA, sets, yfield1, yfieldN, yfieldAddr, Int.reduceNegSucc, Int.reduceEq, Nat.reduceLeDiff, Nat.reduceSub, Nat.reduceAdd, gt_st, full_st, hF, hA, reduceIte, Nat.reduceEqDiff, Nat.reduceLT, decide_true, decide_false, Bool.false_eq_true, h]; with_reducible rfl) ?_
    refine V.ret (V.rets rfl (Lv.retG (by simp (disch := (first | omega | (simp only [Heap.next_alloc, Heap.next_set]; omega))) only [D1, cells_alloc_at, cells_alloc_ne, cells_set_at, cells_set_ne, yres, yres1, yresL, Nat.reduceLeDiff, Nat.reduceSub, Nat.reduceAdd, gt_st, full_st, hF, hA, reduceIte, Nat.reduceEqDiff, Nat.reduceLT, decide_true, decide_false, Bool.false_eq_true]; rfl) ?_ ?_))
    · exact (Grow.refl _).alloc _
    · simp [h]
  · refine V.line' (by simp (maxSteps := 1000000) (disch := (first | omega | (simp only [Heap.next_alloc, Heap.next_set]; omega))) only [D2, mm_max, mm_min, cells_alloc_at, cells_alloc_ne, cells_set_at, cells_set_ne, dop, dA, sets, yfield1, yfieldN, yfieldAddr, Int.reduceNegSucc, Int.reduceEq, Nat.reduceLeDiff, Nat.reduceSub, Nat.reduceAdd, gt_st, full_st, hF, hA, reduceIte, Nat.reduceEqDiff, Nat.reduceLT, decide_true, decide_false, Bool.false_eq_true, h]; with_reducible rfl) ?_
    refine V.ret (V.rets rfl (Lv.retG (by simp (disch := (first | omega | (simp only [Heap.next_alloc, Heap.next_set]; omega))) only [D1, cells_alloc_at, cells_alloc_ne, cells_set_at, cells_set_ne, yres, yres1, yresL, Nat.reduceLeDiff, Nat.reduceSub, Nat.reduceAdd, gt_st, full_st, hF, hA, reduceIte, Nat.reduceEqDiff, Nat.reduceLT, decide_true, decide_false, Bool.false_eq_true]; rfl) ?_ ?_))
    · exact (Grow.refl _).alloc _
    · simp [h]
theorem f89_ok {H : Heap} {v : Value} {l : List Int} {g : FuncId} {first cap : List Value} {p : Int → Bool} (hS : Sl H v (l.map I)) (hn : l.length ≤ 1048576) (hp : ∀ x ∈ l, ∀ H', Grow H H' → Gives Try.prog g (first ++ [I x] ++ cap) H' (.bool (p x))) :
    Gives Try.prog 89 [v, .func (.func g) ⟨first⟩ ⟨cap⟩] H (.bool (l.all p)) := by
  have hlen : ylen 0 H v = some (I l.length) := by rw [hS.len, List.length_map]
  refine F.entryL rfl dg89 do89 de89 rfl (by kernel_rfl) ?_
  simp only [sets]
  refine V.re [(0, v), (1, .func (.func g) ⟨first⟩ ⟨cap⟩)] (N := 18) (by intro i; simp only [full_st, Full.mk]) (by simp only [Kn, gt_st, full_st, Full.mk, reduceIte, Nat.reduceEqDiff, Nat.reduceLT, decide_true, and_self]) ?_
  intro t hF hA
  simp only [Kn, and_true] at hA
  (repeat first | refine V.seq ?_ | refine V.block ?_ | refine V.scope ?_ | refine V.skip ?_ | refine V.close ?_)
  refine V.line' (by simp (maxSteps := 1000000) (disch := (first | omega | (simp only [Heap.next_alloc, Heap.next_set]; omega))) only [D2, mm_max, mm_min, cells_alloc_at, cells_alloc_ne, cells_set_at, cells_set_ne, dop, dA, sets, yfield1, yfieldN, yfieldAddr, Int.reduceNegSucc, Int.reduceEq, Nat.reduceLeDiff, Nat.reduceSub, Nat.reduceAdd, gt_st, full_st, hF, hA, reduceIte, Nat.reduceEqDiff, Nat.reduceLT, decide_true, decide_false, Bool.false_eq_true]; with_reducible rfl) ?_
  (repeat first | refine V.seq ?_ | refine V.block ?_ | refine V.scope ?_ | refine V.skip ?_ | refine V.close ?_)
  refine V.line' (by simp (maxSteps := 1000000) (disch := (first | omega | (simp only [Heap.next_alloc, Heap.next_set]; omega))) only [D2, mm_max, mm_min, cells_alloc_at, cells_alloc_ne, cells_set_at, cells_set_ne, dop, dA, sets, yfield1, yfieldN, yfieldAddr, Int.reduceNegSucc, Int.reduceEq, Nat.reduceLeDiff, Nat.reduceSub, Nat.reduceAdd, gt_st, full_st, hF, hA, reduceIte, Nat.reduceEqDiff, Nat.reduceLT, decide_true, decide_false, Bool.false_eq_true, hlen]; with_reducible rfl) ?_
  (repeat first | refine V.seq ?_ | refine V.block ?_ | refine V.scope ?_ | refine V.skip ?_ | refine V.close ?_)
  refine V.loop (fun n t m H' => ∃ (k : Nat), k ≤ l.length ∧ n = l.length - k ∧ (∀ x ∈ l.take k, p x = true) ∧ m = [] ∧ Grow H H' ∧ Full 18 t ∧ Kn [(1, .func (.func g) ⟨first⟩ ⟨cap⟩), (7, v), (8, I l.length), (9, I k)] t) l.length ?_ ?_
  · exact ⟨0, by omega, by omega, by simp, rfl, .refl _, (by intro i; simp only [full_st, hF]), (by simp only [Kn, gt_st, full_st, hF, hA, reduceIte, Nat.reduceEqDiff, Nat.reduceLT, decide_true, decide_false, Bool.false_eq_true, and_self, and_true, true_and]; try (repeat' constructor))⟩
  clear hF hA
  rintro n t m H' ⟨k, hk, rfl, hall, rfl, hg, hF, hA⟩
  simp only [Kn, and_true] at hA
  (repeat first | refine V.seq ?_ | refine V.block ?_ | refine V.scope ?_ | refine V.skip ?_ | refine V.close ?_)
  refine V.line' (by simp (maxSteps := 1000000) (disch := (first | omega | (simp only [Heap.next_alloc, Heap.next_set]; omega))) only [D2, mm_max, mm_min, cells_alloc_at, cells_alloc_ne, cells_set_at, cells_set_ne, dop, dA, sets, yfield1, yfieldN, yfieldAddr, Int.reduceNegSucc, Int.reduceEq, Nat.reduceLeDiff, Nat.reduceSub, Nat.reduceAdd, gt_st, full_st, hF, hA, reduceIte, Nat.reduceEqDiff, Nat.reduceLT, decide_true, decide_false, Bool.false_eq_true]; with_reducible rfl) ?_
  (repeat first | refine V.seq ?_ | refine V.block ?_ | refine V.scope ?_ | refine V.skip ?_ | refine V.close ?_)
  refine V.condP (by simp only [dA, gt_st, full_st, hF, hA, reduceIte, Nat.reduceEqDiff, Nat.reduceLT, decide_true, decide_false, Bool.false_eq_true]; rfl) (fun hlt => ?_) (fun hlt => ?_)
  · skip
    have hlt' : k < l.length := by omega
    obtain ⟨q, hq1, hq2⟩ := hS.get (n := k) (k := k) (x := I l[k]) (kd := .i64) (by simp [hlt']) rfl
    (repeat first | refine V.seq ?_ | refine V.block ?_ | refine V.scope ?_ | refine V.skip ?_ | refine V.close ?_)
    refine V.line' (by simp (maxSteps := 1000000) (disch := (first | omega | (simp only [Heap.next_alloc, Heap.next_set]; omega))) only [D2, mm_max, mm_min, cells_alloc_at, cells_alloc_ne, cells_set_at, cells_set_ne, dop, dA, sets, yfield1, yfieldN, yfieldAddr, Int.reduceNegSucc, Int.reduceEq, Nat.reduceLeDiff, Nat.reduceSub, Nat.reduceAdd, gt_st, full_st, hF, hA, reduceIte, Nat.reduceEqDiff, Nat.reduceLT, decide_true, decide_false, Bool.false_eq_true, hq1, hq2 _ hg]; with_reducible rfl) ?_
    (repeat first | refine V.seq ?_ | refine V.block ?_ | refine V.scope ?_ | refine V.skip ?_ | refine V.close ?_)
    refine V.run ?_
    refine VI.steps' 2 (by simp (maxSteps := 1000000) (disch := (first | omega | (simp only [Heap.next_alloc, Heap.next_set]; omega))) only [D2, mm_max, mm_min, cells_alloc_at, cells_alloc_ne, cells_set_at, cells_set_ne, dop, dA, sets, yfield1, yfieldN, yfieldAddr, Int.reduceNegSucc, Int.reduceEq, Nat.reduceLeDiff, Nat.reduceSub, Nat.reduceAdd, gt_st, full_st, hF, hA, reduceIte, Nat.reduceEqDiff, Nat.reduceLT, decide_true, decide_false, Bool.false_eq_true]; with_reducible rfl) ?_
    simp only [List.drop_succ_cons, List.drop_zero]
    refine VI.callA (by simp only [dA, gt_st, full_st, hF, hA, reduceIte, Nat.reduceEqDiff, Nat.reduceLT, decide_true, decide_false, Bool.false_eq_true]; rfl) (hp l[k] (by simp) H' hg) (by simp only [List.map_cons, List.map_nil, dA, gt_st, full_st, hF, hA, reduceIte, Nat.reduceEqDiff, Nat.reduceLT, decide_true, decide_false, Bool.false_eq_true]) (fun H2 hg2 => ?_)
    refine VI.line' (by simp (maxSteps := 1000000) (disch := (first | omega | (simp only [Heap.next_alloc, Heap.next_set]; omega))) only [D2, mm_max, mm_min, cells_alloc_at, cells_alloc_ne, cells_set_at, cells_set_ne, dop, dA, sets, yfield1, yfieldN, yfieldAddr, Int.reduceNegSucc, Int.reduceEq, Nat.reduceLeDiff, Nat.reduceSub, Nat.reduceAdd, gt_st, full_st, hF, hA, reduceIte, Nat.reduceEqDiff, Nat.reduceLT, decide_true, decide_false, Bool.false_eq_true]; with_reducible rfl) ?_
    refine V.condB (by simp only [dA, gt_st, full_st, hF, hA, reduceIte, Nat.reduceEqDiff, Nat.reduceLT, decide_true, decide_false, Bool.false_eq_true]; rfl) (fun hb => ?_) (fun hb => ?_)
    · (repeat first | refine V.seq ?_ | refine V.block ?_ | refine V.scope ?_ | refine V.skip ?_ | refine V.close ?_)
      refine V.line' (by simp (maxSteps := 1000000) (disch := (first | omega | (simp only [Heap.next_alloc, Heap.next_set]; omega))) only [D2, mm_max, mm_min, cells_alloc_at, cells_alloc_ne, cells_set_at, cells_set_ne, dop, dA, sets, yfield1, yfieldN, yfieldAddr, Int.reduceNegSucc, Int.reduceEq, Nat.reduceLeDiff, Nat.reduceSub, Nat.reduceAdd, gt_st, full_st, hF, hA, reduceIte, Nat.reduceEqDiff, Nat.reduceLT, decide_true, decide_false, Bool.false_eq_true]; with_reducible rfl) ?_
      refine V.ret (V.rets rfl (Or.inr ⟨by simp, V.rets rfl (Lv.retG (by simp (disch := (first | omega | (simp only [Heap.next_alloc, Heap.next_set]; omega))) only [D1, cells_alloc_at, cells_alloc_ne, cells_set_at, cells_set_ne, yres, yres1, yresL, Nat.reduceLeDiff, Nat.reduceSub, Nat.reduceAdd, gt_st, full_st, hF, hA, reduceIte, Nat.reduceEqDiff, Nat.reduceLT, decide_true, decide_false, Bool.false_eq_true]; rfl) ?_ ?_)⟩))
      · exact hg.trans hg2
      · have hb' : p l[k] = false := by simpa using hb
        have : l.all p = false := List.all_eq_false.2 ⟨l[k], by simp, by simp [hb']⟩
        rw [this]
    · (repeat first | refine V.seq ?_ | refine V.block ?_ | refine V.scope ?_ | refine V.skip ?_ | refine V.close ?_)
      refine V.line' (by simp (maxSteps := 1000000) (disch := (first | omega | (simp only [Heap.next_alloc, Heap.next_set]; omega))) only [D2, mm_max, mm_min, cells_alloc_at, cells_alloc_ne, cells_set_at, cells_set_ne, dop, dA, sets, yfield1, yfieldN, yfieldAddr, Int.reduceNegSucc, Int.reduceEq, Nat.reduceLeDiff, Nat.reduceSub, Nat.reduceAdd, gt_st, full_st, hF, hA, reduceIte, Nat.reduceEqDiff, Nat.reduceLT, decide_true, decide_false, Bool.false_eq_true]; with_reducible rfl) ?_
      refine V.nil (Or.inl ⟨rfl, l.length - (k + 1), by omega, ?_⟩)
      refine ⟨k + 1, by omega, rfl, ?_, rfl, hg.trans hg2, (by intro i; simp only [full_st, hF]), (by simp only [Kn, gt_st, full_st, hF, hA, reduceIte, Nat.reduceEqDiff, Nat.reduceLT, decide_true, decide_false, Bool.false_eq_true, and_self, and_true, true_and]; try (repeat' constructor))⟩
      intro x hx
      rw [List.take_add_one] at hx
      rcases List.mem_append.1 hx with hx | hx
      · exact hall x hx
      · simp [hlt'] at hx
        subst hx
        simpa using hb
  · refine V.exit ?_
    (repeat first | refine V.pass ?_ | refine V.here ?_ | refine V.out (by decide) ?_)
    refine V.nil (Or.inr ⟨by simp, ?_⟩)
    (repeat first | refine V.pass ?_ | refine V.here ?_ | refine V.out (by decide) ?_)
    (repeat first | refine V.seq ?_ | refine V.block ?_ | refine V.scope ?_ | refine V.skip ?_ | refine V.close ?_)
    refine V.line' (by simp (maxSteps := 1000000) (disch := (first | omega | (simp only [Heap.next_alloc, Heap.next_set]; omega))) only [D2, mm_max, mm_min, cells_alloc_at, cells_alloc_ne, cells_set_at, cells_set_ne, dop, dA, sets, yfield1, yfieldN, yfieldAddr, Int.reduceNegSucc, Int.reduceEq, Nat.reduceLeDiff, Nat.reduceSub, Nat.reduceAdd, gt_st, full_st, hF, hA, reduceIte, Nat.reduceEqDiff, Nat.reduceLT, decide_true, decide_false, Bool.false_eq_true]; with_reducible rfl) ?_
    refine V.ret (V.rets rfl (Lv.retG (by simp (disch := (first | omega | (simp only [Heap.next_alloc, Heap.next_set]; omega))) only [D1, cells_alloc_at, cells_alloc_ne, cells_set_at, cells_set_ne, yres, yres1, yresL, Nat.reduceLeDiff, Nat.reduceSub, Nat.reduceAdd, gt_st, full_st, hF, hA, reduceIte, Nat.reduceEqDiff, Nat.reduceLT, decide_true, decide_false, Bool.false_eq_true]; rfl) ?_ ?_))
    · exact hg
    · have : l.take k = l := List.take_of_length_le (by omega)
      rw [this] at hall
      rw [List.all_eq_true.2 hall]
theorem f76_ok (b : Int) (H : Heap) : Gives Try.prog 76 [I b] H (.bool (decide (1 ≤ b ∧ b ≤ 12))) := by
  refine F.entryL rfl dg76 do76 de76 rfl (by kernel_rfl) ?_
  simp only [sets]
  refine V.re [(0, I b)] (N := 9) (by intro i; simp only [full_st, Full.mk]) (by simp only [Kn, gt_st, full_st, Full.mk, reduceIte, Nat.reduceEqDiff, Nat.reduceLT, decide_true, and_self]) ?_
  intro t hF hA
  simp only [Kn, and_true] at hA
  (repeat first | refine V.seq ?_ | refine V.block ?_ | refine V.scope ?_ | refine V.skip ?_ | refine V.close ?_)
  refine V.line' (by simp (maxSteps := 1000000) (disch := (first | omega | (simp only [Heap.next_alloc, Heap.next_set]; omega))) only [D2, mm_max, mm_min, cells_alloc_at, cells_alloc_ne, cells_set_at, cells_set_ne, dop, dA, sets, yfield1, yfieldN, yfieldAddr, Int.reduceNegSucc, Int.reduceEq, Nat.reduceLeDiff, Nat.reduceSub, Nat.reduceAdd, gt_st, full_st, hF, hA, reduceIte, Nat.reduceEqDiff, Nat.reduceLT, decide_true, decide_false, Bool.false_eq_true]; with_reducible rfl) ?_
  (repeat first | refine V.seq ?_ | refine V.block ?_ | refine V.scope ?_ | refine V.skip ?_ | refine V.close ?_)
  by_cases h : 1 ≤ b
  · refine V.line' (by simp (maxSteps := 1000000) (disch := (first | omega | (simp only [Heap.next_alloc, Heap.next_set]; omega))) only [D2, mm_max, mm_min, cells_alloc_at, cells_alloc_ne, cells_set_at, cells_set_ne, dop, dA, sets, yfield1, yfieldN, yfieldAddr, Int.reduceNegSucc, Int.reduceEq, Nat.reduceLeDiff, Nat.reduceSub, Nat.reduceAdd, gt_st, full_st, hF, hA, reduceIte, Nat.reduceEqDiff, Nat.reduceLT, decide_true, decide_false, Bool.false_eq_true, h]; with_reducible rfl) ?_
    refine V.ret (V.rets rfl (Lv.retG (by simp (disch := (first | omega | (simp only [Heap.next_alloc, Heap.next_set]; omega))) only [D1, cells_alloc_at, cells_alloc_ne, cells_set_at, cells_set_ne, yres, yres1, yresL, Nat.reduceLeDiff, Nat.reduceSub, Nat.reduceAdd, gt_st, full_st, hF, hA, reduceIte, Nat.reduceEqDiff, Nat.reduceLT, decide_true, decide_false, Bool.false_eq_true]; rfl) ?_ ?_))
    · exact .refl _
    · simp [h]
  · refine V.line' (by simp (maxSteps := 1000000) (disch := (first | omega | (simp only [Heap.next_alloc, Heap.next_set]; omega))) only [D2, mm_max, mm_min, cells_alloc_at, cells_alloc_ne, cells_set_at, cells_set_ne, dop, dA, sets, yfield1, yfieldN, yfieldAddr, Int.reduceNegSucc, Int.reduceEq, Nat.reduceLeDiff, Nat.reduceSub, Nat.reduceAdd, gt_st, full_st, hF, hA, reduceIte, Nat.reduceEqDiff, Nat.reduceLT, decide_true, decide_false, Bool.false_eq_true, h]; with_reducible rfl) ?_
    refine V.ret (V.rets rfl (Lv.retG (by simp (disch := (first | omega | (simp only [Heap.next_alloc, Heap.next_set]; omega))) only [D1, cells_alloc_at, cells_alloc_ne, cells_set_at, cells_set_ne, yres, yres1, yresL, Nat.reduceLeDiff, Nat.reduceSub, Nat.reduceAdd, gt_st, full_st, hF, hA, reduceIte, Nat.reduceEqDiff, Nat.reduceLT, decide_true, decide_false, Bool.false_eq_true]; rfl) ?_ ?_))
    · exact .refl _
    · simp [h]
theorem f67_ok {H : Heap} {v : Value} {l : List Int} (hS : Sl H v (l.map I)) (hn : l.length ≤ 1048576) : Gives Try.prog 67 [v] H (.bool (l.all fun x => decide (0 ≤ x ∧ x ≤ 140))) := by
  refine F.entryL rfl dg67 do67 de67 rfl (by kernel_rfl) ?_
  simp only [sets]
  refine V.re [(0, v)] (N := 9) (by intro i; simp only [full_st, Full.mk]) (by simp only [Kn, gt_st, full_st, Full.mk, reduceIte, Nat.reduceEqDiff, Nat.reduceLT, decide_true, and_self]) ?_
  intro t hF hA
  simp only [Kn, and_true] at hA
  (repeat first | refine V.seq ?_ | refine V.block ?_ | refine V.scope ?_ | refine V.skip ?_ | refine V.close ?_)
  refine V.line' (by simp (maxSteps := 1000000) (disch := (first | omega | (simp only [Heap.next_alloc, Heap.next_set]; omega))) only [D2, mm_max, mm_min, cells_alloc_at, cells_alloc_ne, cells_set_at, cells_set_ne, dop, dA, sets, yfield1, yfieldN, yfieldAddr, Int.reduceNegSucc, Int.reduceEq, Nat.reduceLeDiff, Nat.reduceSub, Nat.reduceAdd, gt_st, full_st, hF, hA, reduceIte, Nat.reduceEqDiff, Nat.reduceLT, decide_true, decide_false, Bool.false_eq_true]; with_reducible rfl) ?_
  (repeat first | refine V.seq ?_ | refine V.block ?_ | refine V.scope ?_ | refine V.skip ?_ | refine V.close ?_)
  refine V.line' (by simp (maxSteps := 1000000) (disch := (first | omega | (simp only [Heap.next_alloc, Heap.next_set]; omega))) only [D2, mm_max, mm_min, cells_alloc_at, cells_alloc_ne, cells_set_at, cells_set_ne, dop, dA, sets, yfield1, yfieldN, yfieldAddr, Int.reduceNegSucc, Int.reduceEq, Nat.reduceLeDiff, Nat.reduceSub, Nat.reduceAdd, gt_st, full_st, hF, hA, reduceIte, Nat.reduceEqDiff, Nat.reduceLT, decide_true, decide_false, Bool.false_eq_true]; with_reducible rfl) ?_
  (repeat first | refine V.seq ?_ | refine V.block ?_ | refine V.scope ?_ | refine V.skip ?_ | refine V.close ?_)
  refine V.run ?_
  refine VI.steps' 3 (by simp (maxSteps := 1000000) (disch := (first | omega | (simp only [Heap.next_alloc, Heap.next_set]; omega))) only [D2, mm_max, mm_min, cells_alloc_at, cells_alloc_ne, cells_set_at, cells_set_ne, dop, dA, sets, yfield1, yfieldN, yfieldAddr, Int.reduceNegSucc, Int.reduceEq, Nat.reduceLeDiff, Nat.reduceSub, Nat.reduceAdd, gt_st, full_st, hF, hA, reduceIte, Nat.reduceEqDiff, Nat.reduceLT, decide_true, decide_false, Bool.false_eq_true]; with_reducible rfl) ?_
  simp only [List.drop_succ_cons, List.drop_zero]
  refine VI.callA rfl (f89_ok (first := [.agg ⟨[I 0, I 140]⟩]) (cap := []) (p := fun x => decide (0 ≤ x ∧ x ≤ 140)) (hS.grow (((Grow.refl H).alloc _).set (by simp) _)) hn (fun x hx H' hg => f65_ok 0 140 x H')) (by simp only [List.map_cons, List.map_nil, dA, gt_st, full_st, hF, hA, reduceIte, Nat.reduceEqDiff, Nat.reduceLT, decide_true, decide_false, Bool.false_eq_true, List.nil_append, List.append_nil, List.cons_append]; try rfl) (fun H2 hg2 => ?_)
  refine VI.line' (by simp (maxSteps := 1000000) (disch := (first | omega | (simp only [Heap.next_alloc, Heap.next_set]; omega))) only [D2, mm_max, mm_min, cells_alloc_at, cells_alloc_ne, cells_set_at, cells_set_ne, dop, dA, sets, yfield1, yfieldN, yfieldAddr, Int.reduceNegSucc, Int.reduceEq, Nat.reduceLeDiff, Nat.reduceSub, Nat.reduceAdd, gt_st, full_st, hF, hA, reduceIte, Nat.reduceEqDiff, Nat.reduceLT, decide_true, decide_false, Bool.false_eq_true]; with_reducible rfl) ?_
  refine V.ret (V.rets rfl (Lv.retG (by simp (disch := (first | omega | (simp only [Heap.next_alloc, Heap.next_set]; omega))) only [D1, cells_alloc_at, cells_alloc_ne, cells_set_at, cells_set_ne, yres, yres1, yresL, Nat.reduceLeDiff, Nat.reduceSub, Nat.reduceAdd, gt_st, full_st, hF, hA, reduceIte, Nat.reduceEqDiff, Nat.reduceLT, decide_true, decide_false, Bool.false_eq_true]; rfl) ?_ ?_))
  · exact (((Grow.refl H).alloc _).set (by simp) _).trans hg2
  · rfl
/-- How many numbers of the list are multiples. -/
def cnt (l : List Int) (b : Int) : Nat := (l.filter fun x => decide (x.tmod b = 0)).length
def hp (l : List Int) (b : Int) : Int × Int :=
  if 200 < l.length then (0, 3)
  else if ¬ (1 ≤ b ∧ b ≤ 12) then (0, 1)
  else if ¬ (l.all fun x => decide (0 ≤ x ∧ x ≤ 140)) then (0, 2)
  else if l.length = 0 then (0, 7)
  else ((cnt l b * b * 1000).tdiv l.length, 0)
theorem ints_ok1 (l : List Int) : (l.map I).all ok1 = true := by
  rw [List.all_map]
  exact List.all_eq_true.2 (fun _ _ => rfl)
theorem f33_ok {H : Heap} {v : Value} {l : List Int} (hS : Sl H v (l.map I)) (hn : l.length ≤ 1048576) : F Try.prog 33 ⟨[v]⟩ H (fun w H' => Ow H H' 3 w (l.map I) ∧ Grow H H') := by
  obtain ⟨w, H', h1, h2, h3, h4⟩ := Ow.append (e := 3) (bytes := 8) (Grow.refl H) (.inl ⟨rfl, rfl⟩) hS (ints_ok1 l) (by simp; omega) (by simp; omega)
  refine F.entryL rfl dg33 do33 de33 rfl (by kernel_rfl) ?_
  simp only [sets]
  refine V.re [(0, v)] (N := 5) (by intro i; simp only [full_st, Full.mk]) (by simp only [Kn, gt_st, full_st, Full.mk, reduceIte, Nat.reduceEqDiff, Nat.reduceLT, decide_true, and_self]) ?_
  intro t hF hA
  simp only [Kn, and_true] at hA
  (repeat first | refine V.seq ?_ | refine V.block ?_ | refine V.scope ?_ | refine V.skip ?_ | refine V.close ?_)
  refine V.line' (by simp (maxSteps := 1000000) (disch := (first | omega | (simp only [Heap.next_alloc, Heap.next_set]; omega))) only [D2, mm_max, mm_min, cells_alloc_at, cells_alloc_ne, cells_set_at, cells_set_ne, dop, dA, sets, yfield1, yfieldN, yfieldAddr, Int.reduceNegSucc, Int.reduceEq, Nat.reduceLeDiff, Nat.reduceSub, Nat.reduceAdd, gt_st, full_st, hF, hA, reduceIte, Nat.reduceEqDiff, Nat.reduceLT, decide_true, decide_false, Bool.false_eq_true]; with_reducible rfl) ?_
  (repeat first | refine V.seq ?_ | refine V.block ?_ | refine V.scope ?_ | refine V.skip ?_ | refine V.close ?_)
  refine V.line' (by simp (maxSteps := 1000000) (disch := (first | omega | (simp only [Heap.next_alloc, Heap.next_set]; omega))) only [D2, mm_max, mm_min, cells_alloc_at, cells_alloc_ne, cells_set_at, cells_set_ne, dop, dA, sets, yfield1, yfieldN, yfieldAddr, Int.reduceNegSucc, Int.reduceEq, Nat.reduceLeDiff, Nat.reduceSub, Nat.reduceAdd, gt_st, full_st, hF, hA, reduceIte, Nat.reduceEqDiff, Nat.reduceLT, decide_true, decide_false, Bool.false_eq_true, h1]; with_reducible rfl) ?_
  refine V.ret (V.rets rfl (Lv.retF (by simp (disch := (first | omega | (simp only [Heap.next_alloc, Heap.next_set]; omega))) only [D1, cells_alloc_at, cells_alloc_ne, cells_set_at, cells_set_ne, yres, yres1, yresL, Nat.reduceLeDiff, Nat.reduceSub, Nat.reduceAdd, gt_st, full_st, hF, hA, reduceIte, Nat.reduceEqDiff, Nat.reduceLT, decide_true, decide_false, Bool.false_eq_true]; rfl) ?_))
  exact ⟨h2, h3⟩
theorem f26_ok (H : Heap) : Gives Try.prog 26 [] H (.bool true) := .orc rfl
end Go.Xe.TAX
