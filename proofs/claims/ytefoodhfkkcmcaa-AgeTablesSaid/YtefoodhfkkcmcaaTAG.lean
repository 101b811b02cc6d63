/- What the reference of the layer age writes, and which ages it allows. Conditions: none. -/
import Derived.Test.YtefoodhfkkcmcaaZm
import Derived.Test.YtefoodhfkkcmcaaTAD
import Derived.Test.YtefoodhfkkcmcaaZr
-- MOD TA
namespace Go.Xe.TAX
open Go Go.Xe Go.Proofs
set_option maxRecDepth 100000
set_option maxHeartbeats 1600000
set_option linter.unusedSimpArgs false
noncomputable def d28 : FCode := (.seq (.run (.go (.box 23 (.tmp (pth 0))) (pth 2) ::
.go (.move (.con (.int .i64 (.ofNat 0)))) (pth 4) ::
[])) (.seq (.seq (.run (.go (.move (.tmp (pth 1))) (pth 7) ::
.go (.fieldAddr 0 (.tmp (pth 2))) (pth 8) ::
.go (.load1 (.tmp (pth 8))) (pth 9) ::
.go (.bin .lss 3 (.tmp (pth 7)) (.tmp (pth 9))) (pth 10) ::
[])) (.cond (.tmp (pth 10)) (.seq (.run (.go (.move (.tmp (pth 1))) (pth 11) ::
.go (.move (.tmp (pth 11))) (pth 4) ::
[])) .ret) .skip)) (.seq (.run (.go (.move (.con (.int .i64 (.ofNat 0)))) (pth 5) ::
[])) (.seq (.seq (.run (.go (.move (.con (.int .i64 (.ofNat 0)))) (pth 6) ::
[])) (.block 0 (.loop (.seq (.seq (.run (.go (.move (.tmp (pth 6))) (pth 12) ::
.go (.bin .leq 3 (.tmp (pth 12)) (.con (.int .i64 (.ofNat 140)))) (pth 13) ::
[])) (.cond (.tmp (pth 13)) .skip (.exit 0))) (.seq (.block 1 (.seq (.seq (.run (.go (.fieldAddr 2 (.tmp (pth 2))) (pth 18) ::
.go (.load1 (.tmp (pth 18))) (pth 19) ::
.go (.bin .eql 3 (.tmp (pth 19)) (.con (.int .i64 (.ofNat 0)))) (pth 20) ::
.go (.move (.tmp (pth 20))) (pth 21) ::
.gd (pth 21) true (.move (.tmp (pth 6))) (pth 22) ::
.gd (pth 21) true (.move (.tmp (pth 1))) (pth 23) ::
.gd (pth 21) true (.bin .leq 3 (.tmp (pth 22)) (.tmp (pth 23))) (pth 24) ::
.go (.pick (.tmp (pth 21)) (.tmp (pth 24)) (.con (.bool false))) (pth 25) ::
[])) (.cond (.tmp (pth 25)) (.run (.go (.move (.tmp (pth 6))) (pth 26) ::
.go (.move (.tmp (pth 26))) (pth 5) ::
[])) .skip)) (.seq (.run (.go (.fieldAddr 2 (.tmp (pth 2))) (pth 27) ::
.go (.load1 (.tmp (pth 27))) (pth 28) ::
.go (.bin .eql 3 (.tmp (pth 28)) (.con (.int .i64 (.ofNat 1)))) (pth 29) ::
.go (.move (.tmp (pth 29))) (pth 30) ::
.gd (pth 30) true (.move (.tmp (pth 6))) (pth 31) ::
.gd (pth 30) true (.move (.tmp (pth 1))) (pth 32) ::
.gd (pth 30) true (.call (.con (.func (.func 70) ⟨[]⟩ ⟨[]⟩)) [(.tmp (pth 31)),(.tmp (pth 32))]) (pth 33) ::
.gd (pth 30) true (.move (.tmp (pth 5))) (pth 34) ::
.gd (pth 30) true (.move (.tmp (pth 1))) (pth 35) ::
.gd (pth 30) true (.call (.con (.func (.func 70) ⟨[]⟩ ⟨[]⟩)) [(.tmp (pth 34)),(.tmp (pth 35))]) (pth 36) ::
.gd (pth 30) true (.bin .leq 3 (.tmp (pth 33)) (.tmp (pth 36))) (pth 37) ::
.go (.pick (.tmp (pth 30)) (.tmp (pth 37)) (.con (.bool false))) (pth 38) ::
[])) (.cond (.tmp (pth 38)) (.run (.go (.move (.tmp (pth 6))) (pth 39) ::
.go (.move (.tmp (pth 39))) (pth 5) ::
[])) .skip)))) (.run (.go (.move (.tmp (pth 6))) (pth 14) ::
.go (.fieldAddr 1 (.tmp (pth 2))) (pth 15) ::
.go (.load1 (.tmp (pth 15))) (pth 16) ::
.go (.bin .add 3 (.tmp (pth 14)) (.tmp (pth 16))) (pth 17) ::
.go (.move (.tmp (pth 17))) (pth 6) ::
[]))))))) (.seq (.run (.go (.move (.tmp (pth 5))) (pth 40) ::
.go (.move (.tmp (pth 40))) (pth 4) ::
[])) .ret)))))
theorem de28 : @compF Try.prog (Gl.none Try.prog) Try.f28 2 = .mk d28 (mkTT 41) [(pth 0),(pth 1)] [.tmp (pth 4)] := by kernel_rfl
theorem dg28 : Try.prog.funcs[28]? = some Try.f28 := Try.func28
theorem do28 : okF Try.prog Try.f28 = true := by kernel_rfl
theorem mult_eq {b y z : Int} (_hb : 0 < b) (hz : 0 ≤ z) (hd : b ∣ y) (h1 : y ≤ z) (h2 : z < y + b) : z - z.tmod b = y := by
  obtain ⟨q, rfl⟩ := hd
  rw [Int.tmod_eq_emod_of_nonneg hz]
  have : z % b = z - b * q := by
    have e : z = (z - b * q) + b * q := by omega
    rw [e, Int.add_mul_emod_self_left, Int.emod_eq_of_lt (by omega) (by omega)]
    omega
  omega
/-- What is known of a multiple x of the base, and of the best one y below it, where no more than z is looked for. -/
def fd (b z x y : Int) : Prop := 0 ≤ x ∧ x ≤ 152 ∧ b ∣ x ∧ b ∣ y ∧ 0 ≤ y ∧ y ≤ z ∧ ((x = 0 ∧ y = 0) ∨ y + b = x ∨ (z < y + b ∧ y + b ≤ x))
theorem fd.take {b z x y : Int} (h : fd b z x y) (hb : 1 ≤ b ∧ b ≤ 12) (hx : x ≤ 140) (hz : x ≤ z) : fd b z (x + b) x := by
  obtain ⟨h1, h2, h3, h4, h5, h6, h7⟩ := h
  exact ⟨by omega, by omega, Int.dvd_add h3 (Int.dvd_refl b), h3, h1, hz, by omega⟩
theorem fd.keep {b z x y : Int} (h : fd b z x y) (hb : 1 ≤ b ∧ b ≤ 12) (hx : x ≤ 140) (h0 : 0 ≤ z) (hz : ¬ x ≤ z) : fd b z (x + b) y := by
  obtain ⟨h1, h2, h3, h4, h5, h6, h7⟩ := h
  exact ⟨by omega, by omega, Int.dvd_add h3 (Int.dvd_refl b), h4, h5, h6, by omega⟩
theorem fd.last {b z x y : Int} (h : fd b z x y) (hb : 1 ≤ b ∧ b ≤ 12) (h0 : 0 ≤ z ∧ z ≤ 131) (hx : ¬ x ≤ 140) : z - z.tmod b = y := by
  obtain ⟨h1, h2, h3, h4, h5, h6, h7⟩ := h
  exact mult_eq (by omega) h0.1 h4 h6 (by omega)
theorem fd.near {b n x y : Int} (h : fd b (n + b / 2) x y) (hb : 1 ≤ b ∧ b ≤ 12) (h0 : 0 ≤ n) : max (x - n) (n - x) ≤ max (y - n) (n - y) ↔ x ≤ n + b / 2 := by
  obtain ⟨h1, h2, h3, h4, h5, h6, h7⟩ := h
  omega
theorem f28_ok (a b c d n : Int) (hb : 1 ≤ b ∧ b ≤ 12) (hc : c = 0 ∨ c = 1) (hn : 0 ≤ n ∧ n ≤ 125) (H : Heap) : Gives Try.prog 28 [.agg ⟨R4 a b c d⟩, I n] H (I (wr a b c n)) := by
  refine F.entryL rfl dg28 do28 de28 rfl (by kernel_rfl) ?_
  simp only [sets]
  refine V.re [(0, .agg ⟨R4 a b c d⟩), (1, I n)] (N := 41) (by intro i; simp only [full_st, Full.mk]) (by simp only [Kn, gt_st, full_st, Full.mk, reduceIte, Nat.reduceEqDiff, Nat.reduceLT, decide_true, and_self]) ?_
  intro t hF hA
  simp only [Kn, and_true] at hA
  (repeat first | refine V.seq ?_ | refine V.block ?_ | refine V.scope ?_ | refine V.skip ?_ | refine V.close ?_)
  refine V.line' (by simp (maxSteps := 1000000) (disch := (first | omega | (simp only [Heap.next_alloc, Heap.next_set]; omega))) only [D2, mm_max, mm_min, cells_alloc_at, cells_alloc_ne, cells_set_at, cells_set_ne, dop, dA, sets, yfield1, yfieldN, yfieldAddr, Int.reduceNegSucc, Int.reduceEq, Nat.reduceLeDiff, Nat.reduceSub, Nat.reduceAdd, gt_st, full_st, hF, hA, reduceIte, Nat.reduceEqDiff, Nat.reduceLT, decide_true, decide_false, Bool.false_eq_true]; with_reducible rfl) ?_
  (repeat first | refine V.seq ?_ | refine V.block ?_ | refine V.scope ?_ | refine V.skip ?_ | refine V.close ?_)
  refine V.line' (by simp (maxSteps := 1000000) (disch := (first | omega | (simp only [Heap.next_alloc, Heap.next_set]; omega))) only [D2, mm_max, mm_min, cells_alloc_at, cells_alloc_ne, cells_set_at, cells_set_ne, dop, dA, sets, yfield1, yfieldN, yfieldAddr, Int.reduceNegSucc, Int.reduceEq, Nat.reduceLeDiff, Nat.reduceSub, Nat.reduceAdd, gt_st, full_st, hF, hA, reduceIte, Nat.reduceEqDiff, Nat.reduceLT, decide_true, decide_false, Bool.false_eq_true]; with_reducible rfl) ?_
  (repeat first | refine V.seq ?_ | refine V.block ?_ | refine V.scope ?_ | refine V.skip ?_ | refine V.close ?_)
  refine V.condP (by simp only [dA, gt_st, full_st, hF, hA, reduceIte, Nat.reduceEqDiff, Nat.reduceLT, decide_true, decide_false, Bool.false_eq_true]; rfl) (fun h1 => ?_) (fun h1 => ?_)
  · (repeat first | refine V.seq ?_ | refine V.block ?_ | refine V.scope ?_ | refine V.skip ?_ | refine V.close ?_)
    refine V.line' (by simp (maxSteps := 1000000) (disch := (first | omega | (simp only [Heap.next_alloc, Heap.next_set]; omega))) only [D2, mm_max, mm_min, cells_alloc_at, cells_alloc_ne, cells_set_at, cells_set_ne, dop, dA, sets, yfield1, yfieldN, yfieldAddr, Int.reduceNegSucc, Int.reduceEq, Nat.reduceLeDiff, Nat.reduceSub, Nat.reduceAdd, gt_st, full_st, hF, hA, reduceIte, Nat.reduceEqDiff, Nat.reduceLT, decide_true, decide_false, Bool.false_eq_true]; with_reducible rfl) ?_
    (repeat first | refine V.seq ?_ | refine V.block ?_ | refine V.scope ?_ | refine V.skip ?_ | refine V.close ?_)
    refine V.ret (V.rets rfl (Lv.retG (by simp (disch := (first | omega | (simp only [Heap.next_alloc, Heap.next_set]; omega))) only [D1, cells_alloc_at, cells_alloc_ne, cells_set_at, cells_set_ne, yres, yres1, yresL, Nat.reduceLeDiff, Nat.reduceSub, Nat.reduceAdd, gt_st, full_st, hF, hA, reduceIte, Nat.reduceEqDiff, Nat.reduceLT, decide_true, decide_false, Bool.false_eq_true]; rfl) ?_ ?_))
    · (repeat first | assumption | exact Grow.refl _ | refine Grow.alloc ?_ _ | refine Grow.set ?_ (by first | omega | (simp only [Heap.next_alloc, Heap.next_set]; omega)) _)
    · simp only [wr, if_pos h1]
  (repeat first | refine V.seq ?_ | refine V.block ?_ | refine V.scope ?_ | refine V.skip ?_ | refine V.close ?_)
  refine V.line' (by simp (maxSteps := 1000000) (disch := (first | omega | (simp only [Heap.next_alloc, Heap.next_set]; omega))) only [D2, mm_max, mm_min, cells_alloc_at, cells_alloc_ne, cells_set_at, cells_set_ne, dop, dA, sets, yfield1, yfieldN, yfieldAddr, Int.reduceNegSucc, Int.reduceEq, Nat.reduceLeDiff, Nat.reduceSub, Nat.reduceAdd, gt_st, full_st, hF, hA, reduceIte, Nat.reduceEqDiff, Nat.reduceLT, decide_true, decide_false, Bool.false_eq_true]; with_reducible rfl) ?_
  (repeat first | refine V.seq ?_ | refine V.block ?_ | refine V.scope ?_ | refine V.skip ?_ | refine V.close ?_)
  refine V.line' (by simp (maxSteps := 1000000) (disch := (first | omega | (simp only [Heap.next_alloc, Heap.next_set]; omega))) only [D2, mm_max, mm_min, cells_alloc_at, cells_alloc_ne, cells_set_at, cells_set_ne, dop, dA, sets, yfield1, yfieldN, yfieldAddr, Int.reduceNegSucc, Int.reduceEq, Nat.reduceLeDiff, Nat.reduceSub, Nat.reduceAdd, gt_st, full_st, hF, hA, reduceIte, Nat.reduceEqDiff, Nat.reduceLT, decide_true, decide_false, Bool.false_eq_true]; with_reducible rfl) ?_
  (repeat first | refine V.seq ?_ | refine V.block ?_ | refine V.scope ?_ | refine V.skip ?_ | refine V.close ?_)
  refine V.heap (fun H2 => Grow H H2 ∧ Bx H2 H.next (R4 a b c d) 23) ⟨?_, ?_⟩ ?_
  · (repeat first | assumption | exact Grow.refl _ | refine Grow.alloc ?_ _ | refine Grow.set ?_ (by first | omega | (simp only [Heap.next_alloc, Heap.next_set]; omega)) _)
  · (repeat first | assumption | exact Bx.new _ _ _ | exact Bx.newAt (by first | omega | (simp only [Heap.next_alloc, Heap.next_set]; omega)) | refine Bx.put (by first | omega | (simp only [Heap.next_alloc, Heap.next_set]; omega)) _ _ | refine Bx.alloc ?_ _ | refine Bx.set ?_ (by first | omega | (simp only [Heap.next_alloc, Heap.next_set]; omega)) _)
  rintro H1 ⟨g1, b1⟩
  rcases hc with rfl | rfl
  · refine V.loop (fun n' t m H' => ∃ (x y : Int), fd b n x y ∧ n' = (153 - x).toNat ∧ m = [] ∧ Grow H H' ∧ Bx H' H.next (R4 a b 0 d) 23 ∧ Full 41 t ∧ Kn [(1, I n), (2, .pointer (some ⟨H.next, 0, none⟩)), (5, I y), (6, I x)] t) 153 ?_ ?_
    · exact ⟨0, 0, ⟨by omega, by omega, Int.dvd_zero b, Int.dvd_zero b, by omega, by omega, by omega⟩, by omega, rfl, g1, b1, (by intro i; simp only [full_st, hF]), (by simp only [Kn, gt_st, full_st, hF, hA, reduceIte, Nat.reduceEqDiff, Nat.reduceLT, decide_true, decide_false, Bool.false_eq_true, and_self, and_true, true_and]; try (repeat' constructor))⟩
    clear hF hA
    rintro n' t m H' ⟨x, y, hfd, rfl, rfl, hg, hb', hF, hA⟩
    simp only [Kn, and_true] at hA
    have hx0 := hfd.1
    have hx1 := hfd.2.1
    (repeat first | refine V.seq ?_ | refine V.block ?_ | refine V.scope ?_ | refine V.skip ?_ | refine V.close ?_)
    refine V.line' (by simp (maxSteps := 1000000) (disch := (first | omega | (simp only [Heap.next_alloc, Heap.next_set]; omega))) only [D2, mm_max, mm_min, cells_alloc_at, cells_alloc_ne, cells_set_at, cells_set_ne, dop, dA, sets, yfield1, yfieldN, yfieldAddr, Int.reduceNegSucc, Int.reduceEq, Nat.reduceLeDiff, Nat.reduceSub, Nat.reduceAdd, gt_st, full_st, hF, hA, reduceIte, Nat.reduceEqDiff, Nat.reduceLT, decide_true, decide_false, Bool.false_eq_true]; with_reducible rfl) ?_
    (repeat first | refine V.seq ?_ | refine V.block ?_ | refine V.scope ?_ | refine V.skip ?_ | refine V.close ?_)
    refine V.condP (by simp only [dA, gt_st, full_st, hF, hA, reduceIte, Nat.reduceEqDiff, Nat.reduceLT, decide_true, decide_false, Bool.false_eq_true]; rfl) (fun h2 => ?_) (fun h2 => ?_)
    · (repeat first | refine V.seq ?_ | refine V.block ?_ | refine V.scope ?_ | refine V.skip ?_ | refine V.close ?_)
      refine V.line' (by simp (maxSteps := 1000000) (disch := (first | omega | (simp only [Heap.next_alloc, Heap.next_set]; omega))) only [D2, mm_max, mm_min, cells_alloc_at, cells_alloc_ne, cells_set_at, cells_set_ne, dop, dA, sets, yfield1, yfieldN, yfieldAddr, Int.reduceNegSucc, Int.reduceEq, Nat.reduceLeDiff, Nat.reduceSub, Nat.reduceAdd, gt_st, full_st, hF, hA, reduceIte, Nat.reduceEqDiff, Nat.reduceLT, decide_true, decide_false, Bool.false_eq_true, hb'.2]; with_reducible rfl) ?_
      (repeat first | refine V.seq ?_ | refine V.block ?_ | refine V.scope ?_ | refine V.skip ?_ | refine V.close ?_)
      refine V.cut (fun e t m H'' => e = .normal ∧ m = [] ∧ H'' = H' ∧ ∃ y', fd b n (x + b) y' ∧ Full 41 t ∧ Kn [(1, I n), (2, .pointer (some ⟨H.next, 0, none⟩)), (5, I y'), (6, I x)] t) ?_ ?_
      · refine V.condP (by simp only [dA, gt_st, full_st, hF, hA, reduceIte, Nat.reduceEqDiff, Nat.reduceLT, decide_true, decide_false, Bool.false_eq_true]; rfl) (fun h3 => ?_) (fun h3 => ?_)
        · (repeat first | refine V.seq ?_ | refine V.block ?_ | refine V.scope ?_ | refine V.skip ?_ | refine V.close ?_)
          refine V.line' (by simp (maxSteps := 1000000) (disch := (first | omega | (simp only [Heap.next_alloc, Heap.next_set]; omega))) only [D2, mm_max, mm_min, cells_alloc_at, cells_alloc_ne, cells_set_at, cells_set_ne, dop, dA, sets, yfield1, yfieldN, yfieldAddr, Int.reduceNegSucc, Int.reduceEq, Nat.reduceLeDiff, Nat.reduceSub, Nat.reduceAdd, gt_st, full_st, hF, hA, reduceIte, Nat.reduceEqDiff, Nat.reduceLT, decide_true, decide_false, Bool.false_eq_true]; with_reducible rfl) ?_
          exact ⟨rfl, rfl, rfl, x, hfd.take hb h2 h3, (by intro i; simp only [full_st, hF]), (by simp only [Kn, gt_st, full_st, hF, hA, reduceIte, Nat.reduceEqDiff, Nat.reduceLT, decide_true, decide_false, Bool.false_eq_true, and_self, and_true, true_and]; try (repeat' constructor))⟩
        · (repeat first | refine V.seq ?_ | refine V.block ?_ | refine V.scope ?_ | refine V.skip ?_ | refine V.close ?_)
          exact ⟨rfl, rfl, rfl, y, hfd.keep hb h2 hn.1 h3, (by intro i; simp only [full_st, hF]), (by simp only [Kn, gt_st, full_st, hF, hA, reduceIte, Nat.reduceEqDiff, Nat.reduceLT, decide_true, decide_false, Bool.false_eq_true, and_self, and_true, true_and]; try (repeat' constructor))⟩
      rintro e t m H'' ⟨rfl, rfl, rfl, y', hfd', hF, hA⟩
      simp only [Kn, and_true] at hA
      (repeat first | refine V.seq ?_ | refine V.block ?_ | refine V.scope ?_ | refine V.skip ?_ | refine V.close ?_)
      refine V.line' (by simp (maxSteps := 1000000) (disch := (first | omega | (simp only [Heap.next_alloc, Heap.next_set]; omega))) only [D2, mm_max, mm_min, cells_alloc_at, cells_alloc_ne, cells_set_at, cells_set_ne, dop, dA, sets, yfield1, yfieldN, yfieldAddr, Int.reduceNegSucc, Int.reduceEq, Nat.reduceLeDiff, Nat.reduceSub, Nat.reduceAdd, gt_st, full_st, hF, hA, reduceIte, Nat.reduceEqDiff, Nat.reduceLT, decide_true, decide_false, Bool.false_eq_true, hb'.2]; with_reducible rfl) ?_
      (repeat first | refine V.seq ?_ | refine V.block ?_ | refine V.scope ?_ | refine V.skip ?_ | refine V.close ?_)
      refine V.condF (by simp only [dA, gt_st, full_st, hF, hA, reduceIte, Nat.reduceEqDiff, Nat.reduceLT, decide_true, decide_false, Bool.false_eq_true]) ?_
      (repeat first | refine V.seq ?_ | refine V.block ?_ | refine V.scope ?_ | refine V.skip ?_ | refine V.close ?_)
      refine V.line' (by simp (maxSteps := 1000000) (disch := (first | omega | (simp only [Heap.next_alloc, Heap.next_set]; omega))) only [D2, mm_max, mm_min, cells_alloc_at, cells_alloc_ne, cells_set_at, cells_set_ne, dop, dA, sets, yfield1, yfieldN, yfieldAddr, Int.reduceNegSucc, Int.reduceEq, Nat.reduceLeDiff, Nat.reduceSub, Nat.reduceAdd, gt_st, full_st, hF, hA, reduceIte, Nat.reduceEqDiff, Nat.reduceLT, decide_true, decide_false, Bool.false_eq_true, hb'.2]; with_reducible rfl) ?_
      (repeat first | refine V.seq ?_ | refine V.block ?_ | refine V.scope ?_ | refine V.skip ?_ | refine V.close ?_)
      refine V.nil (Or.inl ⟨rfl, (153 - (x + b)).toNat, by omega, ?_⟩)
      exact ⟨x + b, y', hfd', rfl, rfl, hg, hb', (by intro i; simp only [full_st, hF]), (by simp only [Kn, gt_st, full_st, hF, hA, reduceIte, Nat.reduceEqDiff, Nat.reduceLT, decide_true, decide_false, Bool.false_eq_true, and_self, and_true, true_and]; try (repeat' constructor))⟩
    · have he := hfd.last hb (by omega) h2
      refine V.exit ?_
      (repeat first | refine V.pass ?_ | refine V.here ?_ | refine V.out (by decide) ?_)
      refine V.nil (Or.inr ⟨by simp, ?_⟩)
      (repeat first | refine V.pass ?_ | refine V.here ?_ | refine V.out (by decide) ?_)
      (repeat first | refine V.seq ?_ | refine V.block ?_ | refine V.scope ?_ | refine V.skip ?_ | refine V.close ?_)
      refine V.line' (by simp (maxSteps := 1000000) (disch := (first | omega | (simp only [Heap.next_alloc, Heap.next_set]; omega))) only [D2, mm_max, mm_min, cells_alloc_at, cells_alloc_ne, cells_set_at, cells_set_ne, dop, dA, sets, yfield1, yfieldN, yfieldAddr, Int.reduceNegSucc, Int.reduceEq, Nat.reduceLeDiff, Nat.reduceSub, Nat.reduceAdd, gt_st, full_st, hF, hA, reduceIte, Nat.reduceEqDiff, Nat.reduceLT, decide_true, decide_false, Bool.false_eq_true]; with_reducible rfl) ?_
      (repeat first | refine V.seq ?_ | refine V.block ?_ | refine V.scope ?_ | refine V.skip ?_ | refine V.close ?_)
      refine V.ret (V.rets rfl (Lv.retG (by simp (disch := (first | omega | (simp only [Heap.next_alloc, Heap.next_set]; omega))) only [D1, cells_alloc_at, cells_alloc_ne, cells_set_at, cells_set_ne, yres, yres1, yresL, Nat.reduceLeDiff, Nat.reduceSub, Nat.reduceAdd, gt_st, full_st, hF, hA, reduceIte, Nat.reduceEqDiff, Nat.reduceLT, decide_true, decide_false, Bool.false_eq_true]; rfl) ?_ ?_))
      · exact hg
      · simp only [wr, if_neg h1]; rw [if_neg (by omega), he]
  · refine V.loop (fun n' t m H' => ∃ (x y : Int), fd b (n + b / 2) x y ∧ n' = (153 - x).toNat ∧ m = [] ∧ Grow H H' ∧ Bx H' H.next (R4 a b 1 d) 23 ∧ Full 41 t ∧ Kn [(1, I n), (2, .pointer (some ⟨H.next, 0, none⟩)), (5, I y), (6, I x)] t) 153 ?_ ?_
    · exact ⟨0, 0, ⟨by omega, by omega, Int.dvd_zero b, Int.dvd_zero b, by omega, by omega, by omega⟩, by omega, rfl, g1, b1, (by intro i; simp only [full_st, hF]), (by simp only [Kn, gt_st, full_st, hF, hA, reduceIte, Nat.reduceEqDiff, Nat.reduceLT, decide_true, decide_false, Bool.false_eq_true, and_self, and_true, true_and]; try (repeat' constructor))⟩
    clear hF hA
    rintro n' t m H' ⟨x, y, hfd, rfl, rfl, hg, hb', hF, hA⟩
    simp only [Kn, and_true] at hA
    have hx0 := hfd.1
    have hx1 := hfd.2.1
    have hy0 := hfd.2.2.2.2.1
    have hy1 := hfd.2.2.2.2.2.1
    have hnear := hfd.near hb hn.1
    (repeat first | refine V.seq ?_ | refine V.block ?_ | refine V.scope ?_ | refine V.skip ?_ | refine V.close ?_)
    refine V.line' (by simp (maxSteps := 1000000) (disch := (first | omega | (simp only [Heap.next_alloc, Heap.next_set]; omega))) only [D2, mm_max, mm_min, cells_alloc_at, cells_alloc_ne, cells_set_at, cells_set_ne, dop, dA, sets, yfield1, yfieldN, yfieldAddr, Int.reduceNegSucc, Int.reduceEq, Nat.reduceLeDiff, Nat.reduceSub, Nat.reduceAdd, gt_st, full_st, hF, hA, reduceIte, Nat.reduceEqDiff, Nat.reduceLT, decide_true, decide_false, Bool.false_eq_true]; with_reducible rfl) ?_
    (repeat first | refine V.seq ?_ | refine V.block ?_ | refine V.scope ?_ | refine V.skip ?_ | refine V.close ?_)
    refine V.condP (by simp only [dA, gt_st, full_st, hF, hA, reduceIte, Nat.reduceEqDiff, Nat.reduceLT, decide_true, decide_false, Bool.false_eq_true]; rfl) (fun h2 => ?_) (fun h2 => ?_)
    · (repeat first | refine V.seq ?_ | refine V.block ?_ | refine V.scope ?_ | refine V.skip ?_ | refine V.close ?_)
      refine V.line' (by simp (maxSteps := 1000000) (disch := (first | omega | (simp only [Heap.next_alloc, Heap.next_set]; omega))) only [D2, mm_max, mm_min, cells_alloc_at, cells_alloc_ne, cells_set_at, cells_set_ne, dop, dA, sets, yfield1, yfieldN, yfieldAddr, Int.reduceNegSucc, Int.reduceEq, Nat.reduceLeDiff, Nat.reduceSub, Nat.reduceAdd, gt_st, full_st, hF, hA, reduceIte, Nat.reduceEqDiff, Nat.reduceLT, decide_true, decide_false, Bool.false_eq_true, hb'.2]; with_reducible rfl) ?_
      (repeat first | refine V.seq ?_ | refine V.block ?_ | refine V.scope ?_ | refine V.skip ?_ | refine V.close ?_)
      refine V.condF (by simp only [dA, gt_st, full_st, hF, hA, reduceIte, Nat.reduceEqDiff, Nat.reduceLT, decide_true, decide_false, Bool.false_eq_true]) ?_
      (repeat first | refine V.seq ?_ | refine V.block ?_ | refine V.scope ?_ | refine V.skip ?_ | refine V.close ?_)
      refine V.run ?_
      refine VI.steps' 6 (by simp (maxSteps := 1000000) (disch := (first | omega | (simp only [Heap.next_alloc, Heap.next_set]; omega))) only [D2, mm_max, mm_min, cells_alloc_at, cells_alloc_ne, cells_set_at, cells_set_ne, dop, dA, sets, yfield1, yfieldN, yfieldAddr, Int.reduceNegSucc, Int.reduceEq, Nat.reduceLeDiff, Nat.reduceSub, Nat.reduceAdd, gt_st, full_st, hF, hA, reduceIte, Nat.reduceEqDiff, Nat.reduceLT, decide_true, decide_false, Bool.false_eq_true, hb'.2]; with_reducible rfl) ?_
      simp only [List.drop_succ_cons, List.drop_zero]
      refine VI.callAT (by simp only [gt_st, full_st, hF, hA, reduceIte, Nat.reduceEqDiff, Nat.reduceLT, decide_true, decide_false, Bool.false_eq_true]; try rfl) rfl (f70_ok x n (by omega) (by omega) H') (by simp only [List.map_cons, List.map_nil, dA, gt_st, full_st, hF, hA, reduceIte, Nat.reduceEqDiff, Nat.reduceLT, decide_true, decide_false, Bool.false_eq_true, List.nil_append, List.append_nil, List.cons_append]; try rfl) (fun H4 g4 => ?_)
      have b4 := hb'.grow g4
      refine VI.steps' 2 (by simp (maxSteps := 1000000) (disch := (first | omega | (simp only [Heap.next_alloc, Heap.next_set]; omega))) only [D2, mm_max, mm_min, cells_alloc_at, cells_alloc_ne, cells_set_at, cells_set_ne, dop, dA, sets, yfield1, yfieldN, yfieldAddr, Int.reduceNegSucc, Int.reduceEq, Nat.reduceLeDiff, Nat.reduceSub, Nat.reduceAdd, gt_st, full_st, hF, hA, reduceIte, Nat.reduceEqDiff, Nat.reduceLT, decide_true, decide_false, Bool.false_eq_true]; with_reducible rfl) ?_
      simp only [List.drop_succ_cons, List.drop_zero]
      refine VI.callAT (by simp only [gt_st, full_st, hF, hA, reduceIte, Nat.reduceEqDiff, Nat.reduceLT, decide_true, decide_false, Bool.false_eq_true]; try rfl) rfl (f70_ok y n (by omega) (by omega) H4) (by simp only [List.map_cons, List.map_nil, dA, gt_st, full_st, hF, hA, reduceIte, Nat.reduceEqDiff, Nat.reduceLT, decide_true, decide_false, Bool.false_eq_true, List.nil_append, List.append_nil, List.cons_append]; try rfl) (fun H5 g5 => ?_)
      have b5 := b4.grow g5
      have g5 := (hg.trans g4).trans g5
      refine VI.line' (by simp (maxSteps := 1000000) (disch := (first | omega | (simp only [Heap.next_alloc, Heap.next_set]; omega))) only [D2, mm_max, mm_min, cells_alloc_at, cells_alloc_ne, cells_set_at, cells_set_ne, dop, dA, sets, yfield1, yfieldN, yfieldAddr, Int.reduceNegSucc, Int.reduceEq, Nat.reduceLeDiff, Nat.reduceSub, Nat.reduceAdd, gt_st, full_st, hF, hA, reduceIte, Nat.reduceEqDiff, Nat.reduceLT, decide_true, decide_false, Bool.false_eq_true]; with_reducible rfl) ?_
      (repeat first | refine V.seq ?_ | refine V.block ?_ | refine V.scope ?_ | refine V.skip ?_ | refine V.close ?_)
      refine V.cut (fun e t m H'' => e = .normal ∧ m = [] ∧ H'' = H5 ∧ ∃ y', fd b (n + b / 2) (x + b) y' ∧ Full 41 t ∧ Kn [(1, I n), (2, .pointer (some ⟨H.next, 0, none⟩)), (5, I y'), (6, I x)] t) ?_ ?_
      · refine V.condP (by simp only [dA, gt_st, full_st, hF, hA, reduceIte, Nat.reduceEqDiff, Nat.reduceLT, decide_true, decide_false, Bool.false_eq_true]; rfl) (fun h3 => ?_) (fun h3 => ?_)
        · (repeat first | refine V.seq ?_ | refine V.block ?_ | refine V.scope ?_ | refine V.skip ?_ | refine V.close ?_)
          refine V.line' (by simp (maxSteps := 1000000) (disch := (first | omega | (simp only [Heap.next_alloc, Heap.next_set]; omega))) only [D2, mm_max, mm_min, cells_alloc_at, cells_alloc_ne, cells_set_at, cells_set_ne, dop, dA, sets, yfield1, yfieldN, yfieldAddr, Int.reduceNegSucc, Int.reduceEq, Nat.reduceLeDiff, Nat.reduceSub, Nat.reduceAdd, gt_st, full_st, hF, hA, reduceIte, Nat.reduceEqDiff, Nat.reduceLT, decide_true, decide_false, Bool.false_eq_true]; with_reducible rfl) ?_
          exact ⟨rfl, rfl, rfl, x, hfd.take hb h2 (hnear.1 h3), (by intro i; simp only [full_st, hF]), (by simp only [Kn, gt_st, full_st, hF, hA, reduceIte, Nat.reduceEqDiff, Nat.reduceLT, decide_true, decide_false, Bool.false_eq_true, and_self, and_true, true_and]; try (repeat' constructor))⟩
        · (repeat first | refine V.seq ?_ | refine V.block ?_ | refine V.scope ?_ | refine V.skip ?_ | refine V.close ?_)
          exact ⟨rfl, rfl, rfl, y, hfd.keep hb h2 (by omega) (fun h => h3 (hnear.2 h)), (by intro i; simp only [full_st, hF]), (by simp only [Kn, gt_st, full_st, hF, hA, reduceIte, Nat.reduceEqDiff, Nat.reduceLT, decide_true, decide_false, Bool.false_eq_true, and_self, and_true, true_and]; try (repeat' constructor))⟩
      rintro e t m H'' ⟨rfl, rfl, rfl, y', hfd', hF, hA⟩
      simp only [Kn, and_true] at hA
      (repeat first | refine V.seq ?_ | refine V.block ?_ | refine V.scope ?_ | refine V.skip ?_ | refine V.close ?_)
      refine V.line' (by simp (maxSteps := 1000000) (disch := (first | omega | (simp only [Heap.next_alloc, Heap.next_set]; omega))) only [D2, mm_max, mm_min, cells_alloc_at, cells_alloc_ne, cells_set_at, cells_set_ne, dop, dA, sets, yfield1, yfieldN, yfieldAddr, Int.reduceNegSucc, Int.reduceEq, Nat.reduceLeDiff, Nat.reduceSub, Nat.reduceAdd, gt_st, full_st, hF, hA, reduceIte, Nat.reduceEqDiff, Nat.reduceLT, decide_true, decide_false, Bool.false_eq_true, b5.2]; with_reducible rfl) ?_
      (repeat first | refine V.seq ?_ | refine V.block ?_ | refine V.scope ?_ | refine V.skip ?_ | refine V.close ?_)
      refine V.nil (Or.inl ⟨rfl, (153 - (x + b)).toNat, by omega, ?_⟩)
      exact ⟨x + b, y', hfd', rfl, rfl, g5, b5, (by intro i; simp only [full_st, hF]), (by simp only [Kn, gt_st, full_st, hF, hA, reduceIte, Nat.reduceEqDiff, Nat.reduceLT, decide_true, decide_false, Bool.false_eq_true, and_self, and_true, true_and]; try (repeat' constructor))⟩
    · have he := hfd.last hb (by omega) h2
      refine V.exit ?_
      (repeat first | refine V.pass ?_ | refine V.here ?_ | refine V.out (by decide) ?_)
      refine V.nil (Or.inr ⟨by simp, ?_⟩)
      (repeat first | refine V.pass ?_ | refine V.here ?_ | refine V.out (by decide) ?_)
      (repeat first | refine V.seq ?_ | refine V.block ?_ | refine V.scope ?_ | refine V.skip ?_ | refine V.close ?_)
      refine V.line' (by simp (maxSteps := 1000000) (disch := (first | omega | (simp only [Heap.next_alloc, Heap.next_set]; omega))) only [D2, mm_max, mm_min, cells_alloc_at, cells_alloc_ne, cells_set_at, cells_set_ne, dop, dA, sets, yfield1, yfieldN, yfieldAddr, Int.reduceNegSucc, Int.reduceEq, Nat.reduceLeDiff, Nat.reduceSub, Nat.reduceAdd, gt_st, full_st, hF, hA, reduceIte, Nat.reduceEqDiff, Nat.reduceLT, decide_true, decide_false, Bool.false_eq_true]; with_reducible rfl) ?_
      (repeat first | refine V.seq ?_ | refine V.block ?_ | refine V.scope ?_ | refine V.skip ?_ | refine V.close ?_)
      refine V.ret (V.rets rfl (Lv.retG (by simp (disch := (first | omega | (simp only [Heap.next_alloc, Heap.next_set]; omega))) only [D1, cells_alloc_at, cells_alloc_ne, cells_set_at, cells_set_ne, yres, yres1, yresL, Nat.reduceLeDiff, Nat.reduceSub, Nat.reduceAdd, gt_st, full_st, hF, hA, reduceIte, Nat.reduceEqDiff, Nat.reduceLT, decide_true, decide_false, Bool.false_eq_true]; rfl) ?_ ?_))
      · exact hg
      · simp only [wr, if_neg h1, if_true]; rw [he]
end Go.Xe.TAX
/- What functions of the layer age come to: the ages for which a rule can write a number. Conditions: none. -/
-- MOD TA
namespace Go.Xe.TAX
open Go Go.Xe Go.Proofs
set_option maxRecDepth 100000
set_option maxHeartbeats 1600000
set_option linter.unusedSimpArgs false
/-- Can the rule write w for somebody of t years? -/
def cn (a b c d w t : Int) : Prop := ∃ k, max 0 (t - d) ≤ k ∧ k ≤ t + d ∧ wr a b c k = w
noncomputable instance (a b c d w t : Int) : Decidable (cn a b c d w t) := Classical.propDecidable _
/-- The ages for which a rule can write w. -/
noncomputable def tr (a b c d w : Int) : List Value := An 121 fun i => .bool (decide (cn a b c d w i))
theorem z121 : ([.bool false, .bool false, .bool false, .bool false, .bool false, .bool false, .bool false, .bool false, .bool false, .bool false, .bool false, .bool false, .bool false, .bool false, .bool false, .bool false, .bool false, .bool false, .bool false, .bool false, .bool false, .bool false, .bool false, .bool false, .bool false, .bool false, .bool false, .bool false, .bool false, .bool false, .bool false, .bool false, .bool false, .bool false, .bool false, .bool false, .bool false, .bool false, .bool false, .bool false, .bool false, .bool false, .bool false, .bool false, .bool false, .bool false, .bool false, .bool false, .bool false, .bool false, .bool false, .bool false, .bool false, .bool false, .bool false, .bool false, .bool false, .bool false, .bool false, .bool false, .bool false, .bool false, .bool false, .bool false, .bool false, .bool false, .bool false, .bool false, .bool false, .bool false, .bool false, .bool false, .bool false, .bool false, .bool false, .bool false, .bool false, .bool false, .bool false, .bool false, .bool false, .bool false, .bool false, .bool false, .bool false, .bool false, .bool false, .bool false, .bool false, .bool false, .bool false, .bool false, .bool false, .bool false, .bool false, .bool false, .bool false, .bool false, .bool false, .bool false, .bool false, .bool false, .bool false, .bool false, .bool false, .bool false, .bool false, .bool false, .bool false, .bool false, .bool false, .bool false, .bool false, .bool false, .bool false, .bool false, .bool false, .bool false, .bool false, .bool false, .bool false] : List Value) = An 121 (fun _ => .bool false) := by kernel_rfl
end Go.Xe.TAX
