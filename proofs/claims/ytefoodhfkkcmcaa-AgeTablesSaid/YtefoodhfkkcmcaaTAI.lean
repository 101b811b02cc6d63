/- What functions of the layer age come to: the table of true ages, and the bounds for the numbers of persons. Conditions: none. -/
import Derived.Test.YtefoodhfkkcmcaaZr
import Derived.Test.YtefoodhfkkcmcaaTAH
-- MOD TA
namespace Go.Xe.TAX
open Go Go.Xe Go.Proofs
set_option maxRecDepth 100000
set_option maxHeartbeats 1600000
set_option linter.unusedSimpArgs false
noncomputable def d74 : FCode := (.seq (.run (.go (.box 115 (.tmp (pth 1))) (pth 3) ::
.go (.alloc 113 [(.bool false),(.bool false),(.bool false),(.bool false),(.bool false),(.bool false),(.bool false),(.bool false),(.bool false),(.bool false),(.bool false),(.bool false),(.bool false),(.bool false),(.bool false),(.bool false),(.bool false),(.bool false),(.bool false),(.bool false),(.bool false),(.bool false),(.bool false),(.bool false),(.bool false),(.bool false),(.bool false),(.bool false),(.bool false),(.bool false),(.bool false),(.bool false),(.bool false),(.bool false),(.bool false),(.bool false),(.bool false),(.bool false),(.bool false),(.bool false),(.bool false),(.bool false),(.bool false),(.bool false),(.bool false),(.bool false),(.bool false),(.bool false),(.bool false),(.bool false),(.bool false),(.bool false),(.bool false),(.bool false),(.bool false),(.bool false),(.bool false),(.bool false),(.bool false),(.bool false),(.bool false),(.bool false),(.bool false),(.bool false),(.bool false),(.bool false),(.bool false),(.bool false),(.bool false),(.bool false),(.bool false),(.bool false),(.bool false),(.bool false),(.bool false),(.bool false),(.bool false),(.bool false),(.bool false),(.bool false),(.bool false),(.bool false),(.bool false),(.bool false),(.bool false),(.bool false),(.bool false),(.bool false),(.bool false),(.bool false),(.bool false),(.bool false),(.bool false),(.bool false),(.bool false),(.bool false),(.bool false),(.bool false),(.bool false),(.bool false),(.bool false),(.bool false),(.bool false),(.bool false),(.bool false),(.bool false),(.bool false),(.bool false),(.bool false),(.bool false),(.bool false),(.bool false),(.bool false),(.bool false),(.bool false),(.bool false),(.bool false),(.bool false),(.bool false),(.bool false),(.bool false)]) (pth 4) ::
[])) (.seq (.run (.go (.move (.tmp (pth 0))) (pth 8) ::
.go (.loadN 5 (.tmp (pth 3))) (pth 9) ::
.go (.lookup 115 (.agg ⟨[(.bool false),(.bool false),(.bool false),(.bool false),(.bool false),(.bool false),(.bool false),(.bool false),(.bool false),(.bool false),(.bool false),(.bool false),(.bool false),(.bool false),(.bool false),(.bool false),(.bool false),(.bool false),(.bool false),(.bool false),(.bool false),(.bool false),(.bool false),(.bool false),(.bool false),(.bool false),(.bool false),(.bool false),(.bool false),(.bool false),(.bool false),(.bool false),(.bool false),(.bool false),(.bool false),(.bool false),(.bool false),(.bool false),(.bool false),(.bool false),(.bool false),(.bool false),(.bool false),(.bool false),(.bool false),(.bool false),(.bool false),(.bool false),(.bool false),(.bool false),(.bool false),(.bool false),(.bool false),(.bool false),(.bool false),(.bool false),(.bool false),(.bool false),(.bool false),(.bool false),(.bool false),(.bool false),(.bool false),(.bool false),(.bool false),(.bool false),(.bool false),(.bool false),(.bool false),(.bool false),(.bool false),(.bool false),(.bool false),(.bool false),(.bool false),(.bool false),(.bool false),(.bool false),(.bool false),(.bool false),(.bool false),(.bool false),(.bool false),(.bool false),(.bool false),(.bool false),(.bool false),(.bool false),(.bool false),(.bool false),(.bool false),(.bool false),(.bool false),(.bool false),(.bool false),(.bool false),(.bool false),(.bool false),(.bool false),(.bool false),(.bool false),(.bool false),(.bool false),(.bool false),(.bool false),(.bool false),(.bool false),(.bool false),(.bool false),(.bool false),(.bool false),(.bool false),(.bool false),(.bool false),(.bool false),(.bool false),(.bool false),(.bool false),(.bool false),(.bool false),(.bool false)]⟩) (.tmp (pth 8)) (.tmp (pth 9)) true) (pth 10) ::
.go (.move (.tmp (pth 10))) (pth 7) ::
.go (.extract (.tmp (pth 7)) 0) (pth 11) ::
.go (.extract (.tmp (pth 7)) 1) (pth 12) ::
.go (.alloc 113 [(.bool false),(.bool false),(.bool false),(.bool false),(.bool false),(.bool false),(.bool false),(.bool false),(.bool false),(.bool false),(.bool false),(.bool false),(.bool false),(.bool false),(.bool false),(.bool false),(.bool false),(.bool false),(.bool false),(.bool false),(.bool false),(.bool false),(.bool false),(.bool false),(.bool false),(.bool false),(.bool false),(.bool false),(.bool false),(.bool false),(.bool false),(.bool false),(.bool false),(.bool false),(.bool false),(.bool false),(.bool false),(.bool false),(.bool false),(.bool false),(.bool false),(.bool false),(.bool false),(.bool false),(.bool false),(.bool false),(.bool false),(.bool false),(.bool false),(.bool false),(.bool false),(.bool false),(.bool false),(.bool false),(.bool false),(.bool false),(.bool false),(.bool false),(.bool false),(.bool false),(.bool false),(.bool false),(.bool false),(.bool false),(.bool false),(.bool false),(.bool false),(.bool false),(.bool false),(.bool false),(.bool false),(.bool false),(.bool false),(.bool false),(.bool false),(.bool false),(.bool false),(.bool false),(.bool false),(.bool false),(.bool false),(.bool false),(.bool false),(.bool false),(.bool false),(.bool false),(.bool false),(.bool false),(.bool false),(.bool false),(.bool false),(.bool false),(.bool false),(.bool false),(.bool false),(.bool false),(.bool false),(.bool false),(.bool false),(.bool false),(.bool false),(.bool false),(.bool false),(.bool false),(.bool false),(.bool false),(.bool false),(.bool false),(.bool false),(.bool false),(.bool false),(.bool false),(.bool false),(.bool false),(.bool false),(.bool false),(.bool false),(.bool false),(.bool false),(.bool false),(.bool false)]) (pth 5) ::
.un (.store 121 (.tmp (pth 5)) (.tmp (pth 11))) ::
.go (.move (.tmp (pth 12))) (pth 6) ::
[])) (.seq (.seq (.run (.go (.move (.tmp (pth 6))) (pth 13) ::
.go (.un .not (.tmp (pth 13))) (pth 14) ::
[])) (.cond (.tmp (pth 14)) (.seq (.run (.go (.loadN 5 (.tmp (pth 3))) (pth 15) ::
.go (.call (.con (.func (.func 68) ⟨[]⟩ ⟨[]⟩)) [(.tmp (pth 15))]) (pth 16) ::
.un (.store 121 (.tmp (pth 5)) (.tmp (pth 16))) ::
[])) (.run (.go (.move (.tmp (pth 0))) (pth 17) ::
.go (.loadN 5 (.tmp (pth 3))) (pth 18) ::
.go (.loadN 121 (.tmp (pth 5))) (pth 19) ::
.un (.mapUpdate 115 (.tmp (pth 17)) (.tmp (pth 18)) (.tmp (pth 19))) ::
[]))) .skip)) (.seq (.run (.go (.loadN 121 (.tmp (pth 5))) (pth 20) ::
.un (.store 121 (.tmp (pth 4)) (.tmp (pth 20))) ::
[])) .ret))))
theorem de74 : @compF Try.prog (Gl.none Try.prog) Try.f74 2 = .mk d74 (mkTT 21) [(pth 0),(pth 1)] [.many (pth 4) 121] := by kernel_rfl
theorem dg74 : Try.prog.funcs[74]? = some Try.f74 := Try.func74
theorem do74 : okF Try.prog Try.f74 = true := by kernel_rfl
theorem kl_int {n : Int} (h : (Lit.int .i64 n).wf = true) (k : Nat) : Try.prog.keyLits (k + 1) 3 [I n] = some [.int .i64 n] := by
  unfold Program.keyLits
  simp only [Try.underlying3]
  rw [if_pos ⟨trivial, h⟩]
theorem kl_28 {a b c d : Int} (ha : (Lit.int .i64 a).wf = true) (hb : (Lit.int .i64 b).wf = true) (hc : (Lit.int .i64 c).wf = true) (hd : (Lit.int .i64 d).wf = true) (k : Nat) : Try.prog.keyLits (k + 2) 28 [I a, I b, I c, I d] = some [.int .i64 a, .int .i64 b, .int .i64 c, .int .i64 d] := by
  have c3 : Try.prog.cellsOf 3 = 1 := by kernel_rfl
  have c28 : Try.prog.cellsOf 28 = 4 := by kernel_rfl
  unfold Program.keyLits
  simp only [Try.underlying28, c28]
  rw [if_pos ⟨rfl, by simp⟩]
  simp [c3, kl_int ha, kl_int hb, kl_int hc, kl_int hd]
theorem key_ok {a b c d w : Int} (ha : (Lit.int .i64 a).wf = true) (hb : (Lit.int .i64 b).wf = true) (hc : (Lit.int .i64 c).wf = true) (hd : (Lit.int .i64 d).wf = true) (hw : (Lit.int .i64 w).wf = true) : (keyOf Try.prog 115 (.agg ⟨[I a, I b, I c, I d, I w]⟩)).isSome = true := by
  have c3 : Try.prog.cellsOf 3 = 1 := by kernel_rfl
  have c28 : Try.prog.cellsOf 28 = 4 := by kernel_rfl
  have c115 : Try.prog.cellsOf 115 = 5 := by kernel_rfl
  have h5 : (Program.keyType Try.prog 115 && (Value.agg ⟨[I a, I b, I c, I d, I w]⟩).formed Try.prog 115) = true := by kernel_rfl
  obtain ⟨n, hn⟩ : ∃ n, Try.prog.types.size + 1 = n + 3 := ⟨Try.prog.types.size - 2, by have : 2 ≤ Try.prog.types.size := Nat.le_of_ble_eq_true (by kernel_rfl); omega⟩
  unfold keyOf
  simp only [Try.underlying115]
  rw [if_pos h5, hn]
  unfold Program.keyLits
  simp only [Try.underlying115, c115]
  have e : (Value.agg ⟨[I a, I b, I c, I d, I w]⟩).cells.toList = [I a, I b, I c, I d, I w] := rfl
  rw [e, if_pos ⟨rfl, by simp⟩]
  simp [c3, c28, kl_28 ha hb hc hd, kl_int hw]
abbrev fig (a b c d w : Int) : Value := .agg ⟨[I a, I b, I c, I d, I w]⟩
/-- Each entry of the table has the true ages of its key. -/
def tab (a b c d : Int) (es : List MapEntry) : Prop := ∀ e ∈ es, ∃ w, e.key = fig a b c d w ∧ e.val = .agg ⟨tr a b c d w⟩
theorem keyed115 : keyedB Try.prog 115 = true := by kernel_rfl
theorem wf_small {n : Int} (h : 0 ≤ n ∧ n ≤ 1000) : (Lit.int .i64 n).wf = true := by
  simp only [Lit.wf, Bool.and_eq_true, decide_eq_true_eq]
  show (-9223372036854775808 : Int) ≤ n ∧ n ≤ 9223372036854775807
  omega
theorem f74_ok {a b c d w : Int} (hv : rv a b c d) (hw : 0 ≤ w ∧ w ≤ 140) {j : Nat} {H : Heap} {es : List MapEntry} (hm : Mp H j 115 es) (ht : tab a b c d es) : F Try.prog 74 ⟨[.map (some j), fig a b c d w]⟩ H (fun v H' => v = .agg ⟨tr a b c d w⟩ ∧ GrowX j H H' ∧ ∃ es', Mp H' j 115 es' ∧ tab a b c d es') := by
  obtain ⟨hv1, hv2, hv3, hv4⟩ := id hv
  have hk1 := key_ok (wf_small (n := a) (by omega)) (wf_small (n := b) (by omega)) (wf_small (n := c) (by omega)) (wf_small (n := d) (by omega)) (wf_small (n := w) (by omega))
  have hk2 : keyishV (fig a b c d w) = true := rfl
  have hj := hm.1
  refine F.entryL rfl dg74 do74 de74 rfl (by kernel_rfl) ?_
  simp only [sets]
  refine V.re [(0, .map (some j)), (1, fig a b c d w)] (N := 21) (by intro i; simp only [full_st, Full.mk]) (by simp only [Kn, gt_st, full_st, Full.mk, reduceIte, Nat.reduceEqDiff, Nat.reduceLT, decide_true, and_self]) ?_
  intro t hF hA
  simp only [Kn, and_true] at hA
  (repeat first | refine V.seq ?_ | refine V.block ?_ | refine V.scope ?_ | refine V.skip ?_ | refine V.close ?_)
  refine V.line' (by simp (maxSteps := 1000000) (disch := (first | omega | (simp only [Heap.next_alloc, Heap.next_set]; omega))) only [D2, mm_max, mm_min, cells_alloc_at, cells_alloc_ne, cells_set_at, cells_set_ne, dop, dA, sets, yfield1, yfieldN, yfieldAddr, Int.reduceNegSucc, Int.reduceEq, Nat.reduceLeDiff, Nat.reduceSub, Nat.reduceAdd, gt_st, full_st, hF, hA, reduceIte, Nat.reduceEqDiff, Nat.reduceLT, decide_true, decide_false, Bool.false_eq_true]; with_reducible rfl) ?_
  refine V.heap (fun H2 => Grow H H2 ∧ Bx H2 H.next [I a, I b, I c, I d, I w] 115 ∧ Bx H2 (H.next + 1) (An 121 fun _ => .bool false) 113) ⟨?_, ?_, ?_⟩ ?_
  · (repeat first | assumption | exact Grow.refl _ | refine Grow.alloc ?_ _ | refine Grow.set ?_ (by first | omega | (simp only [Heap.next_alloc, Heap.next_set]; omega)) _)
  · (repeat first | assumption | exact Bx.new _ _ _ | exact Bx.newAt (by first | omega | (simp only [Heap.next_alloc, Heap.next_set]; omega)) | refine Bx.put (by first | omega | (simp only [Heap.next_alloc, Heap.next_set]; omega)) _ _ | refine Bx.alloc ?_ _ | refine Bx.set ?_ (by first | omega | (simp only [Heap.next_alloc, Heap.next_set]; omega)) _)
  · rw [z121]; (repeat first | assumption | exact Bx.new _ _ _ | exact Bx.newAt (by first | omega | (simp only [Heap.next_alloc, Heap.next_set]; omega)) | refine Bx.put (by first | omega | (simp only [Heap.next_alloc, Heap.next_set]; omega)) _ _ | refine Bx.alloc ?_ _ | refine Bx.set ?_ (by first | omega | (simp only [Heap.next_alloc, Heap.next_set]; omega)) _)
  rintro H2 ⟨g2, b2, c2⟩
  obtain ⟨hm1, clk, hm2⟩ := hm.grow g2
  have hb2 := b2.1
  have hc2 := c2.1
  (repeat first | refine V.seq ?_ | refine V.block ?_ | refine V.scope ?_ | refine V.skip ?_ | refine V.close ?_)
  refine V.cut (fun e t m H' => e = .normal ∧ m = [] ∧ Grow H2 H' ∧ ∃ q : Bool, (q = false → xfind (fig a b c d w) es 0 = none) ∧ Bx H' H2.next (if q = true then tr a b c d w else An 121 fun _ => .bool false) 113 ∧ Full 21 t ∧ Kn [(0, .map (some j)), (3, .pointer (some ⟨H.next, 0, none⟩)), (4, .pointer (some ⟨H.next + 1, 0, none⟩)), (5, .pointer (some ⟨H2.next, 0, none⟩)), (6, .bool q)] t) ?_ ?_
  · cases hf : xfind (fig a b c d w) es 0 with
    | some x =>
      obtain ⟨_, e, he, hke⟩ := xfind_some hf
      rw [Nat.sub_zero] at he
      obtain ⟨w', hk', hv'⟩ := ht e (List.mem_of_getElem? he)
      have hww : w' = w := by
        rw [hk'] at hke
        simpa [fig] using hke
      subst hww
      have hl := look_hit (P := Try.prog) (z := .agg ⟨An 121 fun _ => .bool false⟩) hm2 keyed115 hk2 hk1 hf (by simpa using he)
      rw [hv'] at hl
      refine V.line' (by simp (maxSteps := 1000000) (disch := (first | omega | (simp only [Heap.next_alloc, Heap.next_set]; omega))) only [D2, mm_max, mm_min, cells_alloc_at, cells_alloc_ne, cells_set_at, cells_set_ne, dop, dA, sets, yfield1, yfieldN, yfieldAddr, Int.reduceNegSucc, Int.reduceEq, Nat.reduceLeDiff, Nat.reduceSub, Nat.reduceAdd, gt_st, full_st, hF, hA, reduceIte, Nat.reduceEqDiff, Nat.reduceLT, decide_true, decide_false, Bool.false_eq_true, b2.2, z121, hl, tr, An_len, An_ok, setC_An]; with_reducible rfl) ?_
      refine ⟨rfl, rfl, ?_, true, (fun h => by cases h), ?_, (by intro i; simp only [full_st, hF]), (by simp only [Kn, gt_st, full_st, hF, hA, reduceIte, Nat.reduceEqDiff, Nat.reduceLT, decide_true, decide_false, Bool.false_eq_true, and_self, and_true, true_and]; try (repeat' constructor))⟩
      · (repeat first | assumption | exact Grow.refl _ | refine Grow.alloc ?_ _ | refine Grow.set ?_ (by first | omega | (simp only [Heap.next_alloc, Heap.next_set]; omega)) _)
      · show Bx _ _ (An 121 fun i => .bool (decide (cn a b c d w' i))) 113
        (repeat first | assumption | exact Bx.new _ _ _ | exact Bx.newAt (by first | omega | (simp only [Heap.next_alloc, Heap.next_set]; omega)) | refine Bx.put (by first | omega | (simp only [Heap.next_alloc, Heap.next_set]; omega)) _ _ | refine Bx.alloc ?_ _ | refine Bx.set ?_ (by first | omega | (simp only [Heap.next_alloc, Heap.next_set]; omega)) _)
    | none =>
      have hl := look_miss (P := Try.prog) (z := .agg ⟨An 121 fun _ => .bool false⟩) hm2 keyed115 hk2 hk1 hf
      refine V.line' (by simp (maxSteps := 1000000) (disch := (first | omega | (simp only [Heap.next_alloc, Heap.next_set]; omega))) only [D2, mm_max, mm_min, cells_alloc_at, cells_alloc_ne, cells_set_at, cells_set_ne, dop, dA, sets, yfield1, yfieldN, yfieldAddr, Int.reduceNegSucc, Int.reduceEq, Nat.reduceLeDiff, Nat.reduceSub, Nat.reduceAdd, gt_st, full_st, hF, hA, reduceIte, Nat.reduceEqDiff, Nat.reduceLT, decide_true, decide_false, Bool.false_eq_true, b2.2, z121, hl, An_len, An_ok, setC_An]; with_reducible rfl) ?_
      refine ⟨rfl, rfl, ?_, false, (fun _ => rfl), ?_, (by intro i; simp only [full_st, hF]), (by simp only [Kn, gt_st, full_st, hF, hA, reduceIte, Nat.reduceEqDiff, Nat.reduceLT, decide_true, decide_false, Bool.false_eq_true, and_self, and_true, true_and]; try (repeat' constructor))⟩
      · (repeat first | assumption | exact Grow.refl _ | refine Grow.alloc ?_ _ | refine Grow.set ?_ (by first | omega | (simp only [Heap.next_alloc, Heap.next_set]; omega)) _)
      · show Bx _ _ (An 121 fun i => .bool false) 113
        (repeat first | assumption | exact Bx.new _ _ _ | exact Bx.newAt (by first | omega | (simp only [Heap.next_alloc, Heap.next_set]; omega)) | refine Bx.put (by first | omega | (simp only [Heap.next_alloc, Heap.next_set]; omega)) _ _ | refine Bx.alloc ?_ _ | refine Bx.set ?_ (by first | omega | (simp only [Heap.next_alloc, Heap.next_set]; omega)) _)
  rintro e t m H3 ⟨rfl, rfl, g3, q, hq, e3, hF, hA⟩
  simp only [Kn, and_true] at hA
  have b3 := b2.grow g3
  have c3 := c2.grow g3
  have m3 := (hm.grow g2).grow g3
  have g3 := g2.trans g3
  (repeat first | refine V.seq ?_ | refine V.block ?_ | refine V.scope ?_ | refine V.skip ?_ | refine V.close ?_)
  refine V.line' (by simp (maxSteps := 1000000) (disch := (first | omega | (simp only [Heap.next_alloc, Heap.next_set]; omega))) only [D2, mm_max, mm_min, cells_alloc_at, cells_alloc_ne, cells_set_at, cells_set_ne, dop, dA, sets, yfield1, yfieldN, yfieldAddr, Int.reduceNegSucc, Int.reduceEq, Nat.reduceLeDiff, Nat.reduceSub, Nat.reduceAdd, gt_st, full_st, hF, hA, reduceIte, Nat.reduceEqDiff, Nat.reduceLT, decide_true, decide_false, Bool.false_eq_true]; with_reducible rfl) ?_
  (repeat first | refine V.seq ?_ | refine V.block ?_ | refine V.scope ?_ | refine V.skip ?_ | refine V.close ?_)
  refine V.cut (fun e t m H' => e = .normal ∧ m = [] ∧ GrowX j H H' ∧ (∃ es', Mp H' j 115 es' ∧ tab a b c d es') ∧ Bx H' (H.next + 1) (An 121 fun _ => .bool false) 113 ∧ Bx H' H2.next (tr a b c d w) 113 ∧ Full 21 t ∧ Kn [(4, .pointer (some ⟨H.next + 1, 0, none⟩)), (5, .pointer (some ⟨H2.next, 0, none⟩))] t) ?_ ?_
  · refine V.condB (by simp only [dA, gt_st, full_st, hF, hA, reduceIte, Nat.reduceEqDiff, Nat.reduceLT, decide_true, decide_false, Bool.false_eq_true]; rfl) (fun h1 => ?_) (fun h1 => ?_)
    · have hq' : q = false := by simpa using h1
      subst hq'
      (repeat first | refine V.seq ?_ | refine V.block ?_ | refine V.scope ?_ | refine V.skip ?_ | refine V.close ?_)
      refine V.run ?_
      refine VI.steps' 1 (by simp (maxSteps := 1000000) (disch := (first | omega | (simp only [Heap.next_alloc, Heap.next_set]; omega))) only [D2, mm_max, mm_min, cells_alloc_at, cells_alloc_ne, cells_set_at, cells_set_ne, dop, dA, sets, yfield1, yfieldN, yfieldAddr, Int.reduceNegSucc, Int.reduceEq, Nat.reduceLeDiff, Nat.reduceSub, Nat.reduceAdd, gt_st, full_st, hF, hA, reduceIte, Nat.reduceEqDiff, Nat.reduceLT, decide_true, decide_false, Bool.false_eq_true, b3.2]; with_reducible rfl) ?_
      simp only [List.drop_succ_cons, List.drop_zero]
      refine VI.callA rfl (f68_ok a b c d w hv H3) (by simp only [List.map_cons, List.map_nil, dA, gt_st, full_st, hF, hA, reduceIte, Nat.reduceEqDiff, Nat.reduceLT, decide_true, decide_false, Bool.false_eq_true, List.nil_append, List.append_nil, List.cons_append]; try rfl) (fun H4 g4 => ?_)
      have b4 := b3.grow g4
      have c4 := c3.grow g4
      have e4 := e3.grow g4
      rw [if_neg (by decide)] at e4
      obtain ⟨hm4, clk4, hmm⟩ := m3.grow g4
      have g4 := g3.trans g4
      refine VI.line' (by simp (maxSteps := 1000000) (disch := (first | omega | (simp only [Heap.next_alloc, Heap.next_set]; omega))) only [D2, mm_max, mm_min, cells_alloc_at, cells_alloc_ne, cells_set_at, cells_set_ne, dop, dA, sets, yfield1, yfieldN, yfieldAddr, Int.reduceNegSucc, Int.reduceEq, Nat.reduceLeDiff, Nat.reduceSub, Nat.reduceAdd, gt_st, full_st, hF, hA, reduceIte, Nat.reduceEqDiff, Nat.reduceLT, decide_true, decide_false, Bool.false_eq_true, e4.2, tr, An_len, An_ok, setC_An]; with_reducible rfl) ?_
      have he4 := e4.1
      have hb4 := b4.1
      have hn4 := g4.1
      (repeat first | refine V.seq ?_ | refine V.block ?_ | refine V.scope ?_ | refine V.skip ?_ | refine V.close ?_)
      have hmm' : (Heap.set H4 H2.next (.cells ⟨An 121 fun i => .bool (decide (cn a b c d w i))⟩ 113 true)).mapAt j = some (115, ⟨es⟩, clk4) := by rw [maps_set_ne _ _ (by omega)]; exact hmm
      have hu := upd_miss (P := Try.prog) (v := .agg ⟨An 121 fun i => .bool (decide (cn a b c d w i))⟩) hmm' keyed115 hk2 hk1 (hq rfl)
      refine V.line' (by simp (maxSteps := 1000000) (disch := (first | omega | (simp only [Heap.next_alloc, Heap.next_set]; omega))) only [D2, mm_max, mm_min, cells_alloc_at, cells_alloc_ne, cells_set_at, cells_set_ne, dop, dA, sets, yfield1, yfieldN, yfieldAddr, Int.reduceNegSucc, Int.reduceEq, Nat.reduceLeDiff, Nat.reduceSub, Nat.reduceAdd, gt_st, full_st, hF, hA, reduceIte, Nat.reduceEqDiff, Nat.reduceLT, decide_true, decide_false, Bool.false_eq_true, b4.2, hu, An_len, An_take]; with_reducible rfl) ?_
      refine ⟨rfl, rfl, ?_, ⟨es ++ [{ key := fig a b c d w, val := .agg ⟨tr a b c d w⟩, born := clk4 }], ⟨?_, clk4 + 1, ?_⟩, ?_⟩, ?_, ?_, (by intro i; simp only [full_st, hF]), (by simp only [Kn, gt_st, full_st, hF, hA, reduceIte, Nat.reduceEqDiff, Nat.reduceLT, decide_true, decide_false, Bool.false_eq_true, and_self, and_true, true_and]; try (repeat' constructor))⟩
      · exact ((g4.x j).set' (by omega) _).set _
      · exact hm4
      · rw [maps_set]; simp [tr]
      · intro e' he'
        rcases List.mem_append.1 he' with he' | he'
        · exact ht e' he'
        · rw [List.mem_singleton.1 he']; exact ⟨w, rfl, rfl⟩
      · (repeat first | assumption | exact Bx.new _ _ _ | exact Bx.newAt (by first | omega | (simp only [Heap.next_alloc, Heap.next_set]; omega)) | refine Bx.put (by first | omega | (simp only [Heap.next_alloc, Heap.next_set]; omega)) _ _ | refine Bx.alloc ?_ _ | refine Bx.set ?_ (by first | omega | (simp only [Heap.next_alloc, Heap.next_set]; omega)) _)
      · show Bx _ _ (An 121 fun i => .bool (decide (cn a b c d w i))) 113
        (repeat first | assumption | exact Bx.new _ _ _ | exact Bx.newAt (by first | omega | (simp only [Heap.next_alloc, Heap.next_set]; omega)) | refine Bx.put (by first | omega | (simp only [Heap.next_alloc, Heap.next_set]; omega)) _ _ | refine Bx.alloc ?_ _ | refine Bx.set ?_ (by first | omega | (simp only [Heap.next_alloc, Heap.next_set]; omega)) _)
    · have hq' : q = true := by simpa using h1
      subst hq'
      (repeat first | refine V.seq ?_ | refine V.block ?_ | refine V.scope ?_ | refine V.skip ?_ | refine V.close ?_)
      rw [if_pos rfl] at e3
      exact ⟨rfl, rfl, g3.x j, ⟨es, m3, ht⟩, c3, e3, (by intro i; simp only [full_st, hF]), (by simp only [Kn, gt_st, full_st, hF, hA, reduceIte, Nat.reduceEqDiff, Nat.reduceLT, decide_true, decide_false, Bool.false_eq_true, and_self, and_true, true_and]; try (repeat' constructor))⟩
  rintro e t m H' ⟨rfl, rfl, g3, ⟨es', m3, t3⟩, c3, e3, hF, hA⟩
  simp only [Kn, and_true] at hA
  have hc3 := c3.1
  (repeat first | refine V.seq ?_ | refine V.block ?_ | refine V.scope ?_ | refine V.skip ?_ | refine V.close ?_)
  refine V.line' (by simp (maxSteps := 1000000) (disch := (first | omega | (simp only [Heap.next_alloc, Heap.next_set]; omega))) only [D2, mm_max, mm_min, cells_alloc_at, cells_alloc_ne, cells_set_at, cells_set_ne, dop, dA, sets, yfield1, yfieldN, yfieldAddr, Int.reduceNegSucc, Int.reduceEq, Nat.reduceLeDiff, Nat.reduceSub, Nat.reduceAdd, gt_st, full_st, hF, hA, reduceIte, Nat.reduceEqDiff, Nat.reduceLT, decide_true, decide_false, Bool.false_eq_true, e3.2, c3.2, tr, An_len, An_take, An_ok, setC_An]; with_reducible rfl) ?_
  (repeat first | refine V.seq ?_ | refine V.block ?_ | refine V.scope ?_ | refine V.skip ?_ | refine V.close ?_)
  refine V.ret (V.rets rfl (Lv.retF (by simp (disch := (first | omega | (simp only [Heap.next_alloc, Heap.next_set]; omega))) only [D1, cells_alloc_at, cells_alloc_ne, cells_set_at, cells_set_ne, yres, yres1, yresL, Nat.reduceLeDiff, Nat.reduceSub, Nat.reduceAdd, gt_st, full_st, hF, hA, reduceIte, Nat.reduceEqDiff, Nat.reduceLT, decide_true, decide_false, Bool.false_eq_true, An_len, An_take]; rfl) ?_))
  refine ⟨rfl, ?_, es', ?_, t3⟩
  · exact g3.set' (by omega) _
  · exact m3.set (by omega) _
end Go.Xe.TAX
