/- What functions of the layer age come to: the bounds for the numbers of persons. Conditions: none. -/
import Derived.Test.YtefoodhfkkcmcaaZr
import Derived.Test.YtefoodhfkkcmcaaTAI
-- MOD TA
namespace Go.Xe.TAX
open Go Go.Xe Go.Proofs
set_option maxRecDepth 100000
set_option maxHeartbeats 1600000
set_option linter.unusedSimpArgs false
noncomputable def d32 : FCode := (.seq (.run (.go (.box 28 (.tmp (pth 0))) (pth 3) ::
.go (.box 48 (.tmp (pth 2))) (pth 5) ::
.go (.alloc 48 [(.int .i64 (.ofNat 0)),(.int .i64 (.ofNat 0))]) (pth 6) ::
.go (.move (.con (.int .i64 (.ofNat 0)))) (pth 7) ::
[])) (.seq (.seq (.run (.go (.loadN 4 (.tmp (pth 3))) (pth 15) ::
.go (.call (.con (.func (.func 64) ⟨[]⟩ ⟨[]⟩)) [(.tmp (pth 15))]) (pth 16) ::
.go (.un .not (.tmp (pth 16))) (pth 17) ::
[])) (.cond (.tmp (pth 17)) (.seq (.run (.go (.build [(.int .i64 (.ofNat 0)),(.int .i64 (.ofNat 0))] []) (pth 18) ::
.un (.store 2 (.tmp (pth 6)) (.tmp (pth 18))) ::
.go (.move (.con (.int .i64 (.ofNat 1)))) (pth 7) ::
[])) .ret) .skip)) (.seq (.seq (.run (.go (.move (.tmp (pth 1))) (pth 19) ::
.go (.len 0 (.tmp (pth 19))) (pth 20) ::
.go (.bin .gtr 3 (.tmp (pth 20)) (.con (.int .i64 (.ofNat 200)))) (pth 21) ::
[])) (.cond (.tmp (pth 21)) (.seq (.run (.go (.build [(.int .i64 (.ofNat 0)),(.int .i64 (.ofNat 0))] []) (pth 22) ::
.un (.store 2 (.tmp (pth 6)) (.tmp (pth 22))) ::
.go (.move (.con (.int .i64 (.ofNat 3)))) (pth 7) ::
[])) .ret) .skip)) (.seq (.seq (.draw 9 (.go (.move (.tmp (pth 1))) (pth 23) ::
.go (.call (.con (.func (.func 67) ⟨[]⟩ ⟨[]⟩)) [(.tmp (pth 23))]) (pth 24) ::
.go (.un .not (.tmp (pth 24))) (pth 25) ::
.go (.move (.tmp (pth 25))) (pth 26) ::
.gd (pth 26) false (.loadN 2 (.tmp (pth 5))) (pth 27) ::
.gd (pth 26) false (.call (.con (.func (.func 73) ⟨[]⟩ ⟨[]⟩)) []) (pth 28) ::
.gd (pth 26) false (.call (.con (.func (.func 72) ⟨[]⟩ ⟨[]⟩)) [(.tmp (pth 27)),(.tmp (pth 28))]) (pth 29) ::
.gd (pth 26) false (.un .not (.tmp (pth 29))) (pth 30) ::
.go (.pick (.tmp (pth 26)) (.con (.bool true)) (.tmp (pth 30))) (pth 31) ::
[]) [.ok,.ok,.ok,.ok,.rd (some ((pth 26),false)) (.loadN 2 (.tmp (pth 5))) (some (pth 27)) [6],.ok,.ok,.ok,.ok]) (.cond (.tmp (pth 31)) (.seq (.run (.go (.build [(.int .i64 (.ofNat 0)),(.int .i64 (.ofNat 0))] []) (pth 32) ::
.un (.store 2 (.tmp (pth 6)) (.tmp (pth 32))) ::
.go (.move (.con (.int .i64 (.ofNat 2)))) (pth 7) ::
[])) .ret) .skip)) (.seq (.run (.go (.makeMap 115) (pth 33) ::
.go (.move (.tmp (pth 33))) (pth 8) ::
[])) (.seq (.run (.go (.alloc 48 [(.int .i64 (.ofNat 0)),(.int .i64 (.ofNat 0))]) (pth 9) ::
[])) (.seq (.seq (.run (.go (.move (.tmp (pth 1))) (pth 34) ::
.go (.len 0 (.tmp (pth 34))) (pth 35) ::
.go (.move (.con (.int .i64 (.ofNat 0)))) (pth 36) ::
[])) (.block 0 (.loop (.seq (.run (.go (.bin .lss 3 (.tmp (pth 36)) (.tmp (pth 35))) (pth 37) ::
[])) (.seq (.cond (.tmp (pth 37)) .skip (.exit 0)) (.seq (.block 1 (.seq (.run (.go (.indexAddr none 1 (.tmp (pth 34)) (.tmp (pth 36))) (pth 38) ::
.go (.load1 (.tmp (pth 38))) (pth 39) ::
.go (.move (.tmp (pth 39))) (pth 11) ::
[])) (.seq (.run (.go (.move (.tmp (pth 8))) (pth 40) ::
.go (.loadN 4 (.tmp (pth 3))) (pth 41) ::
.go (.move (.tmp (pth 11))) (pth 42) ::
.go (.build [(.int .i64 (.ofNat 0)),(.int .i64 (.ofNat 0)),(.int .i64 (.ofNat 0)),(.int .i64 (.ofNat 0)),(.int .i64 (.ofNat 0))] [(0,4,(.tmp (pth 41))),(4,1,(.tmp (pth 42)))]) (pth 43) ::
.go (.call (.con (.func (.func 74) ⟨[]⟩ ⟨[]⟩)) [(.tmp (pth 40)),(.tmp (pth 43))]) (pth 44) ::
.go (.alloc 113 [(.bool false),(.bool false),(.bool false),(.bool false),(.bool false),(.bool false),(.bool false),(.bool false),(.bool false),(.bool false),(.bool false),(.bool false),(.bool false),(.bool false),(.bool false),(.bool false),(.bool false),(.bool false),(.bool false),(.bool false),(.bool false),(.bool false),(.bool false),(.bool false),(.bool false),(.bool false),(.bool false),(.bool false),(.bool false),(.bool false),(.bool false),(.bool false),(.bool false),(.bool false),(.bool false),(.bool false),(.bool false),(.bool false),(.bool false),(.bool false),(.bool false),(.bool false),(.bool false),(.bool false),(.bool false),(.bool false),(.bool false),(.bool false),(.bool false),(.bool false),(.bool false),(.bool false),(.bool false),(.bool false),(.bool false),(.bool false),(.bool false),(.bool false),(.bool false),(.bool false),(.bool false),(.bool false),(.bool false),(.bool false),(.bool false),(.bool false),(.bool false),(.bool false),(.bool false),(.bool false),(.bool false),(.bool false),(.bool false),(.bool false),(.bool false),(.bool false),(.bool false),(.bool false),(.bool false),(.bool false),(.bool false),(.bool false),(.bool false),(.bool false),(.bool false),(.bool false),(.bool false),(.bool false),(.bool false),(.bool false),(.bool false),(.bool false),(.bool false),(.bool false),(.bool false),(.bool false),(.bool false),(.bool false),(.bool false),(.bool false),(.bool false),(.bool false),(.bool false),(.bool false),(.bool false),(.bool false),(.bool false),(.bool false),(.bool false),(.bool false),(.bool false),(.bool false),(.bool false),(.bool false),(.bool false),(.bool false),(.bool false),(.bool false),(.bool false),(.bool false),(.bool false)]) (pth 12) ::
.un (.store 121 (.tmp (pth 12)) (.tmp (pth 44))) ::
[])) (.seq (.draw 8 (.go (.loadN 121 (.tmp (pth 12))) (pth 45) ::
.go (.call (.con (.func (.func 73) ⟨[]⟩ ⟨[]⟩)) []) (pth 46) ::
.go (.call (.con (.func (.func 75) ⟨[]⟩ ⟨[]⟩)) [(.tmp (pth 45)),(.tmp (pth 46))]) (pth 47) ::
.go (.loadN 121 (.tmp (pth 12))) (pth 48) ::
.go (.loadN 2 (.tmp (pth 5))) (pth 49) ::
.go (.call (.con (.func (.func 75) ⟨[]⟩ ⟨[]⟩)) [(.tmp (pth 48)),(.tmp (pth 49))]) (pth 50) ::
.go (.move (.tmp (pth 47))) (pth 13) ::
.go (.move (.tmp (pth 50))) (pth 14) ::
[]) [.rd none (.loadN 121 (.tmp (pth 12))) (some (pth 45)) [2],.ok,.ok,.rd none (.loadN 121 (.tmp (pth 12))) (some (pth 48)) [0,2],.rd none (.loadN 2 (.tmp (pth 5))) (some (pth 49)) [0,2],.ok,.ok,.ok]) (.seq (.seq (.run (.go (.move (.tmp (pth 13))) (pth 51) ::
.go (.bin .eql 3 (.tmp (pth 51)) (.con (.int .i64 (.ofNat 0)))) (pth 52) ::
[])) (.cond (.tmp (pth 52)) (.seq (.run (.go (.build [(.int .i64 (.ofNat 0)),(.int .i64 (.ofNat 0))] []) (pth 53) ::
.un (.store 2 (.tmp (pth 6)) (.tmp (pth 53))) ::
.go (.move (.con (.int .i64 (.ofNat 9)))) (pth 7) ::
[])) .ret) .skip)) (.seq (.seq (.run (.go (.move (.tmp (pth 14))) (pth 54) ::
.go (.move (.tmp (pth 13))) (pth 55) ::
.go (.bin .eql 3 (.tmp (pth 54)) (.tmp (pth 55))) (pth 56) ::
[])) (.cond (.tmp (pth 56)) (.run (.go (.fieldAddr 0 (.tmp (pth 9))) (pth 57) ::
.go (.load1 (.tmp (pth 57))) (pth 58) ::
.go (.bin .add 3 (.tmp (pth 58)) (.con (.int .i64 (.ofNat 1)))) (pth 59) ::
.go (.fieldAddr 0 (.tmp (pth 9))) (pth 60) ::
.un (.store 1 (.tmp (pth 60)) (.tmp (pth 59))) ::
[])) .skip)) (.seq (.run (.go (.move (.tmp (pth 14))) (pth 61) ::
.go (.bin .gtr 3 (.tmp (pth 61)) (.con (.int .i64 (.ofNat 0)))) (pth 62) ::
[])) (.cond (.tmp (pth 62)) (.run (.go (.fieldAddr 1 (.tmp (pth 9))) (pth 63) ::
.go (.load1 (.tmp (pth 63))) (pth 64) ::
.go (.bin .add 3 (.tmp (pth 64)) (.con (.int .i64 (.ofNat 1)))) (pth 65) ::
.go (.fieldAddr 1 (.tmp (pth 9))) (pth 66) ::
.un (.store 1 (.tmp (pth 66)) (.tmp (pth 65))) ::
[])) .skip)))))))) (.run (.go (.bin .add 3 (.tmp (pth 36)) (.con (.int .i64 (.ofNat 1)))) (pth 67) ::
.go (.move (.tmp (pth 67))) (pth 36) ::
[])))))))) (.seq (.run (.go (.loadN 2 (.tmp (pth 9))) (pth 68) ::
.un (.store 2 (.tmp (pth 6)) (.tmp (pth 68))) ::
.go (.move (.con (.int .i64 (.ofNat 0)))) (pth 7) ::
[])) .ret))))))))
theorem de32 : @compF Try.prog (Gl.none Try.prog) Try.f32 3 = .mk d32 (mkTT 69) [(pth 0),(pth 1),(pth 2)] [.many (pth 6) 2,.tmp (pth 7)] := by kernel_rfl
theorem dg32 : Try.prog.funcs[32]? = some Try.f32 := Try.func32
theorem do32 : okF Try.prog Try.f32 = true := by kernel_rfl
/-- The bounds for the number of persons, and the error, where every number is one that was written. -/
def cw2 (p : Int → Nat → Bool) (lo hi : Int) (l : List Int) : Int × Int × Int :=
  if (l.any fun x => decide (ct (p x) 0 120 121 = 0)) = true then (0, 0, 9)
  else ((l.filter fun x => decide (ct (p x) lo hi 121 = ct (p x) 0 120 121)).length, (l.filter fun x => decide (0 < ct (p x) lo hi 121)).length, 0)
noncomputable def pp (a b c d x : Int) (i : Nat) : Bool := decide (cn a b c d x i)
noncomputable def cw (a b c d : Int) (l : List Int) (lo hi : Int) : Int × Int × Int :=
  if ¬ rv a b c d then (0, 0, 1)
  else if 200 < l.length then (0, 0, 3)
  else if ¬ ((l.all fun x => decide (0 ≤ x ∧ x ≤ 140)) = true ∧ 0 ≤ lo ∧ lo ≤ hi ∧ hi ≤ 120) then (0, 0, 2)
  else cw2 (pp a b c d) lo hi l
abbrev lowC (p : Int → Nat → Bool) (lo hi : Int) (l : List Int) : Nat := (l.filter fun x => decide (ct (p x) lo hi 121 = ct (p x) 0 120 121)).length
abbrev highC (p : Int → Nat → Bool) (lo hi : Int) (l : List Int) : Nat := (l.filter fun x => decide (0 < ct (p x) lo hi 121)).length
theorem filt_take {l : List Int} {k : Nat} (q : Int → Bool) (h : k < l.length) : ((l.take (k + 1)).filter q).length = ((l.take k).filter q).length + (if q l[k] = true then 1 else 0) := by
  rw [List.take_succ_eq_append_getElem h, List.filter_append, List.length_append]
  congr 1
  rw [List.filter_cons]
  split <;> rfl
theorem f32_ok {a b c d lo hi : Int} {H : Heap} {v : Value} {l : List Int} (hS : Sl H v (l.map I)) (hn : l.length ≤ 1048576) : Gives Try.prog 32 [.agg ⟨R4 a b c d⟩, v, .agg ⟨A2 lo hi⟩] H (.tuple ⟨[.agg ⟨A2 (cw a b c d l lo hi).1 (cw a b c d l lo hi).2.1⟩, I (cw a b c d l lo hi).2.2]⟩) := by
  have hlen : ∀ H', Grow H H' → ylen 0 H' v = some (I l.length) := fun H' g => by rw [(hS.grow g).len, List.length_map]
  refine F.entryL rfl dg32 do32 de32 rfl (by kernel_rfl) ?_
  simp only [sets]
  refine V.re [(0, .agg ⟨R4 a b c d⟩), (1, v), (2, .agg ⟨A2 lo hi⟩)] (N := 69) (by intro i; simp only [full_st, Full.mk]) (by simp only [Kn, gt_st, full_st, Full.mk, reduceIte, Nat.reduceEqDiff, Nat.reduceLT, decide_true, and_self]) ?_
  intro t hF hA
  simp only [Kn, and_true] at hA
  (repeat first | refine V.seq ?_ | refine V.block ?_ | refine V.scope ?_ | refine V.skip ?_ | refine V.close ?_)
  refine V.line' (by simp (maxSteps := 1000000) (disch := (first | omega | (simp only [Heap.next_alloc, Heap.next_set]; omega))) only [D2, mm_max, mm_min, cells_alloc_at, cells_alloc_ne, cells_set_at, cells_set_ne, dop, dA, sets, yfield1, yfieldN, yfieldAddr, Int.reduceNegSucc, Int.reduceEq, Nat.reduceLeDiff, Nat.reduceSub, Nat.reduceAdd, gt_st, full_st, hF, hA, reduceIte, Nat.reduceEqDiff, Nat.reduceLT, decide_true, decide_false, Bool.false_eq_true]; with_reducible rfl) ?_
  refine V.heap (fun H2 => Grow H H2 ∧ Bx H2 H.next (R4 a b c d) 28 ∧ Bx H2 (H.next + 1) (A2 lo hi) 48 ∧ Bx H2 (H.next + 2) (A2 0 0) 48) ⟨?_, ?_, ?_, ?_⟩ ?_
  · (repeat first | assumption | exact Grow.refl _ | refine Grow.alloc ?_ _ | refine Grow.set ?_ (by first | omega | (simp only [Heap.next_alloc, Heap.next_set]; omega)) _)
  · (repeat first | assumption | exact Bx.new _ _ _ | exact Bx.newAt (by first | omega | (simp only [Heap.next_alloc, Heap.next_set]; omega)) | refine Bx.put (by first | omega | (simp only [Heap.next_alloc, Heap.next_set]; omega)) _ _ | refine Bx.alloc ?_ _ | refine Bx.set ?_ (by first | omega | (simp only [Heap.next_alloc, Heap.next_set]; omega)) _)
  · (repeat first | assumption | exact Bx.new _ _ _ | exact Bx.newAt (by first | omega | (simp only [Heap.next_alloc, Heap.next_set]; omega)) | refine Bx.put (by first | omega | (simp only [Heap.next_alloc, Heap.next_set]; omega)) _ _ | refine Bx.alloc ?_ _ | refine Bx.set ?_ (by first | omega | (simp only [Heap.next_alloc, Heap.next_set]; omega)) _)
  · (repeat first | assumption | exact Bx.new _ _ _ | exact Bx.newAt (by first | omega | (simp only [Heap.next_alloc, Heap.next_set]; omega)) | refine Bx.put (by first | omega | (simp only [Heap.next_alloc, Heap.next_set]; omega)) _ _ | refine Bx.alloc ?_ _ | refine Bx.set ?_ (by first | omega | (simp only [Heap.next_alloc, Heap.next_set]; omega)) _)
  rintro H1 ⟨g1, b1, c1, e1⟩
  (repeat first | refine V.seq ?_ | refine V.block ?_ | refine V.scope ?_ | refine V.skip ?_ | refine V.close ?_)
  refine V.run ?_
  refine VI.steps' 1 (by simp (maxSteps := 1000000) (disch := (first | omega | (simp only [Heap.next_alloc, Heap.next_set]; omega))) only [D2, mm_max, mm_min, cells_alloc_at, cells_alloc_ne, cells_set_at, cells_set_ne, dop, dA, sets, yfield1, yfieldN, yfieldAddr, Int.reduceNegSucc, Int.reduceEq, Nat.reduceLeDiff, Nat.reduceSub, Nat.reduceAdd, gt_st, full_st, hF, hA, reduceIte, Nat.reduceEqDiff, Nat.reduceLT, decide_true, decide_false, Bool.false_eq_true, b1.2]; with_reducible rfl) ?_
  simp only [List.drop_succ_cons, List.drop_zero]
  refine VI.callA rfl (f64_ok a b c d H1) (by simp only [List.map_cons, List.map_nil, dA, gt_st, full_st, hF, hA, reduceIte, Nat.reduceEqDiff, Nat.reduceLT, decide_true, decide_false, Bool.false_eq_true, List.nil_append, List.append_nil, List.cons_append]; try rfl) (fun H2 g2 => ?_)
  have b2 := b1.grow g2
  have c2 := c1.grow g2
  have e2 := e1.grow g2
  have g2 := g1.trans g2
  have he2 := e2.1
  refine VI.line' (by simp (maxSteps := 1000000) (disch := (first | omega | (simp only [Heap.next_alloc, Heap.next_set]; omega))) only [D2, mm_max, mm_min, cells_alloc_at, cells_alloc_ne, cells_set_at, cells_set_ne, dop, dA, sets, yfield1, yfieldN, yfieldAddr, Int.reduceNegSucc, Int.reduceEq, Nat.reduceLeDiff, Nat.reduceSub, Nat.reduceAdd, gt_st, full_st, hF, hA, reduceIte, Nat.reduceEqDiff, Nat.reduceLT, decide_true, decide_false, Bool.false_eq_true]; with_reducible rfl) ?_
  (repeat first | refine V.seq ?_ | refine V.block ?_ | refine V.scope ?_ | refine V.skip ?_ | refine V.close ?_)
  refine V.condB (by simp only [dA, gt_st, full_st, hF, hA, reduceIte, Nat.reduceEqDiff, Nat.reduceLT, decide_true, decide_false, Bool.false_eq_true]; rfl) (fun h1 => ?_) (fun h1 => ?_)
  · have h1' : ¬ rv a b c d := by simpa using h1
    (repeat first | refine V.seq ?_ | refine V.block ?_ | refine V.scope ?_ | refine V.skip ?_ | refine V.close ?_)
    refine V.line' (by simp (maxSteps := 1000000) (disch := (first | omega | (simp only [Heap.next_alloc, Heap.next_set]; omega))) only [D2, mm_max, mm_min, cells_alloc_at, cells_alloc_ne, cells_set_at, cells_set_ne, dop, dA, sets, yfield1, yfieldN, yfieldAddr, Int.reduceNegSucc, Int.reduceEq, Nat.reduceLeDiff, Nat.reduceSub, Nat.reduceAdd, gt_st, full_st, hF, hA, reduceIte, Nat.reduceEqDiff, Nat.reduceLT, decide_true, decide_false, Bool.false_eq_true, e2.2]; with_reducible rfl) ?_
    (repeat first | refine V.seq ?_ | refine V.block ?_ | refine V.scope ?_ | refine V.skip ?_ | refine V.close ?_)
    refine V.ret (V.rets rfl (Lv.retG (by simp (disch := (first | omega | (simp only [Heap.next_alloc, Heap.next_set]; omega))) only [D1, cells_alloc_at, cells_alloc_ne, cells_set_at, cells_set_ne, yres, yres1, yresL, Nat.reduceLeDiff, Nat.reduceSub, Nat.reduceAdd, gt_st, full_st, hF, hA, reduceIte, Nat.reduceEqDiff, Nat.reduceLT, decide_true, decide_false, Bool.false_eq_true]; rfl) ?_ ?_))
    · (repeat first | assumption | exact Grow.refl _ | refine Grow.alloc ?_ _ | refine Grow.set ?_ (by first | omega | (simp only [Heap.next_alloc, Heap.next_set]; omega)) _)
    · simp only [cw, if_pos h1']
  have hv : rv a b c d := by simpa using h1
  (repeat first | refine V.seq ?_ | refine V.block ?_ | refine V.scope ?_ | refine V.skip ?_ | refine V.close ?_)
  refine V.line' (by simp (maxSteps := 1000000) (disch := (first | omega | (simp only [Heap.next_alloc, Heap.next_set]; omega))) only [D2, mm_max, mm_min, cells_alloc_at, cells_alloc_ne, cells_set_at, cells_set_ne, dop, dA, sets, yfield1, yfieldN, yfieldAddr, Int.reduceNegSucc, Int.reduceEq, Nat.reduceLeDiff, Nat.reduceSub, Nat.reduceAdd, gt_st, full_st, hF, hA, reduceIte, Nat.reduceEqDiff, Nat.reduceLT, decide_true, decide_false, Bool.false_eq_true, hlen _ g2]; with_reducible rfl) ?_
  (repeat first | refine V.seq ?_ | refine V.block ?_ | refine V.scope ?_ | refine V.skip ?_ | refine V.close ?_)
  refine V.condP (by simp only [dA, gt_st, full_st, hF, hA, reduceIte, Nat.reduceEqDiff, Nat.reduceLT, decide_true, decide_false, Bool.false_eq_true]; rfl) (fun h3 => ?_) (fun h3 => ?_)
  · have h3' : 200 < l.length := by omega
    (repeat first | refine V.seq ?_ | refine V.block ?_ | refine V.scope ?_ | refine V.skip ?_ | refine V.close ?_)
    refine V.line' (by simp (maxSteps := 1000000) (disch := (first | omega | (simp only [Heap.next_alloc, Heap.next_set]; omega))) only [D2, mm_max, mm_min, cells_alloc_at, cells_alloc_ne, cells_set_at, cells_set_ne, dop, dA, sets, yfield1, yfieldN, yfieldAddr, Int.reduceNegSucc, Int.reduceEq, Nat.reduceLeDiff, Nat.reduceSub, Nat.reduceAdd, gt_st, full_st, hF, hA, reduceIte, Nat.reduceEqDiff, Nat.reduceLT, decide_true, decide_false, Bool.false_eq_true, e2.2]; with_reducible rfl) ?_
    (repeat first | refine V.seq ?_ | refine V.block ?_ | refine V.scope ?_ | refine V.skip ?_ | refine V.close ?_)
    refine V.ret (V.rets rfl (Lv.retG (by simp (disch := (first | omega | (simp only [Heap.next_alloc, Heap.next_set]; omega))) only [D1, cells_alloc_at, cells_alloc_ne, cells_set_at, cells_set_ne, yres, yres1, yresL, Nat.reduceLeDiff, Nat.reduceSub, Nat.reduceAdd, gt_st, full_st, hF, hA, reduceIte, Nat.reduceEqDiff, Nat.reduceLT, decide_true, decide_false, Bool.false_eq_true]; rfl) ?_ ?_))
    · (repeat first | assumption | exact Grow.refl _ | refine Grow.alloc ?_ _ | refine Grow.set ?_ (by first | omega | (simp only [Heap.next_alloc, Heap.next_set]; omega)) _)
    · simp only [cw, if_neg (not_not_intro hv), if_pos h3']
  have h3' : ¬ 200 < l.length := by omega
  (repeat first | refine V.seq ?_ | refine V.block ?_ | refine V.scope ?_ | refine V.skip ?_ | refine V.close ?_)
  refine V.cut (fun e t m H' => e = .normal ∧ m = [] ∧ Grow H2 H' ∧ ∃ q : Bool, (q = false ↔ ((l.all fun x => decide (0 ≤ x ∧ x ≤ 140)) = true ∧ 0 ≤ lo ∧ lo ≤ hi ∧ hi ≤ 120)) ∧ Full 69 t ∧ Kn [(1, v), (3, .pointer (some ⟨H.next, 0, none⟩)), (5, .pointer (some ⟨H.next + 1, 0, none⟩)), (6, .pointer (some ⟨H.next + 2, 0, none⟩)), (31, .bool q)] t) ?_ ?_
  · refine V.draw ?_
    refine VD.dins 1 (by simp (maxSteps := 1000000) (disch := (first | omega | (simp only [Heap.next_alloc, Heap.next_set]; omega))) only [D2, mm_max, mm_min, cells_alloc_at, cells_alloc_ne, cells_set_at, cells_set_ne, dop, dA, sets, yfield1, yfieldN, yfieldAddr, Int.reduceNegSucc, Int.reduceEq, Nat.reduceLeDiff, Nat.reduceSub, Nat.reduceAdd, gt_st, full_st, hF, hA, reduceIte, Nat.reduceEqDiff, Nat.reduceLT, decide_true, decide_false, Bool.false_eq_true]; with_reducible rfl) ?_
    simp only [List.drop_succ_cons, List.drop_zero]
    refine VD.callA (by simp only [dA, gt_st, full_st, hF, hA, reduceIte, Nat.reduceEqDiff, Nat.reduceLT, decide_true, decide_false, Bool.false_eq_true]; try rfl) (f67_ok (hS.grow g2) hn) (by simp only [List.map_cons, List.map_nil, dA, gt_st, full_st, hF, hA, reduceIte, Nat.reduceEqDiff, Nat.reduceLT, decide_true, decide_false, Bool.false_eq_true, List.nil_append, List.append_nil, List.cons_append]; try rfl) (fun H3 g3 => ?_)
    have c3 := c2.grow g3
    by_cases hall : (l.all fun x => decide (0 ≤ x ∧ x ≤ 140)) = true
    · rw [hall]
      refine VD.dins 3 (by simp (maxSteps := 1000000) (disch := (first | omega | (simp only [Heap.next_alloc, Heap.next_set]; omega))) only [D2, mm_max, mm_min, cells_alloc_at, cells_alloc_ne, cells_set_at, cells_set_ne, dop, dA, sets, yfield1, yfieldN, yfieldAddr, Int.reduceNegSucc, Int.reduceEq, Nat.reduceLeDiff, Nat.reduceSub, Nat.reduceAdd, gt_st, full_st, hF, hA, reduceIte, Nat.reduceEqDiff, Nat.reduceLT, decide_true, decide_false, Bool.false_eq_true, c3.2]; with_reducible rfl) ?_
      simp only [List.drop_succ_cons, List.drop_zero]
      refine VD.callAT (by simp only [gt_st, full_st, hF, hA, reduceIte, Nat.reduceEqDiff, Nat.reduceLT, decide_true, decide_false, Bool.false_eq_true]; try rfl) (by simp only [dA, gt_st, full_st, hF, hA, reduceIte, Nat.reduceEqDiff, Nat.reduceLT, decide_true, decide_false, Bool.false_eq_true]; try rfl) (f73_ok _) (by simp only [List.map_cons, List.map_nil, dA, gt_st, full_st, hF, hA, reduceIte, Nat.reduceEqDiff, Nat.reduceLT, decide_true, decide_false, Bool.false_eq_true, List.nil_append, List.append_nil, List.cons_append]; try rfl) (fun H4 g4 => ?_)
      refine VD.callAT (by simp only [gt_st, full_st, hF, hA, reduceIte, Nat.reduceEqDiff, Nat.reduceLT, decide_true, decide_false, Bool.false_eq_true]; try rfl) (by simp only [dA, gt_st, full_st, hF, hA, reduceIte, Nat.reduceEqDiff, Nat.reduceLT, decide_true, decide_false, Bool.false_eq_true]; try rfl) (f72_ok lo hi 0 120 _) (by simp only [List.map_cons, List.map_nil, dA, gt_st, full_st, hF, hA, reduceIte, Nat.reduceEqDiff, Nat.reduceLT, decide_true, decide_false, Bool.false_eq_true, List.nil_append, List.append_nil, List.cons_append]; try rfl) (fun H5 g5 => ?_)
      refine VD.lineD' (by simp (maxSteps := 1000000) (disch := (first | omega | (simp only [Heap.next_alloc, Heap.next_set]; omega))) only [D2, mm_max, mm_min, cells_alloc_at, cells_alloc_ne, cells_set_at, cells_set_ne, dop, dA, sets, yfield1, yfieldN, yfieldAddr, Int.reduceNegSucc, Int.reduceEq, Nat.reduceLeDiff, Nat.reduceSub, Nat.reduceAdd, gt_st, full_st, hF, hA, reduceIte, Nat.reduceEqDiff, Nat.reduceLT, decide_true, decide_false, Bool.false_eq_true]; with_reducible rfl) ?_ ?_ rfl ?_
      · simp only [monoG, List.cons_append, List.nil_append, Nat.le_refl, true_and, and_true]
        exact ⟨g3.1, g4.1, g5.1⟩
      · simp only [dcAll, dcOk, wantD, List.cons_append, List.nil_append, true_and, and_true]
        exact fun _ q hq => by simp only [List.mem_cons, List.not_mem_nil, or_false] at hq; first | (subst hq; exact ⟨_, _, _, rfl, (by simp (maxSteps := 1000000) (disch := (first | omega | (simp only [Heap.next_alloc, Heap.next_set]; omega))) only [D2, mm_max, mm_min, cells_alloc_at, cells_alloc_ne, cells_set_at, cells_set_ne, dop, dA, sets, yfield1, yfieldN, yfieldAddr, Int.reduceNegSucc, Int.reduceEq, Nat.reduceLeDiff, Nat.reduceSub, Nat.reduceAdd, gt_st, full_st, hF, hA, reduceIte, Nat.reduceEqDiff, Nat.reduceLT, decide_true, decide_false, Bool.false_eq_true, c2.2, c3.2, (c3.grow g4).2, ((c3.grow g4).grow g5).2]; with_reducible rfl), fun p hp => by cases hp; simp only [gt_st, full_st, hF, hA, reduceIte, Nat.reduceEqDiff, Nat.reduceLT, decide_true, decide_false, Bool.false_eq_true]; first | exact vEq_An | simp [vEq, vEq0, all2]⟩) | (rcases hq with rfl | rfl <;> exact ⟨_, _, _, rfl, (by simp (maxSteps := 1000000) (disch := (first | omega | (simp only [Heap.next_alloc, Heap.next_set]; omega))) only [D2, mm_max, mm_min, cells_alloc_at, cells_alloc_ne, cells_set_at, cells_set_ne, dop, dA, sets, yfield1, yfieldN, yfieldAddr, Int.reduceNegSucc, Int.reduceEq, Nat.reduceLeDiff, Nat.reduceSub, Nat.reduceAdd, gt_st, full_st, hF, hA, reduceIte, Nat.reduceEqDiff, Nat.reduceLT, decide_true, decide_false, Bool.false_eq_true, c2.2, c3.2, (c3.grow g4).2, ((c3.grow g4).grow g5).2]; with_reducible rfl), fun p hp => by cases hp; simp only [gt_st, full_st, hF, hA, reduceIte, Nat.reduceEqDiff, Nat.reduceLT, decide_true, decide_false, Bool.false_eq_true]; first | exact vEq_An | simp [vEq, vEq0, all2]⟩) | (rcases hq with rfl | rfl | rfl <;> exact ⟨_, _, _, rfl, (by simp (maxSteps := 1000000) (disch := (first | omega | (simp only [Heap.next_alloc, Heap.next_set]; omega))) only [D2, mm_max, mm_min, cells_alloc_at, cells_alloc_ne, cells_set_at, cells_set_ne, dop, dA, sets, yfield1, yfieldN, yfieldAddr, Int.reduceNegSucc, Int.reduceEq, Nat.reduceLeDiff, Nat.reduceSub, Nat.reduceAdd, gt_st, full_st, hF, hA, reduceIte, Nat.reduceEqDiff, Nat.reduceLT, decide_true, decide_false, Bool.false_eq_true, c2.2, c3.2, (c3.grow g4).2, ((c3.grow g4).grow g5).2]; with_reducible rfl), fun p hp => by cases hp; simp only [gt_st, full_st, hF, hA, reduceIte, Nat.reduceEqDiff, Nat.reduceLT, decide_true, decide_false, Bool.false_eq_true]; first | exact vEq_An | simp [vEq, vEq0, all2]⟩)
      refine ⟨rfl, rfl, (g3.trans g4).trans g5, !decide (0 ≤ lo ∧ lo ≤ hi ∧ hi ≤ 120), by simp [hall], (by intro i; simp only [full_st, hF]), (by simp only [Kn, gt_st, full_st, hF, hA, reduceIte, Nat.reduceEqDiff, Nat.reduceLT, decide_true, decide_false, Bool.false_eq_true, and_self, and_true, true_and]; try (repeat' constructor))⟩
    · rw [Bool.eq_false_iff.2 hall]
      refine VD.lineD' (by simp (maxSteps := 1000000) (disch := (first | omega | (simp only [Heap.next_alloc, Heap.next_set]; omega))) only [D2, mm_max, mm_min, cells_alloc_at, cells_alloc_ne, cells_set_at, cells_set_ne, dop, dA, sets, yfield1, yfieldN, yfieldAddr, Int.reduceNegSucc, Int.reduceEq, Nat.reduceLeDiff, Nat.reduceSub, Nat.reduceAdd, gt_st, full_st, hF, hA, reduceIte, Nat.reduceEqDiff, Nat.reduceLT, decide_true, decide_false, Bool.false_eq_true]; with_reducible rfl) ?_ ?_ rfl ?_
      · simp only [monoG, List.cons_append, List.nil_append, Nat.le_refl, true_and, and_true]
        exact g3.1
      · simp only [dcAll, dcOk, wantD, List.cons_append, List.nil_append, true_and, and_true]
        simp only [gt_st, full_st, hF, hA, reduceIte, Nat.reduceEqDiff, Nat.reduceLT, decide_true, decide_false, Bool.false_eq_true]
        exact fun h => absurd h (by decide)
      exact ⟨rfl, rfl, g3, true, by simp [hall], (by intro i; simp only [full_st, hF]), (by simp only [Kn, gt_st, full_st, hF, hA, reduceIte, Nat.reduceEqDiff, Nat.reduceLT, decide_true, decide_false, Bool.false_eq_true, and_self, and_true, true_and]; try (repeat' constructor))⟩
  rintro e t m H3 ⟨rfl, rfl, g3, q, hq, hF, hA⟩
  simp only [Kn, and_true] at hA
  have b3 := b2.grow g3
  have c3 := c2.grow g3
  have e3 := e2.grow g3
  have g3 := g2.trans g3
  have he3 := e3.1
  (repeat first | refine V.seq ?_ | refine V.block ?_ | refine V.scope ?_ | refine V.skip ?_ | refine V.close ?_)
  refine V.condB (by simp only [dA, gt_st, full_st, hF, hA, reduceIte, Nat.reduceEqDiff, Nat.reduceLT, decide_true, decide_false, Bool.false_eq_true]; rfl) (fun h4 => ?_) (fun h4 => ?_)
  · subst h4
    have h4' : ¬ ((l.all fun x => decide (0 ≤ x ∧ x ≤ 140)) = true ∧ 0 ≤ lo ∧ lo ≤ hi ∧ hi ≤ 120) := fun h => by cases hq.2 h
    (repeat first | refine V.seq ?_ | refine V.block ?_ | refine V.scope ?_ | refine V.skip ?_ | refine V.close ?_)
    refine V.line' (by simp (maxSteps := 1000000) (disch := (first | omega | (simp only [Heap.next_alloc, Heap.next_set]; omega))) only [D2, mm_max, mm_min, cells_alloc_at, cells_alloc_ne, cells_set_at, cells_set_ne, dop, dA, sets, yfield1, yfieldN, yfieldAddr, Int.reduceNegSucc, Int.reduceEq, Nat.reduceLeDiff, Nat.reduceSub, Nat.reduceAdd, gt_st, full_st, hF, hA, reduceIte, Nat.reduceEqDiff, Nat.reduceLT, decide_true, decide_false, Bool.false_eq_true, e3.2]; with_reducible rfl) ?_
    (repeat first | refine V.seq ?_ | refine V.block ?_ | refine V.scope ?_ | refine V.skip ?_ | refine V.close ?_)
    refine V.ret (V.rets rfl (Lv.retG (by simp (disch := (first | omega | (simp only [Heap.next_alloc, Heap.next_set]; omega))) only [D1, cells_alloc_at, cells_alloc_ne, cells_set_at, cells_set_ne, yres, yres1, yresL, Nat.reduceLeDiff, Nat.reduceSub, Nat.reduceAdd, gt_st, full_st, hF, hA, reduceIte, Nat.reduceEqDiff, Nat.reduceLT, decide_true, decide_false, Bool.false_eq_true]; rfl) ?_ ?_))
    · (repeat first | assumption | exact Grow.refl _ | refine Grow.alloc ?_ _ | refine Grow.set ?_ (by first | omega | (simp only [Heap.next_alloc, Heap.next_set]; omega)) _)
    · simp only [cw, if_neg (not_not_intro hv), if_neg h3', if_pos h4']
  have h4' := hq.1 h4
  obtain ⟨hall, hlo, hlh, hhi⟩ := h4'
  have hin : ∀ x ∈ l, 0 ≤ x ∧ x ≤ 140 := fun x hx => by simpa using List.all_eq_true.1 hall x hx
  (repeat first | refine V.seq ?_ | refine V.block ?_ | refine V.scope ?_ | refine V.skip ?_ | refine V.close ?_)
  refine V.line' (by simp (maxSteps := 1000000) (disch := (first | omega | (simp only [Heap.next_alloc, Heap.next_set]; omega))) only [D2, mm_max, mm_min, cells_alloc_at, cells_alloc_ne, cells_set_at, cells_set_ne, dop, dA, sets, yfield1, yfieldN, yfieldAddr, Int.reduceNegSucc, Int.reduceEq, Nat.reduceLeDiff, Nat.reduceSub, Nat.reduceAdd, gt_st, full_st, hF, hA, reduceIte, Nat.reduceEqDiff, Nat.reduceLT, decide_true, decide_false, Bool.false_eq_true]; with_reducible rfl) ?_
  (repeat first | refine V.seq ?_ | refine V.block ?_ | refine V.scope ?_ | refine V.skip ?_ | refine V.close ?_)
  refine V.line' (by simp (maxSteps := 1000000) (disch := (first | omega | (simp only [Heap.next_alloc, Heap.next_set]; omega))) only [D2, mm_max, mm_min, cells_alloc_at, cells_alloc_ne, cells_set_at, cells_set_ne, dop, dA, sets, yfield1, yfieldN, yfieldAddr, Int.reduceNegSucc, Int.reduceEq, Nat.reduceLeDiff, Nat.reduceSub, Nat.reduceAdd, gt_st, full_st, hF, hA, reduceIte, Nat.reduceEqDiff, Nat.reduceLT, decide_true, decide_false, Bool.false_eq_true]; with_reducible rfl) ?_
  (repeat first | refine V.seq ?_ | refine V.block ?_ | refine V.scope ?_ | refine V.skip ?_ | refine V.close ?_)
  refine V.line' (by simp (maxSteps := 1000000) (disch := (first | omega | (simp only [Heap.next_alloc, Heap.next_set]; omega))) only [D2, mm_max, mm_min, cells_alloc_at, cells_alloc_ne, cells_set_at, cells_set_ne, dop, dA, sets, yfield1, yfieldN, yfieldAddr, Int.reduceNegSucc, Int.reduceEq, Nat.reduceLeDiff, Nat.reduceSub, Nat.reduceAdd, gt_st, full_st, hF, hA, reduceIte, Nat.reduceEqDiff, Nat.reduceLT, decide_true, decide_false, Bool.false_eq_true, hlen _ (g3.trans (((Grow.refl H3).alloc _).alloc _))]; with_reducible rfl) ?_
  have m0 : Mp ((H3.alloc (.map 115 #[] 0)).alloc (.cells ⟨[I 0, I 0]⟩ 48 true)) H3.next 115 [] := (Mp.alloc ⟨Nat.lt_succ_self _, 0, maps_alloc _ _ _ _⟩ _)
  refine V.heap (fun H4 => Grow H H4 ∧ Grow H3 H4 ∧ Bx H4 H.next (R4 a b c d) 28 ∧ Bx H4 (H.next + 1) (A2 lo hi) 48 ∧ Bx H4 (H.next + 2) (A2 0 0) 48 ∧ Bx H4 (H3.next + 1) (A2 0 0) 48 ∧ Mp H4 H3.next 115 []) ⟨?_, ?_, ?_, ?_, ?_, ?_, m0⟩ ?_
  · (repeat first | assumption | exact Grow.refl _ | refine Grow.alloc ?_ _ | refine Grow.set ?_ (by first | omega | (simp only [Heap.next_alloc, Heap.next_set]; omega)) _)
  · exact ((Grow.refl H3).alloc _).alloc _
  · (repeat first | assumption | exact Bx.new _ _ _ | exact Bx.newAt (by first | omega | (simp only [Heap.next_alloc, Heap.next_set]; omega)) | refine Bx.put (by first | omega | (simp only [Heap.next_alloc, Heap.next_set]; omega)) _ _ | refine Bx.alloc ?_ _ | refine Bx.set ?_ (by first | omega | (simp only [Heap.next_alloc, Heap.next_set]; omega)) _)
  · (repeat first | assumption | exact Bx.new _ _ _ | exact Bx.newAt (by first | omega | (simp only [Heap.next_alloc, Heap.next_set]; omega)) | refine Bx.put (by first | omega | (simp only [Heap.next_alloc, Heap.next_set]; omega)) _ _ | refine Bx.alloc ?_ _ | refine Bx.set ?_ (by first | omega | (simp only [Heap.next_alloc, Heap.next_set]; omega)) _)
  · (repeat first | assumption | exact Bx.new _ _ _ | exact Bx.newAt (by first | omega | (simp only [Heap.next_alloc, Heap.next_set]; omega)) | refine Bx.put (by first | omega | (simp only [Heap.next_alloc, Heap.next_set]; omega)) _ _ | refine Bx.alloc ?_ _ | refine Bx.set ?_ (by first | omega | (simp only [Heap.next_alloc, Heap.next_set]; omega)) _)
  · (repeat first | assumption | exact Bx.new _ _ _ | exact Bx.newAt (by first | omega | (simp only [Heap.next_alloc, Heap.next_set]; omega)) | refine Bx.put (by first | omega | (simp only [Heap.next_alloc, Heap.next_set]; omega)) _ _ | refine Bx.alloc ?_ _ | refine Bx.set ?_ (by first | omega | (simp only [Heap.next_alloc, Heap.next_set]; omega)) _)
  rintro H4 ⟨g4, g34, b4, c4, e4, p4, m4⟩
  (repeat first | refine V.seq ?_ | refine V.block ?_ | refine V.scope ?_ | refine V.skip ?_ | refine V.close ?_)
  refine V.loop (fun n t m H' => ∃ (k : Nat), k ≤ l.length ∧ n = l.length - k ∧ m = [] ∧ (∀ x ∈ l.take k, ct (pp a b c d x) 0 120 121 ≠ 0) ∧ Grow H H' ∧ H3.next + 1 < H'.next ∧ Bx H' H.next (R4 a b c d) 28 ∧ Bx H' (H.next + 1) (A2 lo hi) 48 ∧ Bx H' (H.next + 2) (A2 0 0) 48 ∧ Bx H' (H3.next + 1) (A2 (lowC (pp a b c d) lo hi (l.take k)) (highC (pp a b c d) lo hi (l.take k))) 48 ∧ (∃ es, Mp H' H3.next 115 es ∧ tab a b c d es) ∧ Full 69 t ∧ Kn [(3, .pointer (some ⟨H.next, 0, none⟩)), (5, .pointer (some ⟨H.next + 1, 0, none⟩)), (6, .pointer (some ⟨H.next + 2, 0, none⟩)), (8, .map (some H3.next)), (9, .pointer (some ⟨H3.next + 1, 0, none⟩)), (34, v), (35, I l.length), (36, I k)] t) l.length ?_ ?_
  · exact ⟨0, by omega, by omega, rfl, (fun x hx => by simp at hx), g4, p4.1, b4, c4, e4, p4, ⟨[], m4, fun e he => by cases he⟩, (by intro i; simp only [full_st, hF]), (by simp only [Kn, gt_st, full_st, hF, hA, reduceIte, Nat.reduceEqDiff, Nat.reduceLT, decide_true, decide_false, Bool.false_eq_true, and_self, and_true, true_and]; try (repeat' constructor))⟩
  clear hF hA
  rintro n t m H5 ⟨k, hk, rfl, rfl, hnz, g5, hn5, b5, c5, e5, p5, ⟨es, m5, t5⟩, hF, hA⟩
  simp only [Kn, and_true] at hA
  have hb5 := b5.1
  have he5 := e5.1
  have hl1 : lowC (pp a b c d) lo hi (l.take k) ≤ k := Nat.le_trans (List.length_filter_le _ _) (by rw [List.length_take]; omega)
  have hl2 : highC (pp a b c d) lo hi (l.take k) ≤ k := Nat.le_trans (List.length_filter_le _ _) (by rw [List.length_take]; omega)
  (repeat first | refine V.seq ?_ | refine V.block ?_ | refine V.scope ?_ | refine V.skip ?_ | refine V.close ?_)
  refine V.line' (by simp (maxSteps := 1000000) (disch := (first | omega | (simp only [Heap.next_alloc, Heap.next_set]; omega))) only [D2, mm_max, mm_min, cells_alloc_at, cells_alloc_ne, cells_set_at, cells_set_ne, dop, dA, sets, yfield1, yfieldN, yfieldAddr, Int.reduceNegSucc, Int.reduceEq, Nat.reduceLeDiff, Nat.reduceSub, Nat.reduceAdd, gt_st, full_st, hF, hA, reduceIte, Nat.reduceEqDiff, Nat.reduceLT, decide_true, decide_false, Bool.false_eq_true]; with_reducible rfl) ?_
  (repeat first | refine V.seq ?_ | refine V.block ?_ | refine V.scope ?_ | refine V.skip ?_ | refine V.close ?_)
  refine V.condP (by simp only [dA, gt_st, full_st, hF, hA, reduceIte, Nat.reduceEqDiff, Nat.reduceLT, decide_true, decide_false, Bool.false_eq_true]; rfl) (fun h5 => ?_) (fun h5 => ?_)
  · have hlt' : k < l.length := by omega
    obtain ⟨q5, hq1, hq2⟩ := hS.get (n := k) (k := k) (x := I l[k]) (kd := .i64) (by simp [hlt']) rfl
    have hx := hin l[k] (by simp)
    (repeat first | refine V.seq ?_ | refine V.block ?_ | refine V.scope ?_ | refine V.skip ?_ | refine V.close ?_)
    refine V.line' (by simp (maxSteps := 1000000) (disch := (first | omega | (simp only [Heap.next_alloc, Heap.next_set]; omega))) only [D2, mm_max, mm_min, cells_alloc_at, cells_alloc_ne, cells_set_at, cells_set_ne, dop, dA, sets, yfield1, yfieldN, yfieldAddr, Int.reduceNegSucc, Int.reduceEq, Nat.reduceLeDiff, Nat.reduceSub, Nat.reduceAdd, gt_st, full_st, hF, hA, reduceIte, Nat.reduceEqDiff, Nat.reduceLT, decide_true, decide_false, Bool.false_eq_true, hq1, hq2 _ g5]; with_reducible rfl) ?_
    (repeat first | refine V.seq ?_ | refine V.block ?_ | refine V.scope ?_ | refine V.skip ?_ | refine V.close ?_)
    refine V.run ?_
    refine VI.steps' 4 (by simp (maxSteps := 1000000) (disch := (first | omega | (simp only [Heap.next_alloc, Heap.next_set]; omega))) only [D2, mm_max, mm_min, cells_alloc_at, cells_alloc_ne, cells_set_at, cells_set_ne, dop, dA, sets, yfield1, yfieldN, yfieldAddr, Int.reduceNegSucc, Int.reduceEq, Nat.reduceLeDiff, Nat.reduceSub, Nat.reduceAdd, gt_st, full_st, hF, hA, reduceIte, Nat.reduceEqDiff, Nat.reduceLT, decide_true, decide_false, Bool.false_eq_true, b5.2]; with_reducible rfl) ?_
    simp only [List.drop_succ_cons, List.drop_zero]
    refine VI.callR rfl (f74_ok hv hx m5 t5) (by simp only [List.map_cons, List.map_nil, dA, gt_st, full_st, hF, hA, reduceIte, Nat.reduceEqDiff, Nat.reduceLT, decide_true, decide_false, Bool.false_eq_true, List.nil_append, List.append_nil, List.cons_append]; try rfl) (fun w H6 ⟨hw6, gx6, es6, m6, t6⟩ => ?_)
    subst hw6
    have hn3 : H.next + 2 < H3.next := he3
    have b6 := b5.growX gx6 (by omega)
    have c6 := c5.growX gx6 (by omega)
    have e6 := e5.growX gx6 (by omega)
    have p6 := p5.growX gx6 (by omega)
    have g6 := gx6.grow g5 (by omega)
    have hn6 : H5.next ≤ H6.next := gx6.1
    have hm6 := m6.1
    refine VI.line' (by simp (maxSteps := 1000000) (disch := (first | omega | (simp only [Heap.next_alloc, Heap.next_set]; omega))) only [D2, mm_max, mm_min, cells_alloc_at, cells_alloc_ne, cells_set_at, cells_set_ne, dop, dA, sets, yfield1, yfieldN, yfieldAddr, Int.reduceNegSucc, Int.reduceEq, Nat.reduceLeDiff, Nat.reduceSub, Nat.reduceAdd, gt_st, full_st, hF, hA, reduceIte, Nat.reduceEqDiff, Nat.reduceLT, decide_true, decide_false, Bool.false_eq_true, z121, tr, An_len, An_ok, setC_An]; with_reducible rfl) ?_
    refine V.heap (fun H' => Grow H H' ∧ Bx H' H.next (R4 a b c d) 28 ∧ Bx H' (H.next + 1) (A2 lo hi) 48 ∧ Bx H' (H.next + 2) (A2 0 0) 48 ∧ Bx H' (H3.next + 1) (A2 (lowC (pp a b c d) lo hi (l.take k)) (highC (pp a b c d) lo hi (l.take k))) 48 ∧ Mp H' H3.next 115 es6 ∧ Bx H' H6.next (An 121 fun i => .bool (pp a b c d l[k] i)) 113) ⟨?_, ?_, ?_, ?_, ?_, ?_, ?_⟩ ?_
    · (repeat first | assumption | exact Grow.refl _ | refine Grow.alloc ?_ _ | refine Grow.set ?_ (by first | omega | (simp only [Heap.next_alloc, Heap.next_set]; omega)) _)
    · (repeat first | assumption | exact Bx.new _ _ _ | exact Bx.newAt (by first | omega | (simp only [Heap.next_alloc, Heap.next_set]; omega)) | refine Bx.put (by first | omega | (simp only [Heap.next_alloc, Heap.next_set]; omega)) _ _ | refine Bx.alloc ?_ _ | refine Bx.set ?_ (by first | omega | (simp only [Heap.next_alloc, Heap.next_set]; omega)) _)
    · (repeat first | assumption | exact Bx.new _ _ _ | exact Bx.newAt (by first | omega | (simp only [Heap.next_alloc, Heap.next_set]; omega)) | refine Bx.put (by first | omega | (simp only [Heap.next_alloc, Heap.next_set]; omega)) _ _ | refine Bx.alloc ?_ _ | refine Bx.set ?_ (by first | omega | (simp only [Heap.next_alloc, Heap.next_set]; omega)) _)
    · (repeat first | assumption | exact Bx.new _ _ _ | exact Bx.newAt (by first | omega | (simp only [Heap.next_alloc, Heap.next_set]; omega)) | refine Bx.put (by first | omega | (simp only [Heap.next_alloc, Heap.next_set]; omega)) _ _ | refine Bx.alloc ?_ _ | refine Bx.set ?_ (by first | omega | (simp only [Heap.next_alloc, Heap.next_set]; omega)) _)
    · (repeat first | assumption | exact Bx.new _ _ _ | exact Bx.newAt (by first | omega | (simp only [Heap.next_alloc, Heap.next_set]; omega)) | refine Bx.put (by first | omega | (simp only [Heap.next_alloc, Heap.next_set]; omega)) _ _ | refine Bx.alloc ?_ _ | refine Bx.set ?_ (by first | omega | (simp only [Heap.next_alloc, Heap.next_set]; omega)) _)
    · exact (m6.alloc _).set (by omega) _
    · show Bx _ _ (An 121 fun i => .bool (decide (cn a b c d l[k] i))) 113
      (repeat first | assumption | exact Bx.new _ _ _ | exact Bx.newAt (by first | omega | (simp only [Heap.next_alloc, Heap.next_set]; omega)) | refine Bx.put (by first | omega | (simp only [Heap.next_alloc, Heap.next_set]; omega)) _ _ | refine Bx.alloc ?_ _ | refine Bx.set ?_ (by first | omega | (simp only [Heap.next_alloc, Heap.next_set]; omega)) _)
    rintro H7 ⟨g7, b7, c7, e7, p7, m7, r7⟩
    (repeat first | refine V.seq ?_ | refine V.block ?_ | refine V.scope ?_ | refine V.skip ?_ | refine V.close ?_)
    have hct0 := ct_le (pp a b c d l[k]) 0 120 121
    have hct1 := ct_le (pp a b c d l[k]) lo hi 121
    refine V.cut (fun e t m H' => e = .normal ∧ m = [] ∧ Grow H7 H' ∧ Full 69 t ∧ Kn [(3, .pointer (some ⟨H.next, 0, none⟩)), (5, .pointer (some ⟨H.next + 1, 0, none⟩)), (6, .pointer (some ⟨H.next + 2, 0, none⟩)), (8, .map (some H3.next)), (9, .pointer (some ⟨H3.next + 1, 0, none⟩)), (13, I (ct (pp a b c d l[k]) 0 120 121)), (14, I (ct (pp a b c d l[k]) lo hi 121)), (34, v), (35, I l.length), (36, I k)] t) ?_ ?_
    · refine V.draw ?_
      refine VD.dins 1 (by simp (maxSteps := 1000000) (disch := (first | omega | (simp only [Heap.next_alloc, Heap.next_set]; omega))) only [D2, mm_max, mm_min, cells_alloc_at, cells_alloc_ne, cells_set_at, cells_set_ne, dop, dA, sets, yfield1, yfieldN, yfieldAddr, Int.reduceNegSucc, Int.reduceEq, Nat.reduceLeDiff, Nat.reduceSub, Nat.reduceAdd, gt_st, full_st, hF, hA, reduceIte, Nat.reduceEqDiff, Nat.reduceLT, decide_true, decide_false, Bool.false_eq_true, r7.2, An_len, An_take]; with_reducible rfl) ?_
      simp only [List.drop_succ_cons, List.drop_zero]
      refine VD.callA (by simp only [dA, gt_st, full_st, hF, hA, reduceIte, Nat.reduceEqDiff, Nat.reduceLT, decide_true, decide_false, Bool.false_eq_true]; try rfl) (f73_ok _) (by simp only [List.map_cons, List.map_nil, dA, gt_st, full_st, hF, hA, reduceIte, Nat.reduceEqDiff, Nat.reduceLT, decide_true, decide_false, Bool.false_eq_true, List.nil_append, List.append_nil, List.cons_append]; try rfl) (fun Ha ga => ?_)
      have ra := r7.grow ga
      have ca := c7.grow ga
      refine VD.callA (by simp only [dA, gt_st, full_st, hF, hA, reduceIte, Nat.reduceEqDiff, Nat.reduceLT, decide_true, decide_false, Bool.false_eq_true]; try rfl) (f75_ok (pp a b c d l[k]) 0 120 Ha) (by simp only [List.map_cons, List.map_nil, dA, gt_st, full_st, hF, hA, reduceIte, Nat.reduceEqDiff, Nat.reduceLT, decide_true, decide_false, Bool.false_eq_true, List.nil_append, List.append_nil, List.cons_append]; try rfl) (fun Hb gb => ?_)
      have rb := ra.grow gb
      have cb := ca.grow gb
      refine VD.dins 2 (by simp (maxSteps := 1000000) (disch := (first | omega | (simp only [Heap.next_alloc, Heap.next_set]; omega))) only [D2, mm_max, mm_min, cells_alloc_at, cells_alloc_ne, cells_set_at, cells_set_ne, dop, dA, sets, yfield1, yfieldN, yfieldAddr, Int.reduceNegSucc, Int.reduceEq, Nat.reduceLeDiff, Nat.reduceSub, Nat.reduceAdd, gt_st, full_st, hF, hA, reduceIte, Nat.reduceEqDiff, Nat.reduceLT, decide_true, decide_false, Bool.false_eq_true, rb.2, cb.2, An_len, An_take]; with_reducible rfl) ?_
      simp only [List.drop_succ_cons, List.drop_zero]
      refine VD.callA (by simp only [dA, gt_st, full_st, hF, hA, reduceIte, Nat.reduceEqDiff, Nat.reduceLT, decide_true, decide_false, Bool.false_eq_true]; try rfl) (f75_ok (pp a b c d l[k]) lo hi Hb) (by simp only [List.map_cons, List.map_nil, dA, gt_st, full_st, hF, hA, reduceIte, Nat.reduceEqDiff, Nat.reduceLT, decide_true, decide_false, Bool.false_eq_true, List.nil_append, List.append_nil, List.cons_append]; try rfl) (fun Hc gc => ?_)
      have rc := rb.grow gc
      have cc := cb.grow gc
      refine VD.lineD' (by simp (maxSteps := 1000000) (disch := (first | omega | (simp only [Heap.next_alloc, Heap.next_set]; omega))) only [D2, mm_max, mm_min, cells_alloc_at, cells_alloc_ne, cells_set_at, cells_set_ne, dop, dA, sets, yfield1, yfieldN, yfieldAddr, Int.reduceNegSucc, Int.reduceEq, Nat.reduceLeDiff, Nat.reduceSub, Nat.reduceAdd, gt_st, full_st, hF, hA, reduceIte, Nat.reduceEqDiff, Nat.reduceLT, decide_true, decide_false, Bool.false_eq_true]; with_reducible rfl) ?_ ?_ rfl ?_
      · simp only [monoG, List.cons_append, List.nil_append, Nat.le_refl, true_and, and_true]
        exact ⟨ga.1, gb.1, gc.1⟩
      · simp only [dcAll, dcOk, wantD, List.cons_append, List.nil_append, true_and, and_true]
        exact ⟨fun _ q hq => by simp only [List.mem_cons, List.not_mem_nil, or_false] at hq; first | (subst hq; exact ⟨_, _, _, rfl, (by simp (maxSteps := 1000000) (disch := (first | omega | (simp only [Heap.next_alloc, Heap.next_set]; omega))) only [D2, mm_max, mm_min, cells_alloc_at, cells_alloc_ne, cells_set_at, cells_set_ne, dop, dA, sets, yfield1, yfieldN, yfieldAddr, Int.reduceNegSucc, Int.reduceEq, Nat.reduceLeDiff, Nat.reduceSub, Nat.reduceAdd, gt_st, full_st, hF, hA, reduceIte, Nat.reduceEqDiff, Nat.reduceLT, decide_true, decide_false, Bool.false_eq_true, r7.2, ra.2, rb.2, rc.2, An_len, An_take]; with_reducible rfl), fun p hp => by cases hp; simp only [gt_st, full_st, hF, hA, reduceIte, Nat.reduceEqDiff, Nat.reduceLT, decide_true, decide_false, Bool.false_eq_true]; first | exact vEq_An | simp [vEq, vEq0, all2]⟩) | (rcases hq with rfl | rfl <;> exact ⟨_, _, _, rfl, (by simp (maxSteps := 1000000) (disch := (first | omega | (simp only [Heap.next_alloc, Heap.next_set]; omega))) only [D2, mm_max, mm_min, cells_alloc_at, cells_alloc_ne, cells_set_at, cells_set_ne, dop, dA, sets, yfield1, yfieldN, yfieldAddr, Int.reduceNegSucc, Int.reduceEq, Nat.reduceLeDiff, Nat.reduceSub, Nat.reduceAdd, gt_st, full_st, hF, hA, reduceIte, Nat.reduceEqDiff, Nat.reduceLT, decide_true, decide_false, Bool.false_eq_true, r7.2, ra.2, rb.2, rc.2, An_len, An_take]; with_reducible rfl), fun p hp => by cases hp; simp only [gt_st, full_st, hF, hA, reduceIte, Nat.reduceEqDiff, Nat.reduceLT, decide_true, decide_false, Bool.false_eq_true]; first | exact vEq_An | simp [vEq, vEq0, all2]⟩) | (rcases hq with rfl | rfl | rfl <;> exact ⟨_, _, _, rfl, (by simp (maxSteps := 1000000) (disch := (first | omega | (simp only [Heap.next_alloc, Heap.next_set]; omega))) only [D2, mm_max, mm_min, cells_alloc_at, cells_alloc_ne, cells_set_at, cells_set_ne, dop, dA, sets, yfield1, yfieldN, yfieldAddr, Int.reduceNegSucc, Int.reduceEq, Nat.reduceLeDiff, Nat.reduceSub, Nat.reduceAdd, gt_st, full_st, hF, hA, reduceIte, Nat.reduceEqDiff, Nat.reduceLT, decide_true, decide_false, Bool.false_eq_true, r7.2, ra.2, rb.2, rc.2, An_len, An_take]; with_reducible rfl), fun p hp => by cases hp; simp only [gt_st, full_st, hF, hA, reduceIte, Nat.reduceEqDiff, Nat.reduceLT, decide_true, decide_false, Bool.false_eq_true]; first | exact vEq_An | simp [vEq, vEq0, all2]⟩), fun _ q hq => by simp only [List.mem_cons, List.not_mem_nil, or_false] at hq; first | (subst hq; exact ⟨_, _, _, rfl, (by simp (maxSteps := 1000000) (disch := (first | omega | (simp only [Heap.next_alloc, Heap.next_set]; omega))) only [D2, mm_max, mm_min, cells_alloc_at, cells_alloc_ne, cells_set_at, cells_set_ne, dop, dA, sets, yfield1, yfieldN, yfieldAddr, Int.reduceNegSucc, Int.reduceEq, Nat.reduceLeDiff, Nat.reduceSub, Nat.reduceAdd, gt_st, full_st, hF, hA, reduceIte, Nat.reduceEqDiff, Nat.reduceLT, decide_true, decide_false, Bool.false_eq_true, r7.2, ra.2, rb.2, rc.2, An_len, An_take]; with_reducible rfl), fun p hp => by cases hp; simp only [gt_st, full_st, hF, hA, reduceIte, Nat.reduceEqDiff, Nat.reduceLT, decide_true, decide_false, Bool.false_eq_true]; first | exact vEq_An | simp [vEq, vEq0, all2]⟩) | (rcases hq with rfl | rfl <;> exact ⟨_, _, _, rfl, (by simp (maxSteps := 1000000) (disch := (first | omega | (simp only [Heap.next_alloc, Heap.next_set]; omega))) only [D2, mm_max, mm_min, cells_alloc_at, cells_alloc_ne, cells_set_at, cells_set_ne, dop, dA, sets, yfield1, yfieldN, yfieldAddr, Int.reduceNegSucc, Int.reduceEq, Nat.reduceLeDiff, Nat.reduceSub, Nat.reduceAdd, gt_st, full_st, hF, hA, reduceIte, Nat.reduceEqDiff, Nat.reduceLT, decide_true, decide_false, Bool.false_eq_true, r7.2, ra.2, rb.2, rc.2, An_len, An_take]; with_reducible rfl), fun p hp => by cases hp; simp only [gt_st, full_st, hF, hA, reduceIte, Nat.reduceEqDiff, Nat.reduceLT, decide_true, decide_false, Bool.false_eq_true]; first | exact vEq_An | simp [vEq, vEq0, all2]⟩) | (rcases hq with rfl | rfl | rfl <;> exact ⟨_, _, _, rfl, (by simp (maxSteps := 1000000) (disch := (first | omega | (simp only [Heap.next_alloc, Heap.next_set]; omega))) only [D2, mm_max, mm_min, cells_alloc_at, cells_alloc_ne, cells_set_at, cells_set_ne, dop, dA, sets, yfield1, yfieldN, yfieldAddr, Int.reduceNegSucc, Int.reduceEq, Nat.reduceLeDiff, Nat.reduceSub, Nat.reduceAdd, gt_st, full_st, hF, hA, reduceIte, Nat.reduceEqDiff, Nat.reduceLT, decide_true, decide_false, Bool.false_eq_true, r7.2, ra.2, rb.2, rc.2, An_len, An_take]; with_reducible rfl), fun p hp => by cases hp; simp only [gt_st, full_st, hF, hA, reduceIte, Nat.reduceEqDiff, Nat.reduceLT, decide_true, decide_false, Bool.false_eq_true]; first | exact vEq_An | simp [vEq, vEq0, all2]⟩), fun _ q hq => by simp only [List.mem_cons, List.not_mem_nil, or_false] at hq; first | (subst hq; exact ⟨_, _, _, rfl, (by simp (maxSteps := 1000000) (disch := (first | omega | (simp only [Heap.next_alloc, Heap.next_set]; omega))) only [D2, mm_max, mm_min, cells_alloc_at, cells_alloc_ne, cells_set_at, cells_set_ne, dop, dA, sets, yfield1, yfieldN, yfieldAddr, Int.reduceNegSucc, Int.reduceEq, Nat.reduceLeDiff, Nat.reduceSub, Nat.reduceAdd, gt_st, full_st, hF, hA, reduceIte, Nat.reduceEqDiff, Nat.reduceLT, decide_true, decide_false, Bool.false_eq_true, c7.2, ca.2, cb.2, cc.2]; with_reducible rfl), fun p hp => by cases hp; simp only [gt_st, full_st, hF, hA, reduceIte, Nat.reduceEqDiff, Nat.reduceLT, decide_true, decide_false, Bool.false_eq_true]; first | exact vEq_An | simp [vEq, vEq0, all2]⟩) | (rcases hq with rfl | rfl <;> exact ⟨_, _, _, rfl, (by simp (maxSteps := 1000000) (disch := (first | omega | (simp only [Heap.next_alloc, Heap.next_set]; omega))) only [D2, mm_max, mm_min, cells_alloc_at, cells_alloc_ne, cells_set_at, cells_set_ne, dop, dA, sets, yfield1, yfieldN, yfieldAddr, Int.reduceNegSucc, Int.reduceEq, Nat.reduceLeDiff, Nat.reduceSub, Nat.reduceAdd, gt_st, full_st, hF, hA, reduceIte, Nat.reduceEqDiff, Nat.reduceLT, decide_true, decide_false, Bool.false_eq_true, c7.2, ca.2, cb.2, cc.2]; with_reducible rfl), fun p hp => by cases hp; simp only [gt_st, full_st, hF, hA, reduceIte, Nat.reduceEqDiff, Nat.reduceLT, decide_true, decide_false, Bool.false_eq_true]; first | exact vEq_An | simp [vEq, vEq0, all2]⟩) | (rcases hq with rfl | rfl | rfl <;> exact ⟨_, _, _, rfl, (by simp (maxSteps := 1000000) (disch := (first | omega | (simp only [Heap.next_alloc, Heap.next_set]; omega))) only [D2, mm_max, mm_min, cells_alloc_at, cells_alloc_ne, cells_set_at, cells_set_ne, dop, dA, sets, yfield1, yfieldN, yfieldAddr, Int.reduceNegSucc, Int.reduceEq, Nat.reduceLeDiff, Nat.reduceSub, Nat.reduceAdd, gt_st, full_st, hF, hA, reduceIte, Nat.reduceEqDiff, Nat.reduceLT, decide_true, decide_false, Bool.false_eq_true, c7.2, ca.2, cb.2, cc.2]; with_reducible rfl), fun p hp => by cases hp; simp only [gt_st, full_st, hF, hA, reduceIte, Nat.reduceEqDiff, Nat.reduceLT, decide_true, decide_false, Bool.false_eq_true]; first | exact vEq_An | simp [vEq, vEq0, all2]⟩)⟩
      exact ⟨rfl, rfl, (ga.trans gb).trans gc, (by intro i; simp only [full_st, hF]), (by simp only [Kn, gt_st, full_st, hF, hA, reduceIte, Nat.reduceEqDiff, Nat.reduceLT, decide_true, decide_false, Bool.false_eq_true, and_self, and_true, true_and]; try (repeat' constructor))⟩
    rintro e t m H8 ⟨rfl, rfl, g8, hF, hA⟩
    simp only [Kn, and_true] at hA
    have b8 := b7.grow g8
    have c8 := c7.grow g8
    have e8 := e7.grow g8
    have p8 := p7.grow g8
    have m8 := m7.grow g8
    have g8 := g7.trans g8
    have he8 := e8.1
    have hp8 := p8.1
    (repeat first | refine V.seq ?_ | refine V.block ?_ | refine V.scope ?_ | refine V.skip ?_ | refine V.close ?_)
    refine V.line' (by simp (maxSteps := 1000000) (disch := (first | omega | (simp only [Heap.next_alloc, Heap.next_set]; omega))) only [D2, mm_max, mm_min, cells_alloc_at, cells_alloc_ne, cells_set_at, cells_set_ne, dop, dA, sets, yfield1, yfieldN, yfieldAddr, Int.reduceNegSucc, Int.reduceEq, Nat.reduceLeDiff, Nat.reduceSub, Nat.reduceAdd, gt_st, full_st, hF, hA, reduceIte, Nat.reduceEqDiff, Nat.reduceLT, decide_true, decide_false, Bool.false_eq_true]; with_reducible rfl) ?_
    (repeat first | refine V.seq ?_ | refine V.block ?_ | refine V.scope ?_ | refine V.skip ?_ | refine V.close ?_)
    refine V.condP (by simp only [dA, gt_st, full_st, hF, hA, reduceIte, Nat.reduceEqDiff, Nat.reduceLT, decide_true, decide_false, Bool.false_eq_true]; rfl) (fun h6 => ?_) (fun h6 => ?_)
    · have h6' : ct (pp a b c d l[k]) 0 120 121 = 0 := by omega
      (repeat first | refine V.seq ?_ | refine V.block ?_ | refine V.scope ?_ | refine V.skip ?_ | refine V.close ?_)
      refine V.line' (by simp (maxSteps := 1000000) (disch := (first | omega | (simp only [Heap.next_alloc, Heap.next_set]; omega))) only [D2, mm_max, mm_min, cells_alloc_at, cells_alloc_ne, cells_set_at, cells_set_ne, dop, dA, sets, yfield1, yfieldN, yfieldAddr, Int.reduceNegSucc, Int.reduceEq, Nat.reduceLeDiff, Nat.reduceSub, Nat.reduceAdd, gt_st, full_st, hF, hA, reduceIte, Nat.reduceEqDiff, Nat.reduceLT, decide_true, decide_false, Bool.false_eq_true, e8.2]; with_reducible rfl) ?_
      (repeat first | refine V.seq ?_ | refine V.block ?_ | refine V.scope ?_ | refine V.skip ?_ | refine V.close ?_)
      refine V.ret (V.rets rfl (Or.inr ⟨by simp, V.rets rfl (Lv.retG (by simp (disch := (first | omega | (simp only [Heap.next_alloc, Heap.next_set]; omega))) only [D1, cells_alloc_at, cells_alloc_ne, cells_set_at, cells_set_ne, yres, yres1, yresL, Nat.reduceLeDiff, Nat.reduceSub, Nat.reduceAdd, gt_st, full_st, hF, hA, reduceIte, Nat.reduceEqDiff, Nat.reduceLT, decide_true, decide_false, Bool.false_eq_true]; rfl) ?_ ?_)⟩))
      · (repeat first | assumption | exact Grow.refl _ | refine Grow.alloc ?_ _ | refine Grow.set ?_ (by first | omega | (simp only [Heap.next_alloc, Heap.next_set]; omega)) _)
      · have : (l.any fun x => decide (ct (pp a b c d x) 0 120 121 = 0)) = true := List.any_eq_true.2 ⟨l[k], by simp, by simp [h6']⟩
        simp only [cw, if_neg (not_not_intro hv), if_neg h3', hall, hlo, hlh, hhi, and_self, not_true_eq_false, if_false, cw2, this, if_true]
    have h6' : ct (pp a b c d l[k]) 0 120 121 ≠ 0 := by omega
    have hf1 := filt_take (fun x => decide (ct (pp a b c d x) lo hi 121 = ct (pp a b c d x) 0 120 121)) hlt'
    have hf2 := filt_take (fun x => decide (0 < ct (pp a b c d x) lo hi 121)) hlt'
    simp only [decide_eq_true_eq] at hf1 hf2
    (repeat first | refine V.seq ?_ | refine V.block ?_ | refine V.scope ?_ | refine V.skip ?_ | refine V.close ?_)
    refine V.line' (by simp (maxSteps := 1000000) (disch := (first | omega | (simp only [Heap.next_alloc, Heap.next_set]; omega))) only [D2, mm_max, mm_min, cells_alloc_at, cells_alloc_ne, cells_set_at, cells_set_ne, dop, dA, sets, yfield1, yfieldN, yfieldAddr, Int.reduceNegSucc, Int.reduceEq, Nat.reduceLeDiff, Nat.reduceSub, Nat.reduceAdd, gt_st, full_st, hF, hA, reduceIte, Nat.reduceEqDiff, Nat.reduceLT, decide_true, decide_false, Bool.false_eq_true]; with_reducible rfl) ?_
    (repeat first | refine V.seq ?_ | refine V.block ?_ | refine V.scope ?_ | refine V.skip ?_ | refine V.close ?_)
    refine V.cut (fun e t m H' => e = .normal ∧ m = [] ∧ Grow H H' ∧ H8.next ≤ H'.next ∧ Bx H' H.next (R4 a b c d) 28 ∧ Bx H' (H.next + 1) (A2 lo hi) 48 ∧ Bx H' (H.next + 2) (A2 0 0) 48 ∧ Bx H' (H3.next + 1) (A2 (lowC (pp a b c d) lo hi (l.take (k + 1))) (highC (pp a b c d) lo hi (l.take k))) 48 ∧ Mp H' H3.next 115 es6 ∧ Full 69 t ∧ Kn [(3, .pointer (some ⟨H.next, 0, none⟩)), (5, .pointer (some ⟨H.next + 1, 0, none⟩)), (6, .pointer (some ⟨H.next + 2, 0, none⟩)), (8, .map (some H3.next)), (9, .pointer (some ⟨H3.next + 1, 0, none⟩)), (14, I (ct (pp a b c d l[k]) lo hi 121)), (34, v), (35, I l.length), (36, I k)] t) ?_ ?_
    · refine V.condP (by simp only [dA, gt_st, full_st, hF, hA, reduceIte, Nat.reduceEqDiff, Nat.reduceLT, decide_true, decide_false, Bool.false_eq_true]; rfl) (fun h7 => ?_) (fun h7 => ?_)
      · rw [if_pos (by omega)] at hf1
        (repeat first | refine V.seq ?_ | refine V.block ?_ | refine V.scope ?_ | refine V.skip ?_ | refine V.close ?_)
        refine V.line' (by simp (maxSteps := 1000000) (disch := (first | omega | (simp only [Heap.next_alloc, Heap.next_set]; omega))) only [D2, mm_max, mm_min, cells_alloc_at, cells_alloc_ne, cells_set_at, cells_set_ne, dop, dA, sets, yfield1, yfieldN, yfieldAddr, Int.reduceNegSucc, Int.reduceEq, Nat.reduceLeDiff, Nat.reduceSub, Nat.reduceAdd, gt_st, full_st, hF, hA, reduceIte, Nat.reduceEqDiff, Nat.reduceLT, decide_true, decide_false, Bool.false_eq_true, p8.2]; with_reducible rfl) ?_
        refine ⟨rfl, rfl, ?_, ?_, ?_, ?_, ?_, ?_, ?_, (by intro i; simp only [full_st, hF]), (by simp only [Kn, gt_st, full_st, hF, hA, reduceIte, Nat.reduceEqDiff, Nat.reduceLT, decide_true, decide_false, Bool.false_eq_true, and_self, and_true, true_and]; try (repeat' constructor))⟩
        · (repeat first | assumption | exact Grow.refl _ | refine Grow.alloc ?_ _ | refine Grow.set ?_ (by first | omega | (simp only [Heap.next_alloc, Heap.next_set]; omega)) _)
        · exact Nat.le_refl _
        · (repeat first | assumption | exact Bx.new _ _ _ | exact Bx.newAt (by first | omega | (simp only [Heap.next_alloc, Heap.next_set]; omega)) | refine Bx.put (by first | omega | (simp only [Heap.next_alloc, Heap.next_set]; omega)) _ _ | refine Bx.alloc ?_ _ | refine Bx.set ?_ (by first | omega | (simp only [Heap.next_alloc, Heap.next_set]; omega)) _)
        · (repeat first | assumption | exact Bx.new _ _ _ | exact Bx.newAt (by first | omega | (simp only [Heap.next_alloc, Heap.next_set]; omega)) | refine Bx.put (by first | omega | (simp only [Heap.next_alloc, Heap.next_set]; omega)) _ _ | refine Bx.alloc ?_ _ | refine Bx.set ?_ (by first | omega | (simp only [Heap.next_alloc, Heap.next_set]; omega)) _)
        · (repeat first | assumption | exact Bx.new _ _ _ | exact Bx.newAt (by first | omega | (simp only [Heap.next_alloc, Heap.next_set]; omega)) | refine Bx.put (by first | omega | (simp only [Heap.next_alloc, Heap.next_set]; omega)) _ _ | refine Bx.alloc ?_ _ | refine Bx.set ?_ (by first | omega | (simp only [Heap.next_alloc, Heap.next_set]; omega)) _)
        · rw [show lowC (pp a b c d) lo hi (l.take (k + 1)) = lowC (pp a b c d) lo hi (l.take k) + 1 from hf1]
          (repeat first | assumption | exact Bx.new _ _ _ | exact Bx.newAt (by first | omega | (simp only [Heap.next_alloc, Heap.next_set]; omega)) | refine Bx.put (by first | omega | (simp only [Heap.next_alloc, Heap.next_set]; omega)) _ _ | refine Bx.alloc ?_ _ | refine Bx.set ?_ (by first | omega | (simp only [Heap.next_alloc, Heap.next_set]; omega)) _)
        · exact m8.set (by omega) _
      · rw [if_neg (by omega)] at hf1
        (repeat first | refine V.seq ?_ | refine V.block ?_ | refine V.scope ?_ | refine V.skip ?_ | refine V.close ?_)
        refine ⟨rfl, rfl, g8, Nat.le_refl _, b8, c8, e8, ?_, m8, (by intro i; simp only [full_st, hF]), (by simp only [Kn, gt_st, full_st, hF, hA, reduceIte, Nat.reduceEqDiff, Nat.reduceLT, decide_true, decide_false, Bool.false_eq_true, and_self, and_true, true_and]; try (repeat' constructor))⟩
        rw [show lowC (pp a b c d) lo hi (l.take (k + 1)) = lowC (pp a b c d) lo hi (l.take k) from hf1]
        exact p8
    rintro e t m H9 ⟨rfl, rfl, g9, hn9, b9, c9, e9, p9, m9, hF, hA⟩
    simp only [Kn, and_true] at hA
    have he9 := e9.1
    have hp9 := p9.1
    (repeat first | refine V.seq ?_ | refine V.block ?_ | refine V.scope ?_ | refine V.skip ?_ | refine V.close ?_)
    refine V.line' (by simp (maxSteps := 1000000) (disch := (first | omega | (simp only [Heap.next_alloc, Heap.next_set]; omega))) only [D2, mm_max, mm_min, cells_alloc_at, cells_alloc_ne, cells_set_at, cells_set_ne, dop, dA, sets, yfield1, yfieldN, yfieldAddr, Int.reduceNegSucc, Int.reduceEq, Nat.reduceLeDiff, Nat.reduceSub, Nat.reduceAdd, gt_st, full_st, hF, hA, reduceIte, Nat.reduceEqDiff, Nat.reduceLT, decide_true, decide_false, Bool.false_eq_true]; with_reducible rfl) ?_
    (repeat first | refine V.seq ?_ | refine V.block ?_ | refine V.scope ?_ | refine V.skip ?_ | refine V.close ?_)
    refine V.cut (fun e t m H' => e = .normal ∧ m = [] ∧ Grow H H' ∧ H8.next ≤ H'.next ∧ Bx H' H.next (R4 a b c d) 28 ∧ Bx H' (H.next + 1) (A2 lo hi) 48 ∧ Bx H' (H.next + 2) (A2 0 0) 48 ∧ Bx H' (H3.next + 1) (A2 (lowC (pp a b c d) lo hi (l.take (k + 1))) (highC (pp a b c d) lo hi (l.take (k + 1)))) 48 ∧ Mp H' H3.next 115 es6 ∧ Full 69 t ∧ Kn [(3, .pointer (some ⟨H.next, 0, none⟩)), (5, .pointer (some ⟨H.next + 1, 0, none⟩)), (6, .pointer (some ⟨H.next + 2, 0, none⟩)), (8, .map (some H3.next)), (9, .pointer (some ⟨H3.next + 1, 0, none⟩)), (34, v), (35, I l.length), (36, I k)] t) ?_ ?_
    · refine V.condP (by simp only [dA, gt_st, full_st, hF, hA, reduceIte, Nat.reduceEqDiff, Nat.reduceLT, decide_true, decide_false, Bool.false_eq_true]; rfl) (fun h8 => ?_) (fun h8 => ?_)
      · rw [if_pos (by omega)] at hf2
        (repeat first | refine V.seq ?_ | refine V.block ?_ | refine V.scope ?_ | refine V.skip ?_ | refine V.close ?_)
        refine V.line' (by simp (maxSteps := 1000000) (disch := (first | omega | (simp only [Heap.next_alloc, Heap.next_set]; omega))) only [D2, mm_max, mm_min, cells_alloc_at, cells_alloc_ne, cells_set_at, cells_set_ne, dop, dA, sets, yfield1, yfieldN, yfieldAddr, Int.reduceNegSucc, Int.reduceEq, Nat.reduceLeDiff, Nat.reduceSub, Nat.reduceAdd, gt_st, full_st, hF, hA, reduceIte, Nat.reduceEqDiff, Nat.reduceLT, decide_true, decide_false, Bool.false_eq_true, p9.2]; with_reducible rfl) ?_
        refine ⟨rfl, rfl, ?_, hn9, ?_, ?_, ?_, ?_, ?_, (by intro i; simp only [full_st, hF]), (by simp only [Kn, gt_st, full_st, hF, hA, reduceIte, Nat.reduceEqDiff, Nat.reduceLT, decide_true, decide_false, Bool.false_eq_true, and_self, and_true, true_and]; try (repeat' constructor))⟩
        · (repeat first | assumption | exact Grow.refl _ | refine Grow.alloc ?_ _ | refine Grow.set ?_ (by first | omega | (simp only [Heap.next_alloc, Heap.next_set]; omega)) _)
        · (repeat first | assumption | exact Bx.new _ _ _ | exact Bx.newAt (by first | omega | (simp only [Heap.next_alloc, Heap.next_set]; omega)) | refine Bx.put (by first | omega | (simp only [Heap.next_alloc, Heap.next_set]; omega)) _ _ | refine Bx.alloc ?_ _ | refine Bx.set ?_ (by first | omega | (simp only [Heap.next_alloc, Heap.next_set]; omega)) _)
        · (repeat first | assumption | exact Bx.new _ _ _ | exact Bx.newAt (by first | omega | (simp only [Heap.next_alloc, Heap.next_set]; omega)) | refine Bx.put (by first | omega | (simp only [Heap.next_alloc, Heap.next_set]; omega)) _ _ | refine Bx.alloc ?_ _ | refine Bx.set ?_ (by first | omega | (simp only [Heap.next_alloc, Heap.next_set]; omega)) _)
        · (repeat first | assumption | exact Bx.new _ _ _ | exact Bx.newAt (by first | omega | (simp only [Heap.next_alloc, Heap.next_set]; omega)) | refine Bx.put (by first | omega | (simp only [Heap.next_alloc, Heap.next_set]; omega)) _ _ | refine Bx.alloc ?_ _ | refine Bx.set ?_ (by first | omega | (simp only [Heap.next_alloc, Heap.next_set]; omega)) _)
        · rw [show highC (pp a b c d) lo hi (l.take (k + 1)) = highC (pp a b c d) lo hi (l.take k) + 1 from hf2]
          (repeat first | assumption | exact Bx.new _ _ _ | exact Bx.newAt (by first | omega | (simp only [Heap.next_alloc, Heap.next_set]; omega)) | refine Bx.put (by first | omega | (simp only [Heap.next_alloc, Heap.next_set]; omega)) _ _ | refine Bx.alloc ?_ _ | refine Bx.set ?_ (by first | omega | (simp only [Heap.next_alloc, Heap.next_set]; omega)) _)
        · exact m9.set (by omega) _
      · rw [if_neg (by omega)] at hf2
        (repeat first | refine V.seq ?_ | refine V.block ?_ | refine V.scope ?_ | refine V.skip ?_ | refine V.close ?_)
        refine ⟨rfl, rfl, g9, hn9, b9, c9, e9, ?_, m9, (by intro i; simp only [full_st, hF]), (by simp only [Kn, gt_st, full_st, hF, hA, reduceIte, Nat.reduceEqDiff, Nat.reduceLT, decide_true, decide_false, Bool.false_eq_true, and_self, and_true, true_and]; try (repeat' constructor))⟩
        rw [show highC (pp a b c d) lo hi (l.take (k + 1)) = highC (pp a b c d) lo hi (l.take k) from hf2]
        exact p9
    rintro e t m Ha ⟨rfl, rfl, ga, hna, ba, ca, ea, pa, ma, hF, hA⟩
    simp only [Kn, and_true] at hA
    (repeat first | refine V.seq ?_ | refine V.block ?_ | refine V.scope ?_ | refine V.skip ?_ | refine V.close ?_)
    refine V.line' (by simp (maxSteps := 1000000) (disch := (first | omega | (simp only [Heap.next_alloc, Heap.next_set]; omega))) only [D2, mm_max, mm_min, cells_alloc_at, cells_alloc_ne, cells_set_at, cells_set_ne, dop, dA, sets, yfield1, yfieldN, yfieldAddr, Int.reduceNegSucc, Int.reduceEq, Nat.reduceLeDiff, Nat.reduceSub, Nat.reduceAdd, gt_st, full_st, hF, hA, reduceIte, Nat.reduceEqDiff, Nat.reduceLT, decide_true, decide_false, Bool.false_eq_true]; with_reducible rfl) ?_
    (repeat first | refine V.seq ?_ | refine V.block ?_ | refine V.scope ?_ | refine V.skip ?_ | refine V.close ?_)
    refine V.nil (Or.inl ⟨rfl, l.length - (k + 1), by omega, ?_⟩)
    refine ⟨k + 1, by omega, rfl, rfl, ?_, ga, pa.1, ba, ca, ea, pa, ⟨es6, ma, t6⟩, (by intro i; simp only [full_st, hF]), (by simp only [Kn, gt_st, full_st, hF, hA, reduceIte, Nat.reduceEqDiff, Nat.reduceLT, decide_true, decide_false, Bool.false_eq_true, and_self, and_true, true_and]; try (repeat' constructor))⟩
    intro x hx
    rw [List.take_succ_eq_append_getElem hlt'] at hx
    rcases List.mem_append.1 hx with hx | hx
    · exact hnz x hx
    · rw [List.mem_singleton.1 hx]; exact h6'
  · have hkl : l.take k = l := List.take_of_length_le (by omega)
    rw [hkl] at hnz p5
    have hp5 := p5.1
    refine V.exit ?_
    (repeat first | refine V.pass ?_ | refine V.here ?_ | refine V.out (by decide) ?_)
    refine V.nil (Or.inr ⟨by simp, ?_⟩)
    (repeat first | refine V.pass ?_ | refine V.here ?_ | refine V.out (by decide) ?_)
    (repeat first | refine V.seq ?_ | refine V.block ?_ | refine V.scope ?_ | refine V.skip ?_ | refine V.close ?_)
    refine V.line' (by simp (maxSteps := 1000000) (disch := (first | omega | (simp only [Heap.next_alloc, Heap.next_set]; omega))) only [D2, mm_max, mm_min, cells_alloc_at, cells_alloc_ne, cells_set_at, cells_set_ne, dop, dA, sets, yfield1, yfieldN, yfieldAddr, Int.reduceNegSucc, Int.reduceEq, Nat.reduceLeDiff, Nat.reduceSub, Nat.reduceAdd, gt_st, full_st, hF, hA, reduceIte, Nat.reduceEqDiff, Nat.reduceLT, decide_true, decide_false, Bool.false_eq_true, p5.2, e5.2]; with_reducible rfl) ?_
    (repeat first | refine V.seq ?_ | refine V.block ?_ | refine V.scope ?_ | refine V.skip ?_ | refine V.close ?_)
    refine V.ret (V.rets rfl (Lv.retG (by simp (disch := (first | omega | (simp only [Heap.next_alloc, Heap.next_set]; omega))) only [D1, cells_alloc_at, cells_alloc_ne, cells_set_at, cells_set_ne, yres, yres1, yresL, Nat.reduceLeDiff, Nat.reduceSub, Nat.reduceAdd, gt_st, full_st, hF, hA, reduceIte, Nat.reduceEqDiff, Nat.reduceLT, decide_true, decide_false, Bool.false_eq_true]; rfl) ?_ ?_))
    · (repeat first | assumption | exact Grow.refl _ | refine Grow.alloc ?_ _ | refine Grow.set ?_ (by first | omega | (simp only [Heap.next_alloc, Heap.next_set]; omega)) _)
    · have : ¬ (l.any fun x => decide (ct (pp a b c d x) 0 120 121 = 0)) = true := by
        intro h
        obtain ⟨x, hx, h⟩ := List.any_eq_true.1 h
        exact hnz x hx (by simpa using h)
      simp only [cw, if_neg (not_not_intro hv), if_neg h3', hall, hlo, hlh, hhi, and_self, not_true_eq_false, if_false, cw2, if_neg this]
end Go.Xe.TAX
