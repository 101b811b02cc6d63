/- What the statement MissConfident comes to. Conditions: none. -/
import Derived.Test.YtefoodhfkkcmcabTNI
import Derived.Test.YtefoodhfkkcmcabTNB
import Derived.Test.YtefoodhfkkcmcabTMT
-- MOD TM
namespace Go.Xe.TMX
open Go Go.Xe Go.Proofs Go.Xe.Mth
open Nat (reduceLeDiff reduceSub reduceAdd reduceEqDiff reduceLT)
open Int (reduceNegSucc reduceEq)
set_option maxRecDepth 100000
set_option maxHeartbeats 3200000
set_option linter.unusedSimpArgs false
theorem tot1 {z : Q4} {n q : Int} (h1 : arq z) (h2 : lv n q) : tot [z] n q = if lfq n q z = [] then (0, 0, 9) else (mn (lfq n q z), mx (lfq n q z), 0) := by
  unfold tot
  rw [if_neg (by simp), if_neg (by simpa using h1), if_neg (by simpa using h2)]
  by_cases h : lfq n q z = []
  · rw [if_pos ⟨z, by simp, h⟩, if_pos h]
  · rw [if_neg (by simpa using h), if_neg h]; simp
end Go.Xe.TMX
/- What the statement MissNobody comes to. Conditions: none. -/
-- MOD TM
namespace Go.Xe.TMX
open Go Go.Xe Go.Proofs Go.Xe.Mth
open Nat (reduceLeDiff reduceSub reduceAdd reduceEqDiff reduceLT)
open Int (reduceNegSucc reduceEq)
set_option maxRecDepth 100000
set_option maxHeartbeats 3200000
set_option linter.unusedSimpArgs false
theorem lfq_nat (a b c d n q : Nat) : lfq n q ((a : Int), (b : Int), (c : Int), (d : Int)) = leftL a b c d n q := by unfold lfq; simp only [Int.toNat_natCast]
end Go.Xe.TMX
/- What the statement MissLevels comes to. Conditions: none. -/
-- MOD TM
namespace Go.Xe.TMX
open Go Go.Xe Go.Proofs Go.Xe.Mth
open Nat (reduceLeDiff reduceSub reduceAdd reduceEqDiff reduceLT)
open Int (reduceNegSucc reduceEq)
set_option maxRecDepth 100000
set_option maxHeartbeats 3200000
set_option linter.unusedSimpArgs false
end Go.Xe.TMX
/- What the functions of the layer miss come to: which of two fractions is less. Conditions: none. -/
-- MOD TM
namespace Go.Xe.TMX
open Go Go.Xe Go.Proofs Go.Xe.Mth
open Nat (reduceLeDiff reduceSub reduceAdd reduceEqDiff reduceLT)
open Int (reduceNegSucc reduceEq)
set_option maxRecDepth 100000
set_option maxHeartbeats 3200000
set_option linter.unusedSimpArgs false
noncomputable def d32 : FCode := (.seq (.run (.go (.box 41 (.tmp (pth 0))) (pth 2)::
.go (.box 41 (.tmp (pth 1))) (pth 3)::
.go (.move (.con (.bool false))) (pth 4)::
[])) (.block 0 (.loop (.block 1 (.seq (.draw 12 (.go (.fieldAddr 0 (.tmp (pth 2))) (pth 9)::
.go (.load1 (.tmp (pth 9))) (pth 10)::
.go (.fieldAddr 1 (.tmp (pth 2))) (pth 11)::
.go (.load1 (.tmp (pth 11))) (pth 12)::
.go (.bin .quo 3 (.tmp (pth 10)) (.tmp (pth 12))) (pth 13)::
.go (.fieldAddr 0 (.tmp (pth 3))) (pth 14)::
.go (.load1 (.tmp (pth 14))) (pth 15)::
.go (.fieldAddr 1 (.tmp (pth 3))) (pth 16)::
.go (.load1 (.tmp (pth 16))) (pth 17)::
.go (.bin .quo 3 (.tmp (pth 15)) (.tmp (pth 17))) (pth 18)::
.go (.move (.tmp (pth 13))) (pth 5)::
.go (.move (.tmp (pth 18))) (pth 6)::
[]) [.ok,.ok,.ok,.ok,.ok,.ok,.ok,.ok,.ok,.ok,.ok,.ok]) (.seq (.seq (.run (.go (.move (.tmp (pth 5))) (pth 19)::
.go (.move (.tmp (pth 6))) (pth 20)::
.go (.bin .neq 3 (.tmp (pth 19)) (.tmp (pth 20))) (pth 21)::
[])) (.cond (.tmp (pth 21)) (.seq (.run (.go (.move (.tmp (pth 5))) (pth 22)::
.go (.move (.tmp (pth 6))) (pth 23)::
.go (.bin .lss 3 (.tmp (pth 22)) (.tmp (pth 23))) (pth 24)::
.go (.move (.tmp (pth 24))) (pth 4)::
[])) .ret) .skip)) (.seq (.draw 12 (.go (.fieldAddr 0 (.tmp (pth 2))) (pth 25)::
.go (.load1 (.tmp (pth 25))) (pth 26)::
.go (.fieldAddr 1 (.tmp (pth 2))) (pth 27)::
.go (.load1 (.tmp (pth 27))) (pth 28)::
.go (.bin .rem 3 (.tmp (pth 26)) (.tmp (pth 28))) (pth 29)::
.go (.fieldAddr 0 (.tmp (pth 3))) (pth 30)::
.go (.load1 (.tmp (pth 30))) (pth 31)::
.go (.fieldAddr 1 (.tmp (pth 3))) (pth 32)::
.go (.load1 (.tmp (pth 32))) (pth 33)::
.go (.bin .rem 3 (.tmp (pth 31)) (.tmp (pth 33))) (pth 34)::
.go (.move (.tmp (pth 29))) (pth 7)::
.go (.move (.tmp (pth 34))) (pth 8)::
[]) [.ok,.ok,.ok,.ok,.ok,.ok,.ok,.ok,.ok,.ok,.ok,.ok]) (.seq (.seq (.run (.go (.move (.tmp (pth 7))) (pth 35)::
.go (.bin .eql 3 (.tmp (pth 35)) (.con (.int .i64 (.ofNat 0)))) (pth 36)::
.go (.move (.tmp (pth 36))) (pth 37)::
.gd (pth 37) false (.move (.tmp (pth 8))) (pth 38)::
.gd (pth 37) false (.bin .eql 3 (.tmp (pth 38)) (.con (.int .i64 (.ofNat 0)))) (pth 39)::
.go (.pick (.tmp (pth 37)) (.con (.bool true)) (.tmp (pth 39))) (pth 40)::
[])) (.cond (.tmp (pth 40)) (.seq (.run (.go (.move (.tmp (pth 7))) (pth 41)::
.go (.bin .eql 3 (.tmp (pth 41)) (.con (.int .i64 (.ofNat 0)))) (pth 42)::
.go (.move (.tmp (pth 42))) (pth 43)::
.gd (pth 43) true (.move (.tmp (pth 8))) (pth 44)::
.gd (pth 43) true (.bin .gtr 3 (.tmp (pth 44)) (.con (.int .i64 (.ofNat 0)))) (pth 45)::
.go (.pick (.tmp (pth 43)) (.tmp (pth 45)) (.con (.bool false))) (pth 46)::
.go (.move (.tmp (pth 46))) (pth 4)::
[])) .ret) .skip)) (.run (.go (.fieldAddr 1 (.tmp (pth 3))) (pth 47)::
.go (.load1 (.tmp (pth 47))) (pth 48)::
.go (.move (.tmp (pth 8))) (pth 49)::
.go (.build [(.int .i64 (.ofNat 0)),(.int .i64 (.ofNat 0))] [(0,1,(.tmp (pth 48))),(1,1,(.tmp (pth 49)))]) (pth 50)::
.go (.fieldAddr 1 (.tmp (pth 2))) (pth 51)::
.go (.load1 (.tmp (pth 51))) (pth 52)::
.go (.move (.tmp (pth 7))) (pth 53)::
.go (.build [(.int .i64 (.ofNat 0)),(.int .i64 (.ofNat 0))] [(0,1,(.tmp (pth 52))),(1,1,(.tmp (pth 53)))]) (pth 54)::
.un (.store 2 (.tmp (pth 2)) (.tmp (pth 50)))::
.un (.store 2 (.tmp (pth 3)) (.tmp (pth 54)))::
[]))))))))))
theorem de32 : @compF Try.prog (Gl.none Try.prog) Try.f32 2 = .mk d32 (mkTT 55) [(pth 0),(pth 1)] [.tmp (pth 4)] := by kernel_rfl
theorem dg32 : Try.prog.funcs[32]? = some Try.f32 := Try.func32
theorem do32 : okF Try.prog Try.f32 = true := by kernel_rfl
theorem less_eqs {p w n q : Nat} (hw : 0 < w) (hq : 0 < q) : (p / w < n / q → p * q < n * w) ∧ (n / q < p / w → ¬ p * q < n * w) ∧ (p / w = n / q → (p * q < n * w ↔ (p % w) * q < (n % q) * w)) := by
  have a1 := Nat.div_add_mod p w
  have a2 := Nat.div_add_mod n q
  have b1 := Nat.mod_lt p hw
  have b2 := Nat.mod_lt n hq
  generalize p / w = x at *
  generalize p % w = r at *
  generalize n / q = y at *
  generalize n % q = s at *
  have e1 : p * q = w * q * x + r * q := by rw [← a1, Nat.add_mul, Nat.mul_right_comm]
  have e2 : n * w = w * q * y + s * w := by rw [← a2, Nat.add_mul, Nat.mul_right_comm, Nat.mul_comm q w]
  have h1 : r * q < w * q := Nat.mul_lt_mul_of_pos_right b1 hq
  have h2 : s * w < w * q := by have := Nat.mul_lt_mul_of_pos_right b2 hw; rw [Nat.mul_comm q w] at this; exact this
  generalize w * q = P at *
  refine ⟨fun h => ?_, fun h => ?_, fun h => ?_⟩
  · have := Nat.mul_le_mul_left P h
    rw [Nat.mul_succ] at this
    omega
  · have := Nat.mul_le_mul_left P h
    rw [Nat.mul_succ] at this
    omega
  · subst h; omega
theorem f32_ok {p w n q : Nat} (hw : 0 < w) (hq : 0 < q) (hp2 : p ≤ 4611686018427387904) (hw2 : w ≤ 4611686018427387904) (hn2 : n ≤ 4611686018427387904) (hq2 : q ≤ 4611686018427387904) (H : Heap) : Gives Try.prog 32 [.agg ⟨A2 p w⟩, .agg ⟨A2 n q⟩] H (.bool (decide (p * q < n * w))) := by
  refine F.entryL rfl dg32 do32 de32 rfl (by kernel_rfl) ?_
  simp only [sets]
  refine V.re [(0, .agg ⟨A2 p w⟩), (1, .agg ⟨A2 n q⟩)] (N := 55) (by intro i; simp only [full_st, Full.mk]) (by simp only [Kn, gt_st, full_st, Full.mk, ↓reduceIte, reduceEqDiff, reduceLT, decide_true, and_self]) ?_
  intro t hF hA
  simp only [Kn, and_true] at hA
  (repeat first|apply V.seq|apply V.block|apply V.scope|apply V.skip|apply V.close)
  refine V.line' (by simp +contextual (disch := first|omega|simp only [nx];omega) only [D4,reduceNegSucc,reduceEq,reduceLeDiff,reduceSub,reduceAdd,D5,hF,hA,↓reduceIte,reduceEqDiff,reduceLT]; with_reducible rfl) ?_
  refine V.heap (fun X => Grow H X ∧ Bx X H.next (A2 p w) 41 ∧ Bx X (H.next + 1) (A2 n q) 41) ⟨?_, ?_⟩ ?_
  · (repeat first | assumption | exact Grow.refl _ | refine Grow.alloc ?_ _ | refine Grow.set ?_ (by first|omega|simp only [nx];omega) _)
  · exact ⟨by (repeat first | assumption | exact Bx.new _ _ _ | exact Bx.newAt (by first|omega|simp only [nx];omega) | refine Bx.put (by first|omega|simp only [nx];omega) _ _ | refine Bx.alloc ?_ _ | refine Bx.set ?_ (by first|omega|simp only [nx];omega) _), by (repeat first | assumption | exact Bx.new _ _ _ | exact Bx.newAt (by first|omega|simp only [nx];omega) | refine Bx.put (by first|omega|simp only [nx];omega) _ _ | refine Bx.alloc ?_ _ | refine Bx.set ?_ (by first|omega|simp only [nx];omega) _)⟩
  rintro H1 ⟨g1, b1, c1⟩
  (repeat first|apply V.seq|apply V.block|apply V.scope|apply V.skip|apply V.close)
  refine V.loop (fun k t m X => ∃ (p1 w1 n1 q1 : Nat), 0 < w1 ∧ 0 < q1 ∧ p1 ≤ 4611686018427387904 ∧ w1 ≤ 4611686018427387904 ∧ n1 ≤ 4611686018427387904 ∧ q1 ≤ 4611686018427387904 ∧ (p1 * q1 < n1 * w1 ↔ p * q < n * w) ∧ k = w1 + q1 ∧ m = [] ∧ Grow H X ∧ Bx X H.next (A2 p1 w1) 41 ∧ Bx X (H.next + 1) (A2 n1 q1) 41 ∧ Full 55 t ∧ Kn [(2, PT H.next), (3, PT (H.next + 1))] t) (w + q) ?_ ?_
  · exact ⟨p, w, n, q, hw, hq, hp2, hw2, hn2, hq2, Iff.rfl, rfl, rfl, g1, b1, c1, (by intro i; simp only [full_st, hF]), (by simp only [Kn, D5,hF,hA,↓reduceIte,reduceEqDiff,reduceLT, and_self, and_true, true_and]; try (repeat' constructor))⟩
  clear hF hA
  rintro k t m X ⟨p1, w1, n1, q1, hw, hq, hp2, hw2, hn2, hq2, hiff, rfl, rfl, hg, bx, cx, hF, hA⟩
  simp only [Kn, and_true] at hA
  have d1 : (p1 : Int).tdiv w1 = ((p1 / w1 : Nat) : Int) := by rw [Int.ofNat_tdiv]
  have d2 : (n1 : Int).tdiv q1 = ((n1 / q1 : Nat) : Int) := by rw [Int.ofNat_tdiv]
  have d3 : (p1 : Int).tmod w1 = ((p1 % w1 : Nat) : Int) := by rw [Int.ofNat_tmod]
  have d4 : (n1 : Int).tmod q1 = ((n1 % q1 : Nat) : Int) := by rw [Int.ofNat_tmod]
  have l1 := Nat.div_le_self p1 w1
  have l2 := Nat.div_le_self n1 q1
  have z1 : ¬ ((w1 : Int) = 0) := by omega
  have z2 : ¬ ((q1 : Int) = 0) := by omega
  have ml1 := Nat.mod_lt p1 hw
  have ml2 := Nat.mod_lt n1 hq
  obtain ⟨k1, k2, k3⟩ := less_eqs (p := p1) (w := w1) (n := n1) (q := q1) hw hq
  (repeat first|apply V.seq|apply V.block|apply V.scope|apply V.skip|apply V.close)
  refine V.lineD' (by simp +contextual (disch := first|omega|simp only [nx];omega) only [D4,reduceNegSucc,reduceEq,reduceLeDiff,reduceSub,reduceAdd,D5,hF,hA,↓reduceIte,reduceEqDiff,reduceLT, bx.2, cx.2, d1, d2, z1, z2]; with_reducible rfl) ?_ ?_ rfl ?_
  · simp only [monoG, List.cons_append, List.nil_append, Heap.next_set, Heap.next_alloc, Nat.le_refl, true_and, and_true] <;> omega
  · simp only [dcAll, dcOk, wantD, List.cons_append, List.nil_append, true_and, and_true]
  generalize hx : p1 / w1 = x at *
  generalize hy : n1 / q1 = y at *
  (repeat first|apply V.seq|apply V.block|apply V.scope|apply V.skip|apply V.close)
  refine V.line' (by simp +contextual (disch := first|omega|simp only [nx];omega) only [D4,reduceNegSucc,reduceEq,reduceLeDiff,reduceSub,reduceAdd,D5,hF,hA,↓reduceIte,reduceEqDiff,reduceLT, ne_eq]; with_reducible rfl) ?_
  (repeat first|apply V.seq|apply V.block|apply V.scope|apply V.skip|apply V.close)
  refine V.condP (by simp only [D6,D5,hF,hA,↓reduceIte,reduceEqDiff,reduceLT]; rfl) (fun hne => ?_) (fun hne => ?_)
  · (repeat first|apply V.seq|apply V.block|apply V.scope|apply V.skip|apply V.close)
    refine V.line' (by simp +contextual (disch := first|omega|simp only [nx];omega) only [D4,reduceNegSucc,reduceEq,reduceLeDiff,reduceSub,reduceAdd,D5,hF,hA,↓reduceIte,reduceEqDiff,reduceLT]; with_reducible rfl) ?_
    (repeat first|apply V.seq|apply V.block|apply V.scope|apply V.skip|apply V.close)
    refine V.ret (V.rets rfl (Or.inr ⟨by simp, V.rets rfl (Lv.retG (by simp +contextual (disch := first|omega|simp only [nx];omega) only [D1, cells_alloc_at, cells_alloc_ne, cells_set_at, cells_set_ne, yres, yres1, yresL, reduceLeDiff, reduceSub, reduceAdd, D5,hF,hA,↓reduceIte,reduceEqDiff,reduceLT]; rfl) ?_ ?_)⟩))
    · exact hg
    · congr 1
      rcases Nat.lt_or_gt_of_ne (show x ≠ y by omega) with hlt | hgt
      · have := k1 hlt
        rw [decide_eq_true (hiff.1 this)]
        exact decide_eq_true (by omega)
      · have := k2 hgt
        rw [decide_eq_false (fun h => this (hiff.2 h))]
        exact decide_eq_false (by omega)
  have hxy : x = y := by omega
  have k4 := k3 hxy
  (repeat first|apply V.seq|apply V.block|apply V.scope|apply V.skip|apply V.close)
  refine V.re [(2, PT H.next), (3, PT (H.next + 1))] (N := 55) (by intro i; simp only [full_st, hF]) (by simp only [Kn, D5,hF,hA,↓reduceIte,reduceEqDiff,reduceLT, and_self, and_true, true_and]; try (repeat' constructor)) ?_
  clear hF hA
  intro t hF hA
  simp only [Kn, and_true] at hA
  refine V.lineD' (by simp +contextual (disch := first|omega|simp only [nx];omega) only [D4,reduceNegSucc,reduceEq,reduceLeDiff,reduceSub,reduceAdd,D5,hF,hA,↓reduceIte,reduceEqDiff,reduceLT, bx.2, cx.2, d3, d4, z1, z2]; with_reducible rfl) ?_ ?_ rfl ?_
  · simp only [monoG, List.cons_append, List.nil_append, Heap.next_set, Heap.next_alloc, Nat.le_refl, true_and, and_true] <;> omega
  · simp only [dcAll, dcOk, wantD, List.cons_append, List.nil_append, true_and, and_true]
  generalize hr : p1 % w1 = r at *
  generalize hs : n1 % q1 = s at *
  (repeat first|apply V.seq|apply V.block|apply V.scope|apply V.skip|apply V.close)
  refine V.line' (by simp +contextual (disch := first|omega|simp only [nx];omega) only [D4,reduceNegSucc,reduceEq,reduceLeDiff,reduceSub,reduceAdd,D5,hF,hA,↓reduceIte,reduceEqDiff,reduceLT]; with_reducible rfl) ?_
  (repeat first|apply V.seq|apply V.block|apply V.scope|apply V.skip|apply V.close)
  refine V.condP (by simp only [D6,D5,hF,hA,↓reduceIte,reduceEqDiff,reduceLT]; rfl) (fun hz => ?_) (fun hz => ?_)
  · (repeat first|apply V.seq|apply V.block|apply V.scope|apply V.skip|apply V.close)
    refine V.line' (by simp +contextual (disch := first|omega|simp only [nx];omega) only [D4,reduceNegSucc,reduceEq,reduceLeDiff,reduceSub,reduceAdd,D5,hF,hA,↓reduceIte,reduceEqDiff,reduceLT]; with_reducible rfl) ?_
    (repeat first|apply V.seq|apply V.block|apply V.scope|apply V.skip|apply V.close)
    refine V.ret (V.rets rfl (Or.inr ⟨by simp, V.rets rfl (Lv.retG (by simp +contextual (disch := first|omega|simp only [nx];omega) only [D1, cells_alloc_at, cells_alloc_ne, cells_set_at, cells_set_ne, yres, yres1, yresL, reduceLeDiff, reduceSub, reduceAdd, D5,hF,hA,↓reduceIte,reduceEqDiff,reduceLT]; rfl) ?_ ?_)⟩))
    · exact hg
    · congr 1
      by_cases hr0 : r = 0
      · subst hr0
        by_cases hs0 : s = 0
        · subst hs0
          have : ¬ p * q < n * w := fun h => by have := k4.1 (hiff.2 h); simp at this
          rw [decide_eq_false this]
          exact decide_eq_false (by omega)
        · have : p * q < n * w := hiff.1 (k4.2 (by rw [Nat.zero_mul]; exact Nat.mul_pos (by omega) hw))
          rw [decide_eq_true this]
          exact decide_eq_true (by omega)
      · have hs0 : s = 0 := by omega
        subst hs0
        have : ¬ p * q < n * w := fun h => by have := k4.1 (hiff.2 h); simp at this
        rw [decide_eq_false this]
        exact decide_eq_false (by omega)
  (repeat first|apply V.seq|apply V.block|apply V.scope|apply V.skip|apply V.close)
  refine V.line' (by simp +contextual (disch := first|omega|simp only [nx];omega) only [D4,reduceNegSucc,reduceEq,reduceLeDiff,reduceSub,reduceAdd,D5,hF,hA,↓reduceIte,reduceEqDiff,reduceLT, bx.2, cx.2]; with_reducible rfl) ?_
  refine V.heap (fun Y => Grow H Y ∧ Bx Y H.next (A2 q1 s) 41 ∧ Bx Y (H.next + 1) (A2 w1 r) 41) ⟨?_, ?_, ?_⟩ ?_
  · (repeat first | assumption | exact Grow.refl _ | refine Grow.alloc ?_ _ | refine Grow.set ?_ (by first|omega|simp only [nx];omega) _)
  · have := bx.1
    have := cx.1
    (repeat first | assumption | exact Bx.new _ _ _ | exact Bx.newAt (by first|omega|simp only [nx];omega) | refine Bx.put (by first|omega|simp only [nx];omega) _ _ | refine Bx.alloc ?_ _ | refine Bx.set ?_ (by first|omega|simp only [nx];omega) _)
  · have := bx.1
    have := cx.1
    (repeat first | assumption | exact Bx.new _ _ _ | exact Bx.newAt (by first|omega|simp only [nx];omega) | refine Bx.put (by first|omega|simp only [nx];omega) _ _ | refine Bx.alloc ?_ _ | refine Bx.set ?_ (by first|omega|simp only [nx];omega) _)
  rintro Y ⟨gy, by1, cy1⟩
  (repeat first|apply V.seq|apply V.block|apply V.scope|apply V.skip|apply V.close)
  refine V.nil (Or.inl ⟨rfl, s + r, by omega, ?_⟩)
  refine ⟨q1, s, w1, r, by omega, by omega, hq2, by omega, hw2, by omega, ?_, rfl, rfl, gy, by1, cy1, (by intro i; simp only [full_st, hF]), (by simp only [Kn, D5,hF,hA,↓reduceIte,reduceEqDiff,reduceLT, and_self, and_true, true_and]; try (repeat' constructor))⟩
  rw [← hiff, k4, Nat.mul_comm q1, Nat.mul_comm w1]
end Go.Xe.TMX
/- The chance of at most so many found persons rises with the number of missed ones, and that of at least so many falls. Conditions: none. -/
namespace Go.Xe.TMX
open Go Go.Xe Go.Proofs Go.Xe.Mth
theorem ch_e (n i : Nat) : (i + 1) * ch n (i + 1) + i * ch n i = n * ch n i := by
  have h1 := ch_absorb n i
  rw [ch_ss, Nat.mul_add, Nat.add_mul i 1 (ch n i), Nat.one_mul, Nat.add_mul n 1, Nat.one_mul] at h1
  omega
theorem low_id (a u k : Nat) : ∀ d, d ≤ k → (k + 1) * psum a u (k + 1) 0 (d + 1) + k * psum a u k 0 (d + 1) + (d + 1) * ch a (d + 1) * ch u (k - d) = (a + u) * psum a u k 0 (d + 1)
  | 0, _ => by
    have e1 := ch_e u k
    have e2 := ch_e a 0
    rw [psum_1, psum_1]
    unfold part
    rw [ch_z, Nat.sub_zero, Nat.sub_zero, Nat.one_mul, Nat.one_mul, Nat.add_mul a u]
    rw [ch_z] at e2
    have e3 : (0 + 1) * ch a (0 + 1) = a := by omega
    rw [e3]
    omega
  | d + 1, h => by
    have ih := low_id a u k d (by omega)
    obtain ⟨j, rfl⟩ : ∃ j, k = j + d + 1 := ⟨k - d - 1, by omega⟩
    have s1 : j + d + 1 - d = j + 1 := by omega
    have s2 : j + d + 1 - (d + 1) = j := by omega
    rw [s1] at ih
    rw [s2, psum_s, psum_s a u _ 0 (d + 1), Nat.zero_add]
    have p1 : part a u (j + d + 1 + 1) (d + 1) = ch a (d + 1) * ch u (j + 1) := by unfold part; rw [show j + d + 1 + 1 - (d + 1) = j + 1 by omega]
    have p2 : part a u (j + d + 1) (d + 1) = ch a (d + 1) * ch u j := by unfold part; rw [show j + d + 1 - (d + 1) = j by omega]
    rw [p1, p2]
    have e1 := congrArg (ch a (d + 1) * ·) (ch_e u j)
    have e2 := congrArg (· * ch u j) (ch_e a (d + 1))
    generalize psum a u (j + d + 1 + 1) 0 (d + 1) = P at *
    generalize psum a u (j + d + 1) 0 (d + 1) = Q at *
    generalize ch a (d + 1 + 1) = X' at *
    generalize ch a (d + 1) = X at *
    generalize ch u (j + 1) = Y' at *
    generalize ch u j = Y at *
    have f1 : ∀ m : Nat, m * X * Y = m * (X * Y) := fun m => Nat.mul_assoc _ _ _
    have f2 : ∀ m : Nat, m * X * Y' = m * (X * Y') := fun m => Nat.mul_assoc _ _ _
    have f3 : ∀ m : Nat, m * X' * Y = m * (X' * Y) := fun m => Nat.mul_assoc _ _ _
    have g1 : ∀ m : Nat, X * (m * Y) = m * (X * Y) := fun m => Nat.mul_left_comm _ _ _
    have g2 : ∀ m : Nat, X * (m * Y') = m * (X * Y') := fun m => Nat.mul_left_comm _ _ _
    rw [Nat.mul_add, g1, g1, g2] at e1
    rw [Nat.add_mul, f1, f1, f3] at e2
    rw [f2] at ih
    rw [f3]
    generalize X * Y = A at *
    generalize X * Y' = B at *
    generalize X' * Y = C at *
    simp only [Nat.mul_add, Nat.add_mul, Nat.one_mul] at *
    omega
theorem ch_cross {k L L' N W W' : Nat} (h1 : (k + 1) * L' + k * L ≤ N * L) (h2 : (k + 1) * W' + k * W = N * W) : L' * W ≤ L * W' := by
  have a1 := Nat.mul_le_mul_right W h1
  have a2 := congrArg (L * ·) h2
  have e1 : N * L * W = L * (N * W) := by rw [Nat.mul_right_comm, Nat.mul_comm L, Nat.mul_assoc]
  rw [e1, ← a2, Nat.add_mul, Nat.mul_add] at a1
  have e2 : k * L * W = L * (k * W) := by rw [Nat.mul_assoc, Nat.mul_left_comm]
  have e3 : (k + 1) * L' * W = (k + 1) * (L' * W) := Nat.mul_assoc _ _ _
  have e4 : L * ((k + 1) * W') = (k + 1) * (L * W') := Nat.mul_left_comm _ _ _
  rw [e2, e3, e4] at a1
  exact Nat.le_of_mul_le_mul_left (show (k + 1) * (L' * W) ≤ (k + 1) * (L * W') by omega) (by omega)
theorem psum_up (a u k : Nat) : ∀ m, m ≤ k + 1 → psum a (u + 1) (k + 1) 0 m = psum a u (k + 1) 0 m + psum a u k 0 m
  | 0, _ => rfl
  | m + 1, h => by
    rw [psum_s, psum_s, psum_s, psum_up a u k m (by omega), Nat.zero_add]
    have e : part a (u + 1) (k + 1) m = part a u (k + 1) m + part a u k m := by
      unfold part
      obtain ⟨j, rfl⟩ : ∃ j, k = j + m := ⟨k - m, by omega⟩
      have s1 : j + m + 1 - m = j + 1 := by omega
      have s2 : j + m - m = j := by omega
      rw [s1, s2, ch_ss, Nat.mul_add, Nat.add_comm]
    rw [e]; omega
theorem low_rises {a u c d : Nat} (hd : d ≤ c) : psum a u c 0 (d + 1) * ch (a + u + 1) c ≤ psum a (u + 1) c 0 (d + 1) * ch (a + u) c := by
  rcases Nat.eq_or_lt_of_le hd with rfl | hlt
  · rw [psum_all, psum_all]
    have e : a + (u + 1) = a + u + 1 := rfl
    rw [e, Nat.mul_comm]
    exact Nat.le_refl _
  · obtain ⟨k, rfl⟩ : ∃ k, c = k + 1 := ⟨c - 1, by omega⟩
    rw [psum_up a u k (d + 1) (by omega), ch_ss, Nat.mul_add, Nat.add_mul]
    have h1 := low_id a u k d (by omega)
    have h2 := ch_e (a + u) k
    have h3 := ch_cross (k := k) (L := psum a u k 0 (d + 1)) (L' := psum a u (k + 1) 0 (d + 1)) (N := a + u) (W := ch (a + u) k) (W' := ch (a + u) (k + 1)) (by omega) h2
    omega
theorem psum_split (a u c d : Nat) (h : d ≤ c) : psum a u c 0 d + psum a u c d (c + 1 - d) = ch (a + u) c := by
  have s1 := sm_shift (fun f => part a u c (0 + f)) d (c + 1 - d)
  rw [← psum_all]
  have e : d + (c + 1 - d) = c + 1 := by omega
  rw [e] at s1
  unfold psum
  rw [s1]
  simp only [Nat.zero_add]
theorem up_falls {a u c d : Nat} (hd : d ≤ c) : psum a (u + 1) c d (c + 1 - d) * ch (a + u) c ≤ psum a u c d (c + 1 - d) * ch (a + u + 1) c := by
  have h1 := psum_split a u c d hd
  have h2 := psum_split a (u + 1) c d hd
  have e : a + (u + 1) = a + u + 1 := rfl
  rw [e] at h2
  have h3 : psum a u c 0 d * ch (a + u + 1) c ≤ psum a (u + 1) c 0 d * ch (a + u) c := by
    cases d with
    | zero => simp [psum, sm]
    | succ d => exact low_rises (by omega)
  have a1 := congrArg (· * ch (a + u + 1) c) h1
  have a2 := congrArg (· * ch (a + u) c) h2
  simp only [Nat.add_mul] at a1 a2
  rw [Nat.mul_comm (ch (a + u + 1) c)] at a2
  omega
theorem below_low {a u c d n q : Nat} (hd : d ≤ c) (hc : c ≤ a) (h : below (psum a (u + 1) c 0 (d + 1)) (ch (a + (u + 1)) c) n q = true) : below (psum a u c 0 (d + 1)) (ch (a + u) c) n q = true := by
  have h1 := of_decide_eq_true h
  refine decide_eq_true ?_
  have h2 := low_rises (a := a) (u := u) hd
  have p1 := ch_pos (n := a + u) (k := c) (by omega)
  have e : a + (u + 1) = a + u + 1 := rfl
  rw [e] at h1
  have p2 := ch_pos (n := a + u + 1) (k := c) (by omega)
  generalize psum a u c 0 (d + 1) = L at *
  generalize psum a (u + 1) c 0 (d + 1) = L' at *
  generalize ch (a + u) c = W at *
  generalize ch (a + u + 1) c = W' at *
  have a1 := Nat.mul_lt_mul_of_pos_right h1 p1
  have a2 := Nat.mul_le_mul_right q h2
  refine Nat.lt_of_mul_lt_mul_right (a := W') ?_
  have e1 : L * q * W' = L * W' * q := Nat.mul_right_comm _ _ _
  have e2 : L' * q * W = L' * W * q := Nat.mul_right_comm _ _ _
  have e3 : n * W' * W = n * W * W' := Nat.mul_right_comm _ _ _
  omega
theorem below_up {a u c d n q : Nat} (hd : d ≤ c) (hc : c ≤ a) (h : below (psum a u c d (c + 1 - d)) (ch (a + u) c) n q = true) : below (psum a (u + 1) c d (c + 1 - d)) (ch (a + (u + 1)) c) n q = true := by
  have h1 := of_decide_eq_true h
  refine decide_eq_true ?_
  have h2 := up_falls (a := a) (u := u) hd
  have p1 := ch_pos (n := a + u) (k := c) (by omega)
  have e : a + (u + 1) = a + u + 1 := rfl
  rw [e]
  have p2 := ch_pos (n := a + u + 1) (k := c) (by omega)
  generalize psum a u c d (c + 1 - d) = L at *
  generalize psum a (u + 1) c d (c + 1 - d) = L' at *
  generalize ch (a + u) c = W at *
  generalize ch (a + u + 1) c = W' at *
  have a1 := Nat.mul_lt_mul_of_pos_right h1 p2
  have a2 := Nat.mul_le_mul_right q h2
  refine Nat.lt_of_mul_lt_mul_right (a := W) ?_
  have e1 : L * q * W' = L * W' * q := Nat.mul_right_comm _ _ _
  have e2 : L' * q * W = L' * W * q := Nat.mul_right_comm _ _ _
  have e3 : n * W' * W = n * W * W' := Nat.mul_right_comm _ _ _
  omega
theorem below_low_le {a c d n q : Nat} (hd : d ≤ c) (hc : c ≤ a) {u v : Nat} (huv : u ≤ v) : below (psum a v c 0 (d + 1)) (ch (a + v) c) n q = true → below (psum a u c 0 (d + 1)) (ch (a + u) c) n q = true := by
  induction huv with
  | refl => exact id
  | step _ ih => exact fun h => ih (below_low hd hc h)
theorem below_up_le {a c d n q : Nat} (hd : d ≤ c) (hc : c ≤ a) {u v : Nat} (huv : u ≤ v) : below (psum a u c d (c + 1 - d)) (ch (a + u) c) n q = true → below (psum a v c d (c + 1 - d)) (ch (a + v) c) n q = true := by
  induction huv with
  | refl => exact id
  | step _ ih => exact fun h => below_up hd hc (ih h)
theorem left_range {a b c d n q u : Nat} (hd : d ≤ c) (hc : c ≤ a) (hu : u ≤ b) (hne : leftL a b c d n q ≠ []) : exc a u c d n q = true ↔ ((u : Int) < mn (leftL a b c d n q) ∨ mx (leftL a b c d n q) < u) := by
  obtain ⟨x, hx, hxb, hxe⟩ := leftL_mem.1 (mn_mem hne)
  obtain ⟨y, hy, hyb, hye⟩ := leftL_mem.1 (mx_mem hne)
  constructor
  · intro he
    unfold exc at he hxe hye
    rw [Bool.or_eq_true] at he
    rw [Bool.or_eq_false_iff] at hxe hye
    rcases he with he | he
    · left
      rw [hx]
      refine Int.ofNat_lt.2 (Nat.lt_of_not_le fun hle => ?_)
      rw [below_low_le hd hc hle he] at hxe
      exact absurd hxe.1 (by simp)
    · right
      rw [hy]
      refine Int.ofNat_lt.2 (Nat.lt_of_not_le fun hle => ?_)
      rw [below_up_le hd hc hle he] at hye
      exact absurd hye.2 (by simp)
  · intro h
    cases he : exc a u c d n q with
    | true => rfl
    | false =>
      have hm : (u : Int) ∈ leftL a b c d n q := leftL_mem.2 ⟨u, rfl, hu, he⟩
      have h1 := mn_le hm
      have h2 := mx_ge hm
      omega
end Go.Xe.TMX
