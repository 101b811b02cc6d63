/- What the statement MissConfident comes to. Conditions: none. -/
import Derived.Test.YtglkpemncjoefaaTNI
import Derived.Test.YtglkpemncjoefaaTNB
-- MOD TM
namespace Go.Xe.TMX
open Go Go.Xe Go.Proofs Go.Xe.Mth
open Nat renaming reduceLeDiff → qA, reduceSub → qB, reduceAdd → qC, reduceEqDiff → qD, reduceLT → qE
open Int renaming reduceNegSucc → qF, reduceEq → qG
open Go.Xe.V renaming seq → sA, block → sB, scope → sC, skip → sD, close → sE
open Go.Xe renaming pth → P
set_option maxRecDepth 100000
set_option maxHeartbeats 3200000
set_option linter.unusedSimpArgs false
end Go.Xe.TMX
/- What the statement MissNobody comes to. Conditions: none. -/
-- MOD TM
namespace Go.Xe.TMX
open Go Go.Xe Go.Proofs Go.Xe.Mth
open Nat renaming reduceLeDiff → qA, reduceSub → qB, reduceAdd → qC, reduceEqDiff → qD, reduceLT → qE
open Int renaming reduceNegSucc → qF, reduceEq → qG
open Go.Xe.V renaming seq → sA, block → sB, scope → sC, skip → sD, close → sE
open Go.Xe renaming pth → P
set_option maxRecDepth 100000
set_option maxHeartbeats 3200000
set_option linter.unusedSimpArgs false
end Go.Xe.TMX
/- What the statement MissLevels comes to. Conditions: none. -/
-- MOD TM
namespace Go.Xe.TMX
open Go Go.Xe Go.Proofs Go.Xe.Mth
open Nat renaming reduceLeDiff → qA, reduceSub → qB, reduceAdd → qC, reduceEqDiff → qD, reduceLT → qE
open Int renaming reduceNegSucc → qF, reduceEq → qG
open Go.Xe.V renaming seq → sA, block → sB, scope → sC, skip → sD, close → sE
open Go.Xe renaming pth → P
set_option maxRecDepth 100000
set_option maxHeartbeats 3200000
set_option linter.unusedSimpArgs false
theorem key53 {a b : Int} (ha : (Lit.int .i64 a).wf = true) (hb : (Lit.int .i64 b).wf = true) : (keyOf Try.prog 53 (.agg ⟨[I a, I b]⟩)).isSome = true := by
  have c3 : Try.prog.cellsOf 3 = 1 := by kernel_rfl
  have c48 : Try.prog.cellsOf 53 = 2 := by kernel_rfl
  have h5 : (Program.keyType Try.prog 53 && (Value.agg ⟨[I a, I b]⟩).formed Try.prog 53) = true := by kernel_rfl
  obtain ⟨n, hn⟩ : ∃ n, Try.prog.types.size + 1 = n + 2 := ⟨Try.prog.types.size - 1, by have : 2 ≤ Try.prog.types.size := Nat.le_of_ble_eq_true (by kernel_rfl); omega⟩
  unfold keyOf
  simp only[Try.underlying53]
  rw [if_pos h5, hn]
  unfold Program.keyLits
  simp only[Try.underlying53, c48]
  have e : (Value.agg ⟨[I a, I b]⟩).cells.toList = [I a, I b] := rfl
  rw [e, if_pos ⟨rfl, by simp⟩]
  simp [c3, kl_int ha, kl_int hb]
theorem neq53 {a b c d : Int} (ha : (Lit.int .i64 a).wf = true) (hb : (Lit.int .i64 b).wf = true) (hc : (Lit.int .i64 c).wf = true) (hd : (Lit.int .i64 d).wf = true) : xbinOp Try.prog .neq 53 (.agg ⟨A2 a b⟩) (.agg ⟨A2 c d⟩) = some (.bool (!decide (a = c ∧ b = d))) := by
  have h1 : xbin Try.prog .neq 53 (.agg ⟨A2 a b⟩) (.agg ⟨A2 c d⟩) = none := rfl
  have h2 : xbinStr .neq (.agg ⟨A2 a b⟩) (.agg ⟨A2 c d⟩) = none := rfl
  have h3 : xeqNil Try.prog true 53 (.agg ⟨A2 a b⟩) (.agg ⟨A2 c d⟩) = none := by
    unfold xeqNil
    simp only[Try.underlying53]
  have h4 : keyedB Try.prog 53 = true := by kernel_rfl
  have h5 : Try.prog.eqGuardType Try.prog.depth 53 = false := by kernel_rfl
  unfold xbinOp
  rw [h1, h2]
  simp only[h3]
  unfold xeqAgg
  simp only[Try.underlying53]
  rw [if_pos ⟨h4, rfl, rfl, key53 ha hb, key53 hc hd, h5⟩]
  simp [valEq, cellsEq, cellEq]
end Go.Xe.TMX
/- What the functions of the layer miss come to: which of two fractions is less. Conditions: none. -/
-- MOD TM
namespace Go.Xe.TMX
open Go Go.Xe Go.Proofs Go.Xe.Mth
open Nat renaming reduceLeDiff → qA, reduceSub → qB, reduceAdd → qC, reduceEqDiff → qD, reduceLT → qE
open Int renaming reduceNegSucc → qF, reduceEq → qG
open Go.Xe.V renaming seq → sA, block → sB, scope → sC, skip → sD, close → sE
open Go.Xe renaming pth → P
set_option maxRecDepth 100000
set_option maxHeartbeats 3200000
set_option linter.unusedSimpArgs false
noncomputable def d32 : FCode := (.seq (.run (.go (.box 41 (.tmp (P 0))) (P 2)::
.go (.box 41 (.tmp (P 1))) (P 3)::
.go (.move (.con (.bool false))) (P 4)::
[])) (.block 0 (.loop (.block 1 (.seq (.draw 12 (.go (.fieldAddr 0 (.tmp (P 2))) (P 9)::
.go (.load1 (.tmp (P 9))) (P 10)::
.go (.fieldAddr 1 (.tmp (P 2))) (P 11)::
.go (.load1 (.tmp (P 11))) (P 12)::
.go (.bin .quo 3 (.tmp (P 10)) (.tmp (P 12))) (P 13)::
.go (.fieldAddr 0 (.tmp (P 3))) (P 14)::
.go (.load1 (.tmp (P 14))) (P 15)::
.go (.fieldAddr 1 (.tmp (P 3))) (P 16)::
.go (.load1 (.tmp (P 16))) (P 17)::
.go (.bin .quo 3 (.tmp (P 15)) (.tmp (P 17))) (P 18)::
.go (.move (.tmp (P 13))) (P 5)::
.go (.move (.tmp (P 18))) (P 6)::
[]) [.ok,.ok,.ok,.ok,.ok,.ok,.ok,.ok,.ok,.ok,.ok,.ok]) (.seq (.seq (.run (.go (.move (.tmp (P 5))) (P 19)::
.go (.move (.tmp (P 6))) (P 20)::
.go (.bin .neq 3 (.tmp (P 19)) (.tmp (P 20))) (P 21)::
[])) (.cond (.tmp (P 21)) (.seq (.run (.go (.move (.tmp (P 5))) (P 22)::
.go (.move (.tmp (P 6))) (P 23)::
.go (.bin .lss 3 (.tmp (P 22)) (.tmp (P 23))) (P 24)::
.go (.move (.tmp (P 24))) (P 4)::
[])) .ret) .skip)) (.seq (.draw 12 (.go (.fieldAddr 0 (.tmp (P 2))) (P 25)::
.go (.load1 (.tmp (P 25))) (P 26)::
.go (.fieldAddr 1 (.tmp (P 2))) (P 27)::
.go (.load1 (.tmp (P 27))) (P 28)::
.go (.bin .rem 3 (.tmp (P 26)) (.tmp (P 28))) (P 29)::
.go (.fieldAddr 0 (.tmp (P 3))) (P 30)::
.go (.load1 (.tmp (P 30))) (P 31)::
.go (.fieldAddr 1 (.tmp (P 3))) (P 32)::
.go (.load1 (.tmp (P 32))) (P 33)::
.go (.bin .rem 3 (.tmp (P 31)) (.tmp (P 33))) (P 34)::
.go (.move (.tmp (P 29))) (P 7)::
.go (.move (.tmp (P 34))) (P 8)::
[]) [.ok,.ok,.ok,.ok,.ok,.ok,.ok,.ok,.ok,.ok,.ok,.ok]) (.seq (.seq (.run (.go (.move (.tmp (P 7))) (P 35)::
.go (.bin .eql 3 (.tmp (P 35)) (.con (.int .i64 (.ofNat 0)))) (P 36)::
.go (.move (.tmp (P 36))) (P 37)::
.gd (P 37) false (.move (.tmp (P 8))) (P 38)::
.gd (P 37) false (.bin .eql 3 (.tmp (P 38)) (.con (.int .i64 (.ofNat 0)))) (P 39)::
.go (.pick (.tmp (P 37)) (.con (.bool true)) (.tmp (P 39))) (P 40)::
[])) (.cond (.tmp (P 40)) (.seq (.run (.go (.move (.tmp (P 7))) (P 41)::
.go (.bin .eql 3 (.tmp (P 41)) (.con (.int .i64 (.ofNat 0)))) (P 42)::
.go (.move (.tmp (P 42))) (P 43)::
.gd (P 43) true (.move (.tmp (P 8))) (P 44)::
.gd (P 43) true (.bin .gtr 3 (.tmp (P 44)) (.con (.int .i64 (.ofNat 0)))) (P 45)::
.go (.pick (.tmp (P 43)) (.tmp (P 45)) (.con (.bool false))) (P 46)::
.go (.move (.tmp (P 46))) (P 4)::
[])) .ret) .skip)) (.run (.go (.fieldAddr 1 (.tmp (P 3))) (P 47)::
.go (.load1 (.tmp (P 47))) (P 48)::
.go (.move (.tmp (P 8))) (P 49)::
.go (.build [(.int .i64 (.ofNat 0)),(.int .i64 (.ofNat 0))] [(0,1,(.tmp (P 48))),(1,1,(.tmp (P 49)))]) (P 50)::
.go (.fieldAddr 1 (.tmp (P 2))) (P 51)::
.go (.load1 (.tmp (P 51))) (P 52)::
.go (.move (.tmp (P 7))) (P 53)::
.go (.build [(.int .i64 (.ofNat 0)),(.int .i64 (.ofNat 0))] [(0,1,(.tmp (P 52))),(1,1,(.tmp (P 53)))]) (P 54)::
.un (.store 2 (.tmp (P 2)) (.tmp (P 50)))::
.un (.store 2 (.tmp (P 3)) (.tmp (P 54)))::
[]))))))))))
theorem de32 : @compF Try.prog (Gl.none Try.prog) Try.f32 2 = .mk d32 (mkTT 55) [(P 0),(P 1)] [.tmp (P 4)] := by kernel_rfl
theorem dg32 : Try.prog.funcs[32]? = some Try.f32 := Try.func32
theorem do32 : okF Try.prog Try.f32 = true := by kernel_rfl
theorem less_eqs {p w n q : Nat} (hw : 0 < w) (hq : 0 < q) : (p / w < n / q → p * q < n * w) ∧ (n / q < p / w → ¬ p * q < n * w) ∧ (p / w = n / q → (p * q < n * w ↔ (p % w) * q < (n % q) * w)) := by
  have a1 := Nat.div_add_mod p w
  have a2 := Nat.div_add_mod n q
  have b1 := Nat.mod_lt p hw
  have b2 := Nat.mod_lt n hq
  generalize p / w = x at *
  generalize p % w = r at *
  generalize n / q = y at *
  generalize n % q = s at *
  have e1 : p * q = w * q * x + r * q := by rw [← a1, Nat.add_mul, Nat.mul_right_comm]
  have e2 : n * w = w * q * y + s * w := by rw [← a2, Nat.add_mul, Nat.mul_right_comm, Nat.mul_comm q w]
  have h1 : r * q < w * q := Nat.mul_lt_mul_of_pos_right b1 hq
  have h2 : s * w < w * q := by have := Nat.mul_lt_mul_of_pos_right b2 hw; rw [Nat.mul_comm q w] at this; exact this
  generalize w * q = P at *
  refine ⟨fun h => ?_, fun h => ?_, fun h => ?_⟩
  · have := Nat.mul_le_mul_left P h
    rw [Nat.mul_succ] at this
    omega
  · have := Nat.mul_le_mul_left P h
    rw [Nat.mul_succ] at this
    omega
  · subst h; omega
theorem f32_ok {p w n q : Nat} (hw : 0 < w) (hq : 0 < q) (hp2 : p ≤ 4611686018427387904) (hw2 : w ≤ 4611686018427387904) (hn2 : n ≤ 4611686018427387904) (hq2 : q ≤ 4611686018427387904) (H : Heap) : Gives Try.prog 32 [.agg ⟨A2 p w⟩, .agg ⟨A2 n q⟩] H (.bool (decide (p * q < n * w))) := by
  refine F.entryL rfl dg32 do32 de32 rfl (by kernel_rfl) ?_
  simp only[sets]
  refine V.re [(0, .agg ⟨A2 p w⟩), (1, .agg ⟨A2 n q⟩)] (N := 55) (by intro i; simp only[full_st, Full.mk]) (by simp only[Kn, gt_st, full_st, Full.mk, ↓reduceIte, qD, qE, decide_true, and_self]) ?_
  intro t hF hA
  simp only[Kn, and_true] at hA
  (repeat first|apply sA|apply sB|apply sC|apply sD|apply sE)
  refine V.line' (by simp +contextual (disch := first|omega|simp only[nx];omega) only[D4,qF,qG,qA,qB,qC,D5,hF,hA,↓reduceIte,qD,qE]; with_reducible rfl) ?_
  refine V.heap (fun X => Grow H X ∧ Bx X H.next (A2 p w) 41 ∧ Bx X (H.next + 1) (A2 n q) 41) ⟨?_, ?_⟩ ?_
  · (repeat first | assumption | exact Grow.refl _ | refine Grow.alloc ?_ _ | refine Grow.set ?_ (by first|omega|simp only[nx];omega) _)
  · exact ⟨by (repeat first | assumption | exact Bx.new _ _ _ | exact Bx.newAt (by first|omega|simp only[nx];omega) | refine Bx.put (by first|omega|simp only[nx];omega) _ _ | refine Bx.alloc ?_ _ | refine Bx.set ?_ (by first|omega|simp only[nx];omega) _), by (repeat first | assumption | exact Bx.new _ _ _ | exact Bx.newAt (by first|omega|simp only[nx];omega) | refine Bx.put (by first|omega|simp only[nx];omega) _ _ | refine Bx.alloc ?_ _ | refine Bx.set ?_ (by first|omega|simp only[nx];omega) _)⟩
  rintro H1 ⟨g1, b1, c1⟩
  (repeat first|apply sA|apply sB|apply sC|apply sD|apply sE)
  refine V.loop (fun k t m X => ∃ (p1 w1 n1 q1 : Nat), 0 < w1 ∧ 0 < q1 ∧ p1 ≤ 4611686018427387904 ∧ w1 ≤ 4611686018427387904 ∧ n1 ≤ 4611686018427387904 ∧ q1 ≤ 4611686018427387904 ∧ (p1 * q1 < n1 * w1 ↔ p * q < n * w) ∧ k = w1 + q1 ∧ m = [] ∧ Grow H X ∧ Bx X H.next (A2 p1 w1) 41 ∧ Bx X (H.next + 1) (A2 n1 q1) 41 ∧ Full 55 t ∧ Kn [(2, PT H.next), (3, PT (H.next + 1))] t) (w + q) ?_ ?_
  · exact ⟨p, w, n, q, hw, hq, hp2, hw2, hn2, hq2, Iff.rfl, rfl, rfl, g1, b1, c1, (by intro;simp only[full_st,hF]), (by simp only[Kn, D5,hF,hA,↓reduceIte,qD,qE,and_self,and_true,true_and];try (repeat' constructor))⟩
  clear hF hA
  rintro k t m X ⟨p1, w1, n1, q1, hw, hq, hp2, hw2, hn2, hq2, hiff, rfl, rfl, hg, bx, cx, hF, hA⟩
  simp only[Kn, and_true] at hA
  have d1 : (p1 : Int).tdiv w1 = ((p1 / w1 : Nat) : Int) := by rw [Int.ofNat_tdiv]
  have d2 : (n1 : Int).tdiv q1 = ((n1 / q1 : Nat) : Int) := by rw [Int.ofNat_tdiv]
  have d3 : (p1 : Int).tmod w1 = ((p1 % w1 : Nat) : Int) := by rw [Int.ofNat_tmod]
  have d4 : (n1 : Int).tmod q1 = ((n1 % q1 : Nat) : Int) := by rw [Int.ofNat_tmod]
  have l1 := Nat.div_le_self p1 w1
  have l2 := Nat.div_le_self n1 q1
  have z1 : ¬ ((w1 : Int) = 0) := by omega
  have z2 : ¬ ((q1 : Int) = 0) := by omega
  have ml1 := Nat.mod_lt p1 hw
  have ml2 := Nat.mod_lt n1 hq
  obtain ⟨k1, k2, k3⟩ := less_eqs (p := p1) (w := w1) (n := n1) (q := q1) hw hq
  (repeat first|apply sA|apply sB|apply sC|apply sD|apply sE)
  refine V.lineD' (by simp +contextual (disch := first|omega|simp only[nx];omega) only[D4,qF,qG,qA,qB,qC,D5,hF,hA,↓reduceIte,qD,qE, bx.2, cx.2, d1, d2, z1, z2]; with_reducible rfl) ?_ ?_ rfl ?_
  · simp only[monoG, List.cons_append, List.nil_append, Heap.next_set, Heap.next_alloc, Nat.le_refl, true_and, and_true] <;> omega
  · simp only[dcAll, dcOk, wantD, List.cons_append, List.nil_append, true_and, and_true]
  generalize hx : p1 / w1 = x at *
  generalize hy : n1 / q1 = y at *
  (repeat first|apply sA|apply sB|apply sC|apply sD|apply sE)
  refine V.line' (by simp +contextual (disch := first|omega|simp only[nx];omega) only[D4,qF,qG,qA,qB,qC,D5,hF,hA,↓reduceIte,qD,qE, ne_eq]; with_reducible rfl) ?_
  (repeat first|apply sA|apply sB|apply sC|apply sD|apply sE)
  refine V.condP (by simp only[D6,D5,hF,hA,↓reduceIte,qD,qE]; rfl) (fun hne => ?_) (fun hne => ?_)
  · (repeat first|apply sA|apply sB|apply sC|apply sD|apply sE)
    refine V.line' (by simp +contextual (disch := first|omega|simp only[nx];omega) only[D4,qF,qG,qA,qB,qC,D5,hF,hA,↓reduceIte,qD,qE]; with_reducible rfl) ?_
    (repeat first|apply sA|apply sB|apply sC|apply sD|apply sE)
    refine V.ret (V.rets rfl (Or.inr ⟨by simp, V.rets rfl (Lv.retG (by simp +contextual (disch := first|omega|simp only[nx];omega) only[D1, cells_alloc_at, cells_alloc_ne, cells_set_at, cells_set_ne, yres, yres1, yresL, qA, qB, qC, D5,hF,hA,↓reduceIte,qD,qE]; rfl) ?_ ?_)⟩))
    · exact hg
    · congr 1
      rcases Nat.lt_or_gt_of_ne (show x ≠ y by omega) with hlt | hgt
      · have := k1 hlt
        rw [decide_eq_true (hiff.1 this)]
        exact decide_eq_true (by omega)
      · have := k2 hgt
        rw [decide_eq_false (fun h => this (hiff.2 h))]
        exact decide_eq_false (by omega)
  have hxy : x = y := by omega
  have k4 := k3 hxy
  (repeat first|apply sA|apply sB|apply sC|apply sD|apply sE)
  refine V.re [(2, PT H.next), (3, PT (H.next + 1))] (N := 55) (by intro;simp only[full_st,hF]) (by simp only[Kn, D5,hF,hA,↓reduceIte,qD,qE,and_self,and_true,true_and];try (repeat' constructor)) ?_
  clear hF hA
  intro t hF hA
  simp only[Kn, and_true] at hA
  refine V.lineD' (by simp +contextual (disch := first|omega|simp only[nx];omega) only[D4,qF,qG,qA,qB,qC,D5,hF,hA,↓reduceIte,qD,qE, bx.2, cx.2, d3, d4, z1, z2]; with_reducible rfl) ?_ ?_ rfl ?_
  · simp only[monoG, List.cons_append, List.nil_append, Heap.next_set, Heap.next_alloc, Nat.le_refl, true_and, and_true] <;> omega
  · simp only[dcAll, dcOk, wantD, List.cons_append, List.nil_append, true_and, and_true]
  generalize hr : p1 % w1 = r at *
  generalize hs : n1 % q1 = s at *
  (repeat first|apply sA|apply sB|apply sC|apply sD|apply sE)
  refine V.line' (by simp +contextual (disch := first|omega|simp only[nx];omega) only[D4,qF,qG,qA,qB,qC,D5,hF,hA,↓reduceIte,qD,qE]; with_reducible rfl) ?_
  (repeat first|apply sA|apply sB|apply sC|apply sD|apply sE)
  refine V.condP (by simp only[D6,D5,hF,hA,↓reduceIte,qD,qE]; rfl) (fun hz => ?_) (fun hz => ?_)
  · (repeat first|apply sA|apply sB|apply sC|apply sD|apply sE)
    refine V.line' (by simp +contextual (disch := first|omega|simp only[nx];omega) only[D4,qF,qG,qA,qB,qC,D5,hF,hA,↓reduceIte,qD,qE]; with_reducible rfl) ?_
    (repeat first|apply sA|apply sB|apply sC|apply sD|apply sE)
    refine V.ret (V.rets rfl (Or.inr ⟨by simp, V.rets rfl (Lv.retG (by simp +contextual (disch := first|omega|simp only[nx];omega) only[D1, cells_alloc_at, cells_alloc_ne, cells_set_at, cells_set_ne, yres, yres1, yresL, qA, qB, qC, D5,hF,hA,↓reduceIte,qD,qE]; rfl) ?_ ?_)⟩))
    · exact hg
    · congr 1
      by_cases hr0 : r = 0
      · subst hr0
        by_cases hs0 : s = 0
        · subst hs0
          have : ¬ p * q < n * w := fun h => by have := k4.1 (hiff.2 h); simp at this
          rw [decide_eq_false this]
          exact decide_eq_false (by omega)
        · have : p * q < n * w := hiff.1 (k4.2 (by rw [Nat.zero_mul]; exact Nat.mul_pos (by omega) hw))
          rw [decide_eq_true this]
          exact decide_eq_true (by omega)
      · have hs0 : s = 0 := by omega
        subst hs0
        have : ¬ p * q < n * w := fun h => by have := k4.1 (hiff.2 h); simp at this
        rw [decide_eq_false this]
        exact decide_eq_false (by omega)
  (repeat first|apply sA|apply sB|apply sC|apply sD|apply sE)
  refine V.line' (by simp +contextual (disch := first|omega|simp only[nx];omega) only[D4,qF,qG,qA,qB,qC,D5,hF,hA,↓reduceIte,qD,qE, bx.2, cx.2]; with_reducible rfl) ?_
  refine V.heap (fun Y => Grow H Y ∧ Bx Y H.next (A2 q1 s) 41 ∧ Bx Y (H.next + 1) (A2 w1 r) 41) ⟨?_, ?_, ?_⟩ ?_
  · (repeat first | assumption | exact Grow.refl _ | refine Grow.alloc ?_ _ | refine Grow.set ?_ (by first|omega|simp only[nx];omega) _)
  · have := bx.1
    have := cx.1
    (repeat first | assumption | exact Bx.new _ _ _ | exact Bx.newAt (by first|omega|simp only[nx];omega) | refine Bx.put (by first|omega|simp only[nx];omega) _ _ | refine Bx.alloc ?_ _ | refine Bx.set ?_ (by first|omega|simp only[nx];omega) _)
  · have := bx.1
    have := cx.1
    (repeat first | assumption | exact Bx.new _ _ _ | exact Bx.newAt (by first|omega|simp only[nx];omega) | refine Bx.put (by first|omega|simp only[nx];omega) _ _ | refine Bx.alloc ?_ _ | refine Bx.set ?_ (by first|omega|simp only[nx];omega) _)
  rintro Y ⟨gy, by1, cy1⟩
  (repeat first|apply sA|apply sB|apply sC|apply sD|apply sE)
  refine V.nil (Or.inl ⟨rfl, s + r, by omega, ?_⟩)
  refine ⟨q1, s, w1, r, by omega, by omega, hq2, by omega, hw2, by omega, ?_, rfl, rfl, gy, by1, cy1, (by intro;simp only[full_st,hF]), (by simp only[Kn, D5,hF,hA,↓reduceIte,qD,qE,and_self,and_true,true_and];try (repeat' constructor))⟩
  rw [← hiff, k4, Nat.mul_comm q1, Nat.mul_comm w1]
end Go.Xe.TMX
/- What the functions of the layer miss come to: is a sample large enough, as the statement says it. Conditions: none. -/
-- MOD TM
namespace Go.Xe.TMX
open Go Go.Xe Go.Proofs Go.Xe.Mth
open Nat renaming reduceLeDiff → qA, reduceSub → qB, reduceAdd → qC, reduceEqDiff → qD, reduceLT → qE
open Int renaming reduceNegSucc → qF, reduceEq → qG
open Go.Xe.V renaming seq → sA, block → sB, scope → sC, skip → sD, close → sE
open Go.Xe renaming pth → P
set_option maxRecDepth 100000
set_option maxHeartbeats 3200000
set_option linter.unusedSimpArgs false
def small (a k n q u : Nat) : Prop := (ch (a + u) k - ch a k) * q < n * ch (a + u) k
instance (a k n q u : Nat) : Decidable (small a k n q u) := by unfold small; infer_instance
def lge (a b m k n q : Nat) : Prop := ∀ u, u < b + 1 → m ≤ u → ¬ small a k n q u
instance (a b m k n q : Nat) : Decidable (lge a b m k n q) := by unfold lge; infer_instance
end Go.Xe.TMX
/- What the functions of the layer miss come to: the chance that a sample has somebody who is not on the lists. Conditions: none. -/
-- MOD TM
namespace Go.Xe.TMX
open Go Go.Xe Go.Proofs Go.Xe.Mth
open Nat renaming reduceLeDiff → qA, reduceSub → qB, reduceAdd → qC, reduceEqDiff → qD, reduceLT → qE
open Int renaming reduceNegSucc → qF, reduceEq → qG
open Go.Xe.V renaming seq → sA, block → sB, scope → sC, skip → sD, close → sE
open Go.Xe renaming pth → P
set_option maxRecDepth 100000
set_option maxHeartbeats 3200000
set_option linter.unusedSimpArgs false
end Go.Xe.TMX
/- What the functions of the layer miss come to: the smallest sample that is large enough. Conditions: none. -/
-- MOD TM
namespace Go.Xe.TMX
open Go Go.Xe Go.Proofs Go.Xe.Mth
open Nat renaming reduceLeDiff → qA, reduceSub → qB, reduceAdd → qC, reduceEqDiff → qD, reduceLT → qE
open Int renaming reduceNegSucc → qF, reduceEq → qG
open Go.Xe.V renaming seq → sA, block → sB, scope → sC, skip → sD, close → sE
open Go.Xe renaming pth → P
set_option maxRecDepth 100000
set_option maxHeartbeats 3200000
set_option linter.unusedSimpArgs false
end Go.Xe.TMX
/- What the statement MissEnough comes to. Conditions: none. -/
-- MOD TM
namespace Go.Xe.TMX
open Go Go.Xe Go.Proofs Go.Xe.Mth
open Nat renaming reduceLeDiff → qA, reduceSub → qB, reduceAdd → qC, reduceEqDiff → qD, reduceLT → qE
open Int renaming reduceNegSucc → qF, reduceEq → qG
open Go.Xe.V renaming seq → sA, block → sB, scope → sC, skip → sD, close → sE
open Go.Xe renaming pth → P
set_option maxRecDepth 100000
set_option maxHeartbeats 3200000
set_option linter.unusedSimpArgs false
noncomputable def d7 : FCode := (.seq (.run (.go (.box 41 (.tmp (P 3))) (P 7)::
.go (.move (.con (.bool false))) (P 8)::
[])) (.seq (.run (.go (.move (.tmp (P 0))) (P 13)::
.go (.move (.tmp (P 1))) (P 14)::
.go (.move (.tmp (P 2))) (P 15)::
.go (.loadN 2 (.tmp (P 7))) (P 16)::
.go (.call (.con (.func (.func 28) ⟨[]⟩ ⟨[]⟩)) [(.tmp (P 16))]) (P 17)::
.go (.call (.con (.func (.func 40) ⟨[]⟩ ⟨[]⟩)) [(.tmp (P 13)),(.tmp (P 14)),(.tmp (P 15)),(.tmp (P 17))]) (P 18)::
.go (.move (.tmp (P 18))) (P 12)::
.go (.extract (.tmp (P 12)) 0) (P 19)::
.go (.extract (.tmp (P 12)) 1) (P 20)::
.go (.move (.tmp (P 19))) (P 9)::
.go (.move (.tmp (P 20))) (P 10)::
[])) (.seq (.seq (.run (.go (.move (.tmp (P 0))) (P 21)::
.go (.move (.tmp (P 1))) (P 22)::
.go (.call (.con (.func (.func 41) ⟨[]⟩ ⟨[]⟩)) [(.tmp (P 21)),(.tmp (P 22))]) (P 23)::
.go (.un .not (.tmp (P 23))) (P 24)::
.go (.move (.tmp (P 24))) (P 25)::
.gd (P 25) false (.move (.tmp (P 2))) (P 26)::
.gd (P 25) false (.move (.tmp (P 1))) (P 27)::
.gd (P 25) false (.call (.con (.func (.func 23) ⟨[]⟩ ⟨[]⟩)) [(.tmp (P 26)),(.con (.int .i64 (.ofNat 0))),(.tmp (P 27))]) (P 28)::
.gd (P 25) false (.un .not (.tmp (P 28))) (P 29)::
.go (.pick (.tmp (P 25)) (.con (.bool true)) (.tmp (P 29))) (P 30)::
.go (.move (.tmp (P 30))) (P 31)::
.gd (P 31) false (.loadN 2 (.tmp (P 7))) (P 32)::
.gd (P 31) false (.call (.con (.func (.func 36) ⟨[]⟩ ⟨[]⟩)) [(.tmp (P 32))]) (P 33)::
.gd (P 31) false (.un .not (.tmp (P 33))) (P 34)::
.go (.pick (.tmp (P 31)) (.con (.bool true)) (.tmp (P 34))) (P 35)::
[])) (.cond (.tmp (P 35)) (.seq (.run (.go (.move (.tmp (P 10))) (P 36)::
.go (.bin .eql 24 (.tmp (P 36)) (.con (.int .i64 (.ofNat 2)))) (P 37)::
.go (.move (.tmp (P 37))) (P 38)::
.gd (P 38) true (.move (.tmp (P 9))) (P 39)::
.gd (P 38) true (.bin .eql 3 (.tmp (P 39)) (.con (.int .i64 (.ofNat 0)))) (P 40)::
.go (.pick (.tmp (P 38)) (.tmp (P 40)) (.con (.bool false))) (P 41)::
.go (.move (.tmp (P 41))) (P 42)::
.gd (P 42) true (.call (.con (.func (.func 24) ⟨[]⟩ ⟨[]⟩)) []) (P 43)::
.go (.pick (.tmp (P 42)) (.tmp (P 43)) (.con (.bool false))) (P 44)::
.go (.move (.tmp (P 44))) (P 8)::
[])) .ret) .skip)) (.seq (.seq (.run (.go (.move (.con (.int .i64 (.ofNat 0)))) (P 11)::
[])) (.block 0 (.loop (.seq (.seq (.run (.go (.move (.tmp (P 11))) (P 45)::
.go (.move (.tmp (P 0))) (P 46)::
.go (.bin .leq 3 (.tmp (P 45)) (.tmp (P 46))) (P 47)::
[])) (.cond (.tmp (P 47)) .skip (.exit 0))) (.seq (.block 1 (.seq (.run (.go (.move (.tmp (P 0))) (P 50)::
.go (.move (.tmp (P 1))) (P 51)::
.go (.move (.tmp (P 2))) (P 52)::
.go (.move (.tmp (P 11))) (P 53)::
.go (.loadN 2 (.tmp (P 7))) (P 54)::
.go (.call (.con (.func (.func 42) ⟨[]⟩ ⟨[]⟩)) [(.tmp (P 50)),(.tmp (P 51)),(.tmp (P 52)),(.tmp (P 53)),(.tmp (P 54))]) (P 55)::
[])) (.cond (.tmp (P 55)) (.seq (.run (.go (.move (.tmp (P 10))) (P 56)::
.go (.bin .eql 24 (.tmp (P 56)) (.con (.int .i64 (.ofNat 0)))) (P 57)::
.go (.move (.tmp (P 57))) (P 58)::
.gd (P 58) true (.move (.tmp (P 9))) (P 59)::
.gd (P 58) true (.move (.tmp (P 11))) (P 60)::
.gd (P 58) true (.bin .eql 3 (.tmp (P 59)) (.tmp (P 60))) (P 61)::
.go (.pick (.tmp (P 58)) (.tmp (P 61)) (.con (.bool false))) (P 62)::
.go (.move (.tmp (P 62))) (P 63)::
.gd (P 63) true (.call (.con (.func (.func 24) ⟨[]⟩ ⟨[]⟩)) []) (P 64)::
.go (.pick (.tmp (P 63)) (.tmp (P 64)) (.con (.bool false))) (P 65)::
.go (.move (.tmp (P 65))) (P 8)::
[])) .ret) .skip))) (.run (.go (.move (.tmp (P 11))) (P 48)::
.go (.bin .add 3 (.tmp (P 48)) (.con (.int .i64 (.ofNat 1)))) (P 49)::
.go (.move (.tmp (P 49))) (P 11)::
[]))))))) (.seq (.run (.go (.move (.tmp (P 10))) (P 66)::
.go (.bin .eql 24 (.tmp (P 66)) (.con (.int .i64 (.ofNat 9)))) (P 67)::
.go (.move (.tmp (P 67))) (P 68)::
.gd (P 68) true (.move (.tmp (P 9))) (P 69)::
.gd (P 68) true (.bin .eql 3 (.tmp (P 69)) (.con (.int .i64 (.ofNat 0)))) (P 70)::
.go (.pick (.tmp (P 68)) (.tmp (P 70)) (.con (.bool false))) (P 71)::
.go (.move (.tmp (P 71))) (P 72)::
.gd (P 72) true (.call (.con (.func (.func 24) ⟨[]⟩ ⟨[]⟩)) []) (P 73)::
.go (.pick (.tmp (P 72)) (.tmp (P 73)) (.con (.bool false))) (P 74)::
.go (.move (.tmp (P 74))) (P 8)::
[])) .ret)))))
end Go.Xe.TMX
/- What the statement MissSmallest comes to. Conditions: none. -/
-- MOD TM
namespace Go.Xe.TMX
open Go Go.Xe Go.Proofs Go.Xe.Mth
open Nat renaming reduceLeDiff → qA, reduceSub → qB, reduceAdd → qC, reduceEqDiff → qD, reduceLT → qE
open Int renaming reduceNegSucc → qF, reduceEq → qG
open Go.Xe.V renaming seq → sA, block → sB, scope → sC, skip → sD, close → sE
open Go.Xe renaming pth → P
set_option maxRecDepth 100000
set_option maxHeartbeats 3200000
set_option linter.unusedSimpArgs false
end Go.Xe.TMX
