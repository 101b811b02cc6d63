/- What the functions of the layer miss come to: the smallest sample that is large enough. Conditions: none. -/
import Derived.Test.YtglkpemncjoefaaTNW
-- MOD TM
namespace Go.Xe.TMX
open Go Go.Xe Go.Proofs Go.Xe.Mth
open Nat renaming reduceLeDiff → qA, reduceSub → qB, reduceAdd → qC, reduceEqDiff → qD, reduceLT → qE
open Int renaming reduceNegSucc → qF, reduceEq → qG
set_option maxRecDepth 100000
set_option maxHeartbeats 3200000
set_option linter.unusedSimpArgs false
noncomputable def d71 : FCode := (.seq (.run (.go (.box 3 (.tmp (pth 0))) (pth 3)::
.go (.box 53 (.tmp (pth 1))) (pth 4)::
.go (.box 36 (.tmp (pth 2))) (pth 5)::
.go (.move (.con (.int .i64 (.ofNat 0)))) (pth 6)::
.go (.move (.con (.int .i64 (.ofNat 0)))) (pth 7)::
[])) (.scope (.seq (.run (.go (.alloc 3 [(.int .i64 (.ofNat 0))]) (pth 8)::
.go (.alloc 24 [(.int .i64 (.ofNat 0))]) (pth 9)::
.un (.store 1 (.tmp (pth 8)) (.con (.int .i64 (.ofNat 0))))::
.un (.store 1 (.tmp (pth 9)) (.con (.int .i64 (.ofNat 9))))::
[])) (.seq (.draw 7 (.go (.call (.con (.func (.func 53) ⟨[]⟩ ⟨[]⟩)) []) (pth 15)::
.go (.load1 (.tmp (pth 3))) (pth 16)::
.go (.build [(.int .i64 (.ofNat 0)),(.int .i64 (.ofNat 0))] [(0,1,(.con (.int .i64 (.ofNat 0)))),(1,1,(.tmp (pth 16)))]) (pth 17)::
.go (.alloc 33 [.nilFunc]) (pth 10)::
.go (.alloc 53 [(.int .i64 (.ofNat 0)),(.int .i64 (.ofNat 0))]) (pth 11)::
.un (.store 1 (.tmp (pth 10)) (.tmp (pth 15)))::
.un (.store 2 (.tmp (pth 11)) (.tmp (pth 17)))::
[]) [.ok,.rd none (.load1 (.tmp (pth 3))) (some (pth 16)) [0,6],.ok,.nw none (some (pth 10)) 3 true,.nw none (some (pth 11)) 4 true,.ok,.ok]) (.seq .skip (.seq (.seq (.run (.go (.loadN 2 (.tmp (pth 11))) (pth 18)::
.go (.call (.con (.func (.func 75) ⟨[]⟩ ⟨[]⟩)) [(.tmp (pth 18))]) (pth 19)::
[])) (.block 0 (.rangeFunc (.tmp (pth 19)) [(pth 20)] (rfA Try.f71 0) (rfB Try.f71 0) (.run (.go (.move (.tmp (pth 20))) (pth 12)::
[])) (.block 1 (.seq (.run (.go (.load1 (.tmp (pth 3))) (pth 21)::
.go (.fieldAddr 1 (.tmp (pth 4))) (pth 22)::
.go (.load1 (.tmp (pth 22))) (pth 23)::
.go (.move (.tmp (pth 12))) (pth 24)::
.go (.build [(.int .i64 (.ofNat 0)),(.int .i64 (.ofNat 0)),(.int .i64 (.ofNat 0)),(.int .i64 (.ofNat 0))] [(0,1,(.tmp (pth 21))),(1,1,(.tmp (pth 23))),(2,1,(.tmp (pth 24))),(3,1,(.con (.int .i64 (.ofNat 0))))]) (pth 25)::
.go (.load1 (.tmp (pth 10))) (pth 26)::
.go (.build [(.int .i64 (.ofNat 0)),(.int .i64 (.ofNat 0)),(.int .i64 (.ofNat 0)),(.int .i64 (.ofNat 0)),.nilFunc] [(0,4,(.tmp (pth 25))),(4,1,(.tmp (pth 26)))]) (pth 27)::
.go (.alloc 92 [(.int .i64 (.ofNat 0)),(.int .i64 (.ofNat 0)),(.int .i64 (.ofNat 0)),(.int .i64 (.ofNat 0)),.nilFunc]) (pth 13)::
.un (.store 5 (.tmp (pth 13)) (.tmp (pth 27)))::
[])) (.seq (.seq (.run (.go (.loadN 2 (.tmp (pth 4))) (pth 28)::
.go (.call (.con (.func (.func 75) ⟨[]⟩ ⟨[]⟩)) [(.tmp (pth 28))]) (pth 29)::
[])) (.block 2 (.rangeFunc (.tmp (pth 29)) [(pth 30)] (rfA Try.f71 1) (rfB Try.f71 1) (.run (.go (.move (.tmp (pth 30))) (pth 14)::
[])) (.block 3 (.seq (.draw 6 (.go (.loadN 5 (.tmp (pth 13))) (pth 31)::
.go (.move (.tmp (pth 14))) (pth 32)::
.go (.call (.con (.func (.func 87) ⟨[]⟩ ⟨[]⟩)) [(.tmp (pth 31)),(.tmp (pth 32))]) (pth 33)::
.go (.loadN 2 (.tmp (pth 5))) (pth 34)::
.go (.call (.con (.func (.func 83) ⟨[]⟩ ⟨[]⟩)) [(.tmp (pth 33)),(.tmp (pth 34))]) (pth 35)::
.go (.bin .lss 3 (.tmp (pth 35)) (.con (.int .i64 (.ofNat 0)))) (pth 36)::
[]) [.ok,.ok,.ok,.rd none (.loadN 2 (.tmp (pth 5))) (some (pth 34)) [0],.ok,.ok]) (.cond (.tmp (pth 36)) (.exit 1) .skip)))))) (.seq (.run (.go (.move (.tmp (pth 12))) (pth 37)::
.un (.store 1 (.tmp (pth 8)) (.tmp (pth 37)))::
.un (.store 1 (.tmp (pth 9)) (.con (.int .i64 (.ofNat 0))))::
[])) (.exit 0)))))))) (.seq (.draw 4 (.go (.load1 (.tmp (pth 8))) (pth 38)::
.go (.load1 (.tmp (pth 9))) (pth 39)::
.go (.move (.tmp (pth 38))) (pth 6)::
.go (.move (.tmp (pth 39))) (pth 7)::
[]) [.ok,.ok,.ok,.ok]) .ret)))))))
theorem de71 : @compF Try.prog (Gl.none Try.prog) Try.f71 3 = .mk d71 (mkTT 40) [(pth 0),(pth 1),(pth 2)] [.tmp (pth 6),.tmp (pth 7)] := by kernel_rfl
theorem dg71 : Try.prog.funcs[71]? = some Try.f71 := Try.func71
theorem do71 : okF Try.prog Try.f71 = true := by kernel_rfl
theorem f83_frl {p w n q : Nat} (hw : 0 < w) (hp2 : p < 9223372036854775808) (hw2 : w < 9223372036854775808) (hn2 : n < 9223372036854775808) (hq2 : q < 9223372036854775808) (H : Heap) : Gives Try.prog 83 [.agg ⟨fr p w⟩, .agg ⟨A2 n q⟩] H (I (cmpN (p * q) (n * w))) := by
  have hg := Nat.gcd_pos_of_pos_right p hw
  have a2 := Nat.div_le_self w (Nat.gcd p w)
  have a3 := Nat.div_le_self p (Nat.gcd p w)
  have a4 := Nat.div_mul_cancel (Nat.gcd_dvd_left p w)
  have a5 := Nat.div_mul_cancel (Nat.gcd_dvd_right p w)
  have h := f83_ok (n := p / Nat.gcd p w) (d := w / Nat.gcd p w) (p := n) (q := q) (by omega) (by omega) (by omega) (by omega) H
  have e : cmpN (p / Nat.gcd p w * q) (n * (w / Nat.gcd p w)) = cmpN (p * q) (n * w) := by
    generalize p / Nat.gcd p w = p1 at *
    generalize w / Nat.gcd p w = w1 at *
    generalize Nat.gcd p w = g at *
    subst a4 a5
    have e1 : p1 * g * q = p1 * q * g := Nat.mul_right_comm _ _ _
    have e2 : n * (w1 * g) = n * w1 * g := (Nat.mul_assoc _ _ _).symm
    rw [e1, e2]
    unfold cmpN
    simp only [Nat.mul_lt_mul_right hg]
  rw [e] at h
  exact h
theorem f71_ok {a b m n q : Nat} (hab : a + b ≤ 50) (hm : m ≤ b) (hn : n ≤ 1000) (hq : 0 < q ∧ q ≤ 1000) (H : Heap) :
    F Try.prog 71 ⟨[I a, .agg ⟨A2 m b⟩, .agg ⟨A2 n q⟩]⟩ H (fun v H' => Grow H H' ∧ ((∃ k : Nat, k ≤ a ∧ lge a b m k n q ∧ (∀ k', k' < k → ¬ lge a b m k' n q) ∧ v = .tuple ⟨[I k, I 0]⟩) ∨ ((∀ k', k' < a + 1 → ¬ lge a b m k' n q) ∧ v = .tuple ⟨[I 0, I 9]⟩))) := by
  refine F.entryL rfl dg71 do71 de71 rfl (by kernel_rfl) ?_
  simp only [sets]
  refine V.re [(0, I a), (1, .agg ⟨A2 m b⟩), (2, .agg ⟨A2 n q⟩)] (N := 40) (by intro i; simp only [full_st, Full.mk]) (by simp only [Kn, gt_st, full_st, Full.mk, ↓reduceIte, qD, qE, decide_true, and_self]) ?_
  intro t hF hA
  simp only [Kn, and_true] at hA
  (repeat first|apply V.seq|apply V.block|apply V.scope|apply V.skip|apply V.close)
  refine V.line' (by simp +contextual (disch := first|omega|simp only [nx];omega) only [D4,qF,qG,qA,qB,qC,D5,hF,hA,↓reduceIte,qD,qE]; with_reducible rfl) ?_
  refine V.heap (fun X => Grow H X ∧ Bx X H.next [I a] 3 ∧ Bx X (H.next + 1) (A2 m b) 53 ∧ Bx X (H.next + 2) (A2 n q) 36) ⟨?_, ?_, ?_, ?_⟩ ?_
  · (repeat first | assumption | exact Grow.refl _ | refine Grow.alloc ?_ _ | refine Grow.set ?_ (by first|omega|simp only [nx];omega) _)
  · (repeat first | assumption | exact Bx.new _ _ _ | exact Bx.newAt (by first|omega|simp only [nx];omega) | refine Bx.put (by first|omega|simp only [nx];omega) _ _ | refine Bx.alloc ?_ _ | refine Bx.set ?_ (by first|omega|simp only [nx];omega) _)
  · (repeat first | assumption | exact Bx.new _ _ _ | exact Bx.newAt (by first|omega|simp only [nx];omega) | refine Bx.put (by first|omega|simp only [nx];omega) _ _ | refine Bx.alloc ?_ _ | refine Bx.set ?_ (by first|omega|simp only [nx];omega) _)
  · (repeat first | assumption | exact Bx.new _ _ _ | exact Bx.newAt (by first|omega|simp only [nx];omega) | refine Bx.put (by first|omega|simp only [nx];omega) _ _ | refine Bx.alloc ?_ _ | refine Bx.set ?_ (by first|omega|simp only [nx];omega) _)
  rintro H1 ⟨g1, b1, c1, d1⟩
  have nd1 := d1.1
  (repeat first|apply V.seq|apply V.block|apply V.scope|apply V.skip|apply V.close)
  refine V.line' (by simp +contextual (disch := first|omega|simp only [nx];omega) only [D4,qF,qG,qA,qB,qC,D5,hF,hA,↓reduceIte,qD,qE]; with_reducible rfl) ?_
  refine V.heap (fun X => Grow H1 X ∧ Bx X H1.next [I 0] 3 ∧ Bx X (H1.next + 1) [I 9] 24) ⟨?_, ?_, ?_⟩ ?_
  · (repeat first | assumption | exact Grow.refl _ | refine Grow.alloc ?_ _ | refine Grow.set ?_ (by first|omega|simp only [nx];omega) _)
  · (repeat first | assumption | exact Bx.new _ _ _ | exact Bx.newAt (by first|omega|simp only [nx];omega) | refine Bx.put (by first|omega|simp only [nx];omega) _ _ | refine Bx.alloc ?_ _ | refine Bx.set ?_ (by first|omega|simp only [nx];omega) _)
  · (repeat first | assumption | exact Bx.new _ _ _ | exact Bx.newAt (by first|omega|simp only [nx];omega) | refine Bx.put (by first|omega|simp only [nx];omega) _ _ | refine Bx.alloc ?_ _ | refine Bx.set ?_ (by first|omega|simp only [nx];omega) _)
  rintro H2 ⟨g2, e1, f1⟩
  have nf1 := f1.1
  have b2 := b1.grow g2
  have c2 := c1.grow g2
  have d2 := d1.grow g2
  (repeat first|apply V.seq|apply V.block|apply V.scope|apply V.skip|apply V.close)
  refine V.draw ?_
  refine VD.callR (by simp only [D6,D5,hF,hA,↓reduceIte,qD,qE]; try rfl) (f53_ok _) (by simp only [D6,D5,hF,hA,↓reduceIte,qD,qE]; try rfl) (fun v3 H3 ⟨i, j, x, q3, hi, hj, hx, g3, w3⟩ => ?_)
  subst q3
  have b3 := b2.grow g3
  have n3 := g3.1
  refine VD.lineD' (by simp +contextual (disch := first|omega|simp only [nx];omega) only [D4,qF,qG,qA,qB,qC,D5,hF,hA,↓reduceIte,qD,qE, b3.2]; with_reducible rfl) ?_ ?_ rfl ?_
  · simp only [monoG, List.cons_append, List.nil_append, Heap.next_set, Heap.next_alloc, Nat.le_refl, true_and, and_true] <;> omega
  · simp only [dcAll, dcOk, wantD, List.cons_append, List.nil_append, true_and, and_true]
    exact ⟨fun _ q hq => by simp only [List.mem_cons, List.not_mem_nil, or_false] at hq; (repeat (rcases hq with rfl | hq; exact ⟨_, _, _, rfl, (by simp +contextual (disch := first|omega|simp only [nx];omega) only [D4,qF,qG,qA,qB,qC,D5,hF,hA,↓reduceIte,qD,qE, b2.2, b3.2]; with_reducible rfl), fun p hp => by cases hp; simp only [D5,hF,hA,↓reduceIte,qD,qE]; first | exact vEq_An | (simp [vEq, vEq0, all2]; done) | assumption⟩)); (try (subst hq; exact ⟨_, _, _, rfl, (by simp +contextual (disch := first|omega|simp only [nx];omega) only [D4,qF,qG,qA,qB,qC,D5,hF,hA,↓reduceIte,qD,qE, b2.2, b3.2]; with_reducible rfl), fun p hp => by cases hp; simp only [D5,hF,hA,↓reduceIte,qD,qE]; first | exact vEq_An | (simp [vEq, vEq0, all2]; done) | assumption⟩)), fun _ => ⟨_, _, _, rfl, rfl, rfl, (by simp only [D5,hF,hA,↓reduceIte,qD,qE]; simp [inBound]), fun _ => ⟨_, _, _, cells_alloc _ _ _ _, (by first | exact An_inb | rfl)⟩⟩, fun _ => ⟨_, _, _, rfl, rfl, rfl, (by simp only [D5,hF,hA,↓reduceIte,qD,qE]; simp [inBound]), fun _ => ⟨_, _, _, cells_alloc _ _ _ _, (by first | exact An_inb | rfl)⟩⟩⟩
  refine V.heap (fun X => Grow H3 X ∧ Bx X H3.next [cw i j] 33 ∧ Bx X (H3.next + 1) (A2 0 a) 53) ⟨?_, ?_, ?_⟩ ?_
  · (repeat first | assumption | exact Grow.refl _ | refine Grow.alloc ?_ _ | refine Grow.set ?_ (by first|omega|simp only [nx];omega) _)
  · (repeat first | assumption | exact Bx.new _ _ _ | exact Bx.newAt (by first|omega|simp only [nx];omega) | refine Bx.put (by first|omega|simp only [nx];omega) _ _ | refine Bx.alloc ?_ _ | refine Bx.set ?_ (by first|omega|simp only [nx];omega) _)
  · (repeat first | assumption | exact Bx.new _ _ _ | exact Bx.newAt (by first|omega|simp only [nx];omega) | refine Bx.put (by first|omega|simp only [nx];omega) _ _ | refine Bx.alloc ?_ _ | refine Bx.set ?_ (by first|omega|simp only [nx];omega) _)
  rintro H4 ⟨g4, k4, l4⟩
  have n4 := l4.1
  have b4 := b3.grow g4
  have c4 := (c2.grow g3).grow g4
  have d4 := (d2.grow g3).grow g4
  have e4 := (e1.grow g3).grow g4
  have f4 := (f1.grow g3).grow g4
  have w4 := w3.grow g4
  have hx4 : x < H4.next := by
    obtain ⟨es, hm, _⟩ := w4.2.2.2.2
    exact hm.1
  have hi4 := w4.1.1
  have hj4 := w4.2.1.1
  have hx3 : x < H3.next := by
    obtain ⟨es, hm, _⟩ := w3.2.2.2.2
    exact hm.1
  have hi3 := w3.1.1
  have hj3 := w3.2.1.1
  (repeat first|apply V.seq|apply V.block|apply V.scope|apply V.skip|apply V.close)
  refine V.re [(3, PT H.next), (4, PT (H.next + 1)), (5, PT (H.next + 2)), (8, PT H1.next), (9, PT (H1.next + 1)), (10, PT H3.next), (11, PT (H3.next + 1))] (N := 40) (by intro i; simp only [full_st, hF]) (by simp only [Kn, D5,hF,hA,↓reduceIte,qD,qE, and_self, and_true, true_and]; try (repeat' constructor)) ?_
  clear hF hA
  intro t hF hA
  simp only [Kn, and_true] at hA
  refine V.run ?_
  refine VI.steps' 1 (by simp +contextual (disch := first|omega|simp only [nx];omega) only [D4,qF,qG,qA,qB,qC,D5,hF,hA,↓reduceIte,qD,qE, l4.2]; with_reducible rfl) ?_
  simp only [ds]
  refine VI.callR (by simp only [D6,D5,hF,hA,↓reduceIte,qD,qE]; try rfl) (f75_ok 0 a _) (by simp only [D6,D5,hF,hA,↓reduceIte,qD,qE]; try rfl) (fun v5 H5 ⟨p, hv5, hp, g5, p5⟩ => ?_)
  subst hv5
  refine VI.line' (by simp +contextual (disch := first|omega|simp only [nx];omega) only [D4,qF,qG,qA,qB,qC,D5,hF,hA,↓reduceIte,qD,qE]; with_reducible rfl) ?_
  have n5 := g5.1
  have np := p5.1
  have ec : ((0 : Nat) : Int) + ((a + 1 : Nat) : Int) - 1 = a := by omega
  have p5' : Bx H5 p (A2 ((0 : Nat) : Int) (((0 : Nat) : Int) + ((a + 1 : Nat) : Int) - 1)) 53 := by rw [ec]; exact p5
  (repeat first|apply V.seq|apply V.block|apply V.scope|apply V.skip|apply V.close)
  refine V.re [(3, PT H.next), (4, PT (H.next + 1)), (5, PT (H.next + 2)), (8, PT H1.next), (9, PT (H1.next + 1)), (10, PT H3.next), (19, nf p)] (N := 40) (by intro i; simp only [full_st, hF]) (by simp only [Kn, D5,hF,hA,↓reduceIte,qD,qE, and_self, and_true, true_and]; try (repeat' constructor)) ?_
  clear hF hA
  intro t hF hA
  simp only [Kn, and_true] at hA
  refine V.rangeL (f89_iter 0 (a + 1) (by omega) p5') (fun y => y = x ∨ y = H1.next ∨ y = H1.next + 1 ∨ H5.next + 1 < y) (fun k X => Wy X i j x ∧ Bx X H.next [I a] 3 ∧ Bx X (H.next + 1) (A2 m b) 53 ∧ Bx X (H.next + 2) (A2 n q) 36 ∧ Bx X H1.next [I 0] 3 ∧ Bx X (H1.next + 1) [I 9] 24 ∧ Bx X H3.next [cw i j] 33 ∧ ∀ k', k' < k → ¬ lge a b m k' n q) (fun e X => e = .exit 0 ∧ ∃ k : Nat, k ≤ a ∧ lge a b m k n q ∧ (∀ k', k' < k → ¬ lge a b m k' n q) ∧ Bx X H1.next [I k] 3 ∧ Bx X (H1.next + 1) [I 0] 24)
    (by simp only [D6,D5,hF,hA,↓reduceIte,qD,qE]; try rfl) rfl (Nat.le_succ _) ?_ ?_ ?_ ?_ ?_ ?_ ?_
  · rintro _ rfl
    exact ⟨p5.1, by omega, by rw [Heap.get_alloc, if_neg (by omega)]⟩
  · intro l hl
    obtain ⟨q, _, rfl⟩ := List.mem_map.1 hl
    rfl
  · rintro k X X' r1 r2 ⟨h1, h2, h3, h4, h5, h6, h7, h8⟩ _ _ g
    simp only [Heap.next_alloc] at g
    exact ⟨h1.growS g (by omega) (by omega) (by omega), h2.growS g (by omega), h3.growS g (by omega), h4.growS g (by omega), h5.growS g (by omega), h6.growS g (by omega), h7.growS g (by omega), h8⟩
  · rintro e X X' r1 r2 ⟨he, k, h1, h2, h3, h4, h5⟩ _ _ g
    simp only [Heap.next_alloc] at g
    exact ⟨he, k, h1, h2, h3, h4.growS g (by omega), h5.growS g (by omega)⟩
  · intro r
    have g : Grow H4 ((H5.alloc (.deferred true)).alloc (.loop r)) := g5.trans (((Grow.refl H5).alloc _).alloc _)
    exact ⟨w4.grow g, b4.grow g, c4.grow g, d4.grow g, e4.grow g, f4.grow g, k4.grow g, fun k' h => absurd h (by omega)⟩
  · rintro k hk r X ⟨h1, h2, h3, h4, h5, h6, h7, h8⟩ hg hlX hl hr
    simp only [Heap.next_alloc] at hlX
    rw [numL_len] at hk
    rw [numL_get]
    simp only [sets]
    refine V.line' (by simp +contextual (disch := first|omega|simp only [nx];omega) only [D4,qF,qG,qA,qB,qC,D5,hF,hA,↓reduceIte,qD,qE]; with_reducible rfl) ?_
    refine V.nil ⟨rfl, hl, .refl _, ?_⟩
    intro X2 _ hl2 g2'
    simp only [Heap.next_alloc] at g2' hl2
    have h1 := h1.growS g2' (by omega) (by omega) (by omega)
    have h2 := h2.growS g2' (by omega)
    have h3 := h3.growS g2' (by omega)
    have h4 := h4.growS g2' (by omega)
    have h5 := h5.growS g2' (by omega)
    have h6 := h6.growS g2' (by omega)
    have h7 := h7.growS g2' (by omega)
    have hlt2 := Nat.lt_of_lt_of_le hlX g2'.1
    have ek : ((0 + k : Nat) : Int) = (k : Int) := by omega
    (repeat first|apply V.seq|apply V.block|apply V.scope|apply V.skip|apply V.close)
    refine V.line' (by simp +contextual (disch := first|omega|simp only [nx];omega) only [D4,qF,qG,qA,qB,qC,D5,hF,hA,↓reduceIte,qD,qE, h2.2, h3.2, h7.2]; with_reducible rfl) ?_
    refine V.heap (fun Y => Grow X2 Y ∧ Bx Y X2.next [I a, I b, I k, I 0, cw i j] 92) ⟨?_, ?_⟩ ?_
    · (repeat first | assumption | exact Grow.refl _ | refine Grow.alloc ?_ _ | refine Grow.set ?_ (by first|omega|simp only [nx];omega) _)
    · (repeat first | assumption | exact Bx.new _ _ _ | exact Bx.newAt (by first|omega|simp only [nx];omega) | refine Bx.put (by first|omega|simp only [nx];omega) _ _ | refine Bx.alloc ?_ _ | refine Bx.set ?_ (by first|omega|simp only [nx];omega) _)
    rintro Y1 ⟨gy1, t13⟩
    have h3y := h3.grow gy1
    (repeat first|apply V.seq|apply V.block|apply V.scope|apply V.skip|apply V.close)
    refine V.re [(4, PT (H.next + 1)), (5, PT (H.next + 2)), (8, PT H1.next), (9, PT (H1.next + 1)), (12, I k), (13, PT X2.next)] (N := 40) (by intro i; simp only [full_st, hF]) (by simp only [Kn, D5,hF,hA,↓reduceIte,qD,qE, and_self, and_true, true_and]; try (repeat' constructor)) ?_
    clear hF hA
    intro t hF hA
    simp only [Kn, and_true] at hA
    refine V.run ?_
    refine VI.steps' 1 (by simp +contextual (disch := first|omega|simp only [nx];omega) only [D4,qF,qG,qA,qB,qC,D5,hF,hA,↓reduceIte,qD,qE, h3y.2]; with_reducible rfl) ?_
    simp only [ds]
    refine VI.callR (by simp only [D6,D5,hF,hA,↓reduceIte,qD,qE]; try rfl) (f75_ok m b _) (by simp only [D6,D5,hF,hA,↓reduceIte,qD,qE]; try rfl) (fun v6 Y2 ⟨p', hv6, hp', gy2, p6⟩ => ?_)
    subst hv6
    refine VI.line' (by simp +contextual (disch := first|omega|simp only [nx];omega) only [D4,qF,qG,qA,qB,qC,D5,hF,hA,↓reduceIte,qD,qE]; with_reducible rfl) ?_
    have ny1 := gy1.1
    have ny2 := gy2.1
    have nt := t13.1
    have np6 := p6.1
    have gyy := gy1.trans gy2
    have w1 := h1.grow gyy
    have z2 := h2.grow gyy
    have z3 := h3.grow gyy
    have z4 := h4.grow gyy
    have z5 := h5.grow gyy
    have z6 := h6.grow gyy
    have z7 := h7.grow gyy
    have t14 := t13.grow gy2
    have hly : Y2.get (H5.next + 1) = some (.loop { r with state := .busy }) := by rw [gyy.2 _ hlt2]; exact hl2
    have ec2 : ((m : Nat) : Int) + ((b + 1 - m : Nat) : Int) - 1 = b := by omega
    have p6' : Bx Y2 p' (A2 ((m : Nat) : Int) (((m : Nat) : Int) + ((b + 1 - m : Nat) : Int) - 1)) 53 := by rw [ec2]; exact p6
    have hka : k ≤ a := by omega
    (repeat first|apply V.seq|apply V.block|apply V.scope|apply V.skip|apply V.close)
    refine V.re [(5, PT (H.next + 2)), (8, PT H1.next), (9, PT (H1.next + 1)), (12, I k), (13, PT X2.next), (29, nf p')] (N := 40) (by intro i; simp only [full_st, hF]) (by simp only [Kn, D5,hF,hA,↓reduceIte,qD,qE, and_self, and_true, true_and]; try (repeat' constructor)) ?_
    clear hF hA
    intro t hF hA
    simp only [Kn, and_true] at hA
    refine V.rangeL (f89_iter m (b + 1 - m) (by omega) p6') (fun y => y = x) (fun v X => Wy X i j x ∧ Bx X X2.next [I a, I b, I k, I 0, cw i j] 92 ∧ Bx X (H.next + 2) (A2 n q) 36 ∧ (∀ u, u < m + v → m ≤ u → ¬ small a k n q u)) (fun e X => e = .exit 1 ∧ Wy X i j x ∧ ¬ lge a b m k n q)
      (dd := r.defers) (m1 := []) (H1 := Y2) (by simp only [D6,D5,hF,hA,↓reduceIte,qD,qE]; try rfl) (by simp only [xenter, Heap.next_alloc, hly]) (Nat.le_refl _) ?_ ?_ ?_ ?_ ?_ ?_ ?_
    · rintro _ rfl
      exact ⟨p6.1, by omega, rfl⟩
    · intro l hl
      obtain ⟨q, _, rfl⟩ := List.mem_map.1 hl
      rfl
    · rintro v X X' r1 r2 ⟨q1, q2, q3, q4⟩ _ _ g
      exact ⟨q1.growS g (by omega) (by omega) (by omega), q2.growS g (by omega), q3.growS g (by omega), q4⟩
    · rintro e X X' r1 r2 ⟨he, q1, q2⟩ _ _ g
      exact ⟨he, q1.growS g (by omega) (by omega) (by omega), q2⟩
    · intro r'
      have g : Grow Y2 (Y2.alloc (.loop r')) := (Grow.refl Y2).alloc _
      exact ⟨w1.grow g, t14.grow g, z4.grow g, fun u h1 h2 => absurd h1 (by omega)⟩
    · rintro v hv r' X ⟨q1, q2, q3, q4⟩ hg' hlX' hl' hr'
      rw [numL_len] at hv
      rw [numL_get]
      simp only [sets]
      refine V.line' (by simp +contextual (disch := first|omega|simp only [nx];omega) only [D4,qF,qG,qA,qB,qC,D5,hF,hA,↓reduceIte,qD,qE]; with_reducible rfl) ?_
      refine V.nil ⟨rfl, hl', .refl _, ?_⟩
      intro X3 _ hl3 g3'
      have q1 := q1.growS g3' (by omega) (by omega) (by omega)
      have q2 := q2.growS g3' (by omega)
      have q3 := q3.growS g3' (by omega)
      have hlt3 := Nat.lt_of_lt_of_le hlX' g3'.1
      have hub : m + v ≤ b := by omega
      have c1 := ch_pos (n := a + (m + v)) (k := k) (by omega)
      have c2 := ch_bound (n := a + (m + v)) k (by omega)
      (repeat first|apply V.seq|apply V.block|apply V.scope|apply V.skip|apply V.close)
      refine V.draw ?_
      refine VD.dins 2 (by simp +contextual (disch := first|omega|simp only [nx];omega) only [D4,qF,qG,qA,qB,qC,D5,hF,hA,↓reduceIte,qD,qE, q2.2]; with_reducible rfl) ?_
      simp only [ds]
      refine VD.callR (by simp only [D6,D5,hF,hA,↓reduceIte,qD,qE]; try rfl) (f87_ok (b := b) (d := 0) (u := m + v) (by omega) hka q1) (by simp only [D6,D5,hF,hA,↓reduceIte,qD,qE]; try rfl) (fun v7 X4 ⟨q7, g7, w7⟩ => ?_)
      subst q7
      have r2 := q2.growX g7 (by omega)
      have r3 := q3.growX g7 (by omega)
      refine VD.dins 1 (by simp +contextual (disch := first|omega|simp only [nx];omega) only [D4,qF,qG,qA,qB,qC,D5,hF,hA,↓reduceIte,qD,qE, r3.2]; with_reducible rfl) ?_
      simp only [ds]
      refine VD.callA (by simp only [D6,D5,hF,hA,↓reduceIte,qD,qE]; try rfl) (f83_frl (p := ch (a + (m + v)) k - ch a k) (w := ch (a + (m + v)) k) (n := n) (q := q) c1 (by omega) (by omega) (by omega) (by omega) _) (by simp only [D6,D5,hF,hA,↓reduceIte,qD,qE]; try rfl) (fun X5 gx5 => ?_)
      have s3 := r3.grow gx5
      refine VD.lineD' (by simp +contextual (disch := first|omega|simp only [nx];omega) only [D4,qF,qG,qA,qB,qC,D5,hF,hA,↓reduceIte,qD,qE]; with_reducible rfl) ?_ ?_ rfl ?_
      · have := g7.1
        have := gx5.1
        simp only [monoG, List.cons_append, List.nil_append, Heap.next_set, Heap.next_alloc, Nat.le_refl, true_and, and_true] <;> omega
      · simp only [dcAll, dcOk, wantD, List.cons_append, List.nil_append, true_and, and_true]
        exact fun _ q hq => by simp only [List.mem_cons, List.not_mem_nil, or_false] at hq; (repeat (rcases hq with rfl | hq; exact ⟨_, _, _, rfl, (by simp +contextual (disch := first|omega|simp only [nx];omega) only [D4,qF,qG,qA,qB,qC,D5,hF,hA,↓reduceIte,qD,qE, q3.2, r3.2, s3.2]; with_reducible rfl), fun p hp => by cases hp; simp only [D5,hF,hA,↓reduceIte,qD,qE]; first | exact vEq_An | (simp [vEq, vEq0, all2]; done) | assumption⟩)); (try (subst hq; exact ⟨_, _, _, rfl, (by simp +contextual (disch := first|omega|simp only [nx];omega) only [D4,qF,qG,qA,qB,qC,D5,hF,hA,↓reduceIte,qD,qE, q3.2, r3.2, s3.2]; with_reducible rfl), fun p hp => by cases hp; simp only [D5,hF,hA,↓reduceIte,qD,qE]; first | exact vEq_An | (simp [vEq, vEq0, all2]; done) | assumption⟩))
      have hlx : X5.get Y2.next = some (.loop { r' with state := .busy }) := by rw [gx5.2 _ (Nat.lt_of_lt_of_le hlt3 g7.1), g7.2 _ hlt3 (by omega)]; exact hl3
      have gs := (GrowS.x (U := fun y => y = x) g7 rfl).trans (Grow.s gx5)
      have hsm : (cmpN ((ch (a + (m + v)) k - ch a k) * q) (n * ch (a + (m + v)) k) < 0) = small a k n q (m + v) := by rw [cmp_lt]; rfl
      (repeat first|apply V.seq|apply V.block|apply V.scope|apply V.skip|apply V.close)
      refine V.condP (by simp only [D6,D5,hF,hA,↓reduceIte,qD,qE]; rfl) (fun hc => ?_) (fun hc => ?_)
      · have hc' : small a k n q (m + v) := by rw [← hsm]; exact hc
        (repeat first|apply V.seq|apply V.block|apply V.scope|apply V.skip|apply V.close)
        refine V.exit ?_
        (repeat first | refine V.pass ?_ | refine V.here ?_ | refine V.out (by decide) ?_)
        exact V.nil ⟨hlx, gs, .inr ⟨by simp, rfl, w7.grow gx5, fun h => h (m + v) (by omega) (by omega) hc'⟩⟩
      · have hc' : ¬ small a k n q (m + v) := by rw [← hsm]; exact hc
        (repeat first|apply V.seq|apply V.block|apply V.scope|apply V.skip|apply V.close)
        refine V.nil ⟨hlx, gs, .inl ⟨rfl, w7.grow gx5, r2.grow gx5, s3, fun u h1 h2 => ?_⟩⟩
        rcases Nat.lt_or_ge u (m + v) with h3 | h3
        · exact q4 u h3 h2
        · obtain rfl : u = m + v := by omega
          exact hc'
    · rintro e X h hg' hlX'
      have n8 := z5.1
      have n9 := z6.1
      have lo : Y2.next ≤ X.next := hg'.1
      have hlX2 : X.get (H5.next + 1) = some (.loop { r with state := .busy }) := by rw [hg'.2 _ (by omega) (by omega)]; exact hly
      have gXX : GrowS (fun y => y = x ∨ y = H1.next ∨ y = H1.next + 1 ∨ H5.next + 1 < y) X2 X := (Grow.s gyy).trans (hg'.mono (fun i hi => by omega))
      have y2 := z2.growS hg' (by omega)
      have y3 := z3.growS hg' (by omega)
      have y4 := z4.growS hg' (by omega)
      have y5 := z5.growS hg' (by omega)
      have y6 := z6.growS hg' (by omega)
      have y7 := z7.growS hg' (by omega)
      rcases h with ⟨rfl, q1, q2, q3, q4⟩ | ⟨_, rfl, q1, q2⟩
      · rw [numL_len] at q4
        have hlge : lge a b m k n q := fun u h1 h2 => q4 u (by omega) h2
        (repeat first|apply V.seq|apply V.block|apply V.scope|apply V.skip|apply V.close)
        refine V.line' (by simp +contextual (disch := first|omega|simp only [nx];omega) only [D4,qF,qG,qA,qB,qC,D5,hF,hA,↓reduceIte,qD,qE, y5.2, y6.2]; with_reducible rfl) ?_
        refine V.heap (fun Z => GrowS (fun y => y = H1.next ∨ y = H1.next + 1) X Z ∧ Bx Z H1.next [I k] 3 ∧ Bx Z (H1.next + 1) [I 0] 24) ⟨?_, ?_, ?_⟩ ?_
        · exact ((GrowS.refl X).set (U := fun y => y = H1.next ∨ y = H1.next + 1) (i := H1.next) (.inl (.inl rfl)) _).set (i := H1.next + 1) (.inl (.inr rfl)) _
        · have := y5.1
          have := y6.1
          (repeat first | assumption | exact Bx.new _ _ _ | exact Bx.newAt (by first|omega|simp only [nx];omega) | refine Bx.put (by first|omega|simp only [nx];omega) _ _ | refine Bx.alloc ?_ _ | refine Bx.set ?_ (by first|omega|simp only [nx];omega) _)
        · have := y5.1
          have := y6.1
          (repeat first | assumption | exact Bx.new _ _ _ | exact Bx.newAt (by first|omega|simp only [nx];omega) | refine Bx.put (by first|omega|simp only [nx];omega) _ _ | refine Bx.alloc ?_ _ | refine Bx.set ?_ (by first|omega|simp only [nx];omega) _)
        rintro Z ⟨gz, E8, E9⟩
        (repeat first|apply V.seq|apply V.block|apply V.scope|apply V.skip|apply V.close)
        refine V.exit ?_
        (repeat first | refine V.pass ?_ | refine V.here ?_ | refine V.out (by decide) ?_)
        refine V.nil ⟨?_, gXX.trans (gz.mono (fun i hi => by omega)), .inr ⟨by simp, rfl, k, hka, hlge, h8, E8, E9⟩⟩
        simp only [Heap.next_alloc]
        rw [gz.2 _ (by omega) (by omega)]
        exact hlX2
      · (repeat first | refine V.pass ?_ | refine V.here ?_ | refine V.out (by decide) ?_)
        refine V.nil ⟨?_, gXX, .inl ⟨rfl, q1, y2, y3, y4, y5, y6, y7, fun k' hk' => ?_⟩⟩
        · simp only [Heap.next_alloc]
          exact hlX2
        · rcases Nat.lt_or_ge k' k with h9 | h9
          · exact h8 k' h9
          · obtain rfl : k' = k := by omega
            exact q2
  · rintro e X h hg hlX
    simp only [Heap.next_alloc] at hlX
    have hgd : X.get H5.next = some (.deferred true) := by
      rw [hg.2 _ (by simp only [Heap.next_alloc]; omega) (by simp only [Heap.next_alloc]; omega), Heap.get_alloc, if_pos rfl]
    have gfin : Grow H (X.set H5.next .dead) := by
      have q1 := g1.1
      have q2 := g2.1
      have q3 := g3.1
      have q4 := g4.1
      have g04 := (((g1.trans g2).trans g3).trans g4).trans g5
      refine ⟨by simp only [Heap.next_set]; omega, fun y hy => ?_⟩
      rw [Heap.get_set, if_neg (by omega), hg.2 y (by simp only [Heap.next_alloc]; omega) (by simp only [Heap.next_alloc]; omega), Heap.get_alloc, if_neg (by omega), g04.2 y hy]
    rcases h with ⟨rfl, h1, h2, h3, h4, E8, E9, h7, h8⟩ | ⟨_, rfl, k, h1, h2, h3, E8, E9⟩
    · rw [numL_len] at h8
      (repeat first|apply V.seq|apply V.block|apply V.scope|apply V.skip|apply V.close)
      refine V.lineD' (by simp +contextual (disch := first|omega|simp only [nx];omega) only [D4,qF,qG,qA,qB,qC,D5,hF,hA,↓reduceIte,qD,qE, E8.2, E9.2]; with_reducible rfl) ?_ ?_ rfl ?_
      · simp only [monoG, List.cons_append, List.nil_append, Heap.next_set, Heap.next_alloc, Nat.le_refl, true_and, and_true] <;> omega
      · simp only [dcAll, dcOk, wantD, List.cons_append, List.nil_append, true_and, and_true]
      (repeat first|apply V.seq|apply V.block|apply V.scope|apply V.skip|apply V.close)
      refine V.ret (V.rets rfl (Lv.retM hgd (by simp only [yres, yres1, yresL, D5,hF,hA,↓reduceIte,qD,qE]; rfl) ?_))
      refine ⟨gfin, .inr ⟨h8, rfl⟩⟩
    · (repeat first | refine V.pass ?_ | refine V.here ?_ | refine V.out (by decide) ?_)
      (repeat first|apply V.seq|apply V.block|apply V.scope|apply V.skip|apply V.close)
      refine V.lineD' (by simp +contextual (disch := first|omega|simp only [nx];omega) only [D4,qF,qG,qA,qB,qC,D5,hF,hA,↓reduceIte,qD,qE, E8.2, E9.2]; with_reducible rfl) ?_ ?_ rfl ?_
      · simp only [monoG, List.cons_append, List.nil_append, Heap.next_set, Heap.next_alloc, Nat.le_refl, true_and, and_true] <;> omega
      · simp only [dcAll, dcOk, wantD, List.cons_append, List.nil_append, true_and, and_true]
      (repeat first|apply V.seq|apply V.block|apply V.scope|apply V.skip|apply V.close)
      refine V.ret (V.rets rfl (Lv.retM hgd (by simp only [yres, yres1, yresL, D5,hF,hA,↓reduceIte,qD,qE]; rfl) ?_))
      refine ⟨gfin, .inl ⟨k, h1, h2, h3, rfl⟩⟩
end Go.Xe.TMX
