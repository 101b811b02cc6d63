/- What the functions of the layer miss come to: the likely numbers. Conditions: none. -/
import Derived.Test.YtefoodhfkkcmcabTNP
-- MOD TM
namespace Go.Xe.TMX
open Go Go.Xe Go.Proofs Go.Xe.Mth
open Nat (reduceLeDiff reduceSub reduceAdd reduceEqDiff reduceLT)
open Int (reduceNegSucc reduceEq)
set_option maxRecDepth 100000
set_option maxHeartbeats 3200000
set_option linter.unusedSimpArgs false
noncomputable def d63 : FCode := (.seq (.run (.go (.box 92 (.tmp (pth 0))) (pth 1)::
.go (.move (.con (.slice none 0 0))) (pth 2)::
[])) (.seq (.run (.go (.alloc 45 [(.slice none 0 0)]) (pth 3)::
[])) (.seq (.run (.go (.build [(.int .i64 (.ofNat 0)),(.int .i64 (.ofNat 0))] [(0,1,(.con (.int .i64 (.ofNat 0)))),(1,1,(.con (.int .i64 (.ofNat 1))))]) (pth 8)::
.go (.alloc 36 [(.int .i64 (.ofNat 0)),(.int .i64 (.ofNat 0))]) (pth 4)::
.un (.store 2 (.tmp (pth 4)) (.tmp (pth 8)))::
[])) (.seq (.seq (.run (.go (.loadN 5 (.tmp (pth 1))) (pth 9)::
.go (.call (.con (.func (.func 79) ⟨[]⟩ ⟨[]⟩)) [(.tmp (pth 9))]) (pth 10)::
.go (.call (.con (.func (.func 75) ⟨[]⟩ ⟨[]⟩)) [(.tmp (pth 10))]) (pth 11)::
[])) (.block 0 (.rangeFunc (.tmp (pth 11)) [(pth 12)] (rfA Try.f63 0) (rfB Try.f63 0) (.run (.go (.move (.tmp (pth 12))) (pth 5)::
[])) (.block 1 (.seq (.run (.go (.loadN 5 (.tmp (pth 1))) (pth 13)::
.go (.move (.tmp (pth 5))) (pth 14)::
.go (.call (.con (.func (.func 57) ⟨[]⟩ ⟨[]⟩)) [(.tmp (pth 13)),(.tmp (pth 14))]) (pth 15)::
.go (.alloc 36 [(.int .i64 (.ofNat 0)),(.int .i64 (.ofNat 0))]) (pth 6)::
.un (.store 2 (.tmp (pth 6)) (.tmp (pth 15)))::
[])) (.seq (.run (.go (.loadN 2 (.tmp (pth 6))) (pth 16)::
.go (.loadN 2 (.tmp (pth 4))) (pth 17)::
.go (.call (.con (.func (.func 83) ⟨[]⟩ ⟨[]⟩)) [(.tmp (pth 16)),(.tmp (pth 17))]) (pth 18)::
.go (.move (.tmp (pth 18))) (pth 7)::
[])) (.seq (.seq (.run (.go (.move (.tmp (pth 7))) (pth 19)::
.go (.bin .gtr 3 (.tmp (pth 19)) (.con (.int .i64 (.ofNat 0)))) (pth 20)::
[])) (.cond (.tmp (pth 20)) (.run (.go (.loadN 2 (.tmp (pth 6))) (pth 21)::
.un (.store 2 (.tmp (pth 4)) (.tmp (pth 21)))::
.un (.store 1 (.tmp (pth 3)) (.con (.slice none 0 0)))::
[])) .skip)) (.seq (.run (.go (.move (.tmp (pth 7))) (pth 22)::
.go (.bin .geq 3 (.tmp (pth 22)) (.con (.int .i64 (.ofNat 0)))) (pth 23)::
.go (.move (.tmp (pth 23))) (pth 24)::
.gd (pth 24) true (.fieldAddr 0 (.tmp (pth 6))) (pth 25)::
.gd (pth 24) true (.load1 (.tmp (pth 25))) (pth 26)::
.gd (pth 24) true (.bin .gtr 3 (.tmp (pth 26)) (.con (.int .i64 (.ofNat 0)))) (pth 27)::
.go (.pick (.tmp (pth 24)) (.tmp (pth 27)) (.con (.bool false))) (pth 28)::
[])) (.cond (.tmp (pth 28)) (.run (.go (.load1 (.tmp (pth 3))) (pth 29)::
.go (.move (.tmp (pth 5))) (pth 30)::
.go (.buildSlice 3 1 [(.int .i64 (.ofNat 0))] [(0,1,(.tmp (pth 30)))]) (pth 31)::
.go (.append 3 1 8 (.tmp (pth 29)) (.tmp (pth 31))) (pth 32)::
.un (.store 1 (.tmp (pth 3)) (.tmp (pth 32)))::
[])) .skip))))))))) (.seq (.run (.go (.load1 (.tmp (pth 3))) (pth 33)::
.go (.move (.tmp (pth 33))) (pth 2)::
[])) .ret)))))
theorem de63 : @compF Try.prog (Gl.none Try.prog) Try.f63 1 = .mk d63 (mkTT 34) [(pth 0)] [.tmp (pth 2)] := by kernel_rfl
theorem dg63 : Try.prog.funcs[63]? = some Try.f63 := Try.func63
theorem do63 : okF Try.prog Try.f63 = true := by kernel_rfl
def lkS (a c d : Nat) : Nat → Nat × Nat × List Int
  | 0 => (0, 1, [])
  | k + 1 =>
    if (lkS a c d k).1 * ch (a + k) c < part a k c d * (lkS a c d k).2.1 then (part a k c d, ch (a + k) c, [(k : Int)])
    else if part a k c d * (lkS a c d k).2.1 = (lkS a c d k).1 * ch (a + k) c ∧ 0 < part a k c d then ((lkS a c d k).1, (lkS a c d k).2.1, (lkS a c d k).2.2 ++ [(k : Int)])
    else lkS a c d k
theorem cmp_congr {x y z w : Nat} (h1 : x < y ↔ z < w) (h2 : y < x ↔ w < z) : cmpN x y = cmpN z w := by
  unfold cmpN
  split <;> split <;> (try split) <;> (try split) <;> omega
theorem fr_lt {p w n q : Nat} (hw : 0 < w) (hq : 0 < q) : (p / Nat.gcd p w * (q / Nat.gcd n q) < n / Nat.gcd n q * (w / Nat.gcd p w)) = (p * q < n * w) := by
  obtain ⟨a1, a2, a3, a4, a5, a6⟩ := gcd_parts (p := n) hq
  rw [below_fr hw]
  generalize q / Nat.gcd n q = q1 at *
  generalize n / Nat.gcd n q = n1 at *
  generalize Nat.gcd n q = g at *
  subst a4 a5
  have e1 : p * (q1 * g) = p * q1 * g := (Nat.mul_assoc _ _ _).symm
  have e2 : n1 * g * w = n1 * w * g := Nat.mul_right_comm _ _ _
  rw [e1, e2]
  exact propext (Nat.mul_lt_mul_right a6).symm
theorem f83_fr {p w n q : Nat} (hw : 0 < w) (hq : 0 < q) (hp2 : p < 9223372036854775808) (hw2 : w < 9223372036854775808) (hn2 : n < 9223372036854775808) (hq2 : q < 9223372036854775808) (H : Heap) : Gives Try.prog 83 [.agg ⟨fr p w⟩, .agg ⟨fr n q⟩] H (I (cmpN (p * q) (n * w))) := by
  obtain ⟨_, a2, a3, _⟩ := gcd_parts (p := p) hw
  obtain ⟨_, b2, b3, _⟩ := gcd_parts (p := n) hq
  have h := f83_ok (n := p / Nat.gcd p w) (d := w / Nat.gcd p w) (p := n / Nat.gcd n q) (q := q / Nat.gcd n q) (by omega) (by omega) (by omega) (by omega) H
  have e : cmpN (p / Nat.gcd p w * (q / Nat.gcd n q)) (n / Nat.gcd n q * (w / Nat.gcd p w)) = cmpN (p * q) (n * w) := cmp_congr (Iff.of_eq (fr_lt hw hq)) (Iff.of_eq (fr_lt hq hw))
  rw [e] at h
  exact h
theorem lkS_ok {a c d : Nat} (hd : d ≤ c) (hc : c ≤ a) : ∀ k, a + k ≤ 51 → 0 < (lkS a c d k).2.1 ∧ (lkS a c d k).2.1 ≤ 1152921504606846976 ∧ (lkS a c d k).1 ≤ 1152921504606846976 ∧ (lkS a c d k).2.2.length ≤ k
  | 0, _ => by simp [lkS]
  | k + 1, h => by
    have ih := lkS_ok hd hc k (by omega)
    have h1 := ch_pos (n := a + k) (k := c) (by omega)
    have h2 := ch_bound (n := a + k) c (by omega)
    have h3 := part_le (a := a) (u := k) hd
    unfold lkS
    split
    · exact ⟨h1, h2, by show part a k c d ≤ _; omega, by simp⟩
    · split
      · exact ⟨ih.1, ih.2.1, ih.2.2.1, by simp only [List.length_append, List.length_cons, List.length_nil]; omega⟩
      · exact ⟨ih.1, ih.2.1, ih.2.2.1, by omega⟩
theorem f63_ok {a b c d : Nat} (hab : a + b ≤ 50) (hc : c ≤ a) (hd : d ≤ c) {H : Heap} {i j x : Nat} (hw : Wy H i j x) :
    F Try.prog 63 ⟨[.agg ⟨[I a, I b, I c, I d, cw i j]⟩]⟩ H (fun v H' => GrowX x H H' ∧ Wy H' i j x ∧ Sl H' v ((lkS a c d (b + 1)).2.2.map I)) := by
  have hi := hw.1.1
  have hj := hw.2.1.1
  obtain ⟨es, hm, _⟩ := hw.2.2.2.2
  have hx := hm.1
  clear hm
  refine F.entryL rfl dg63 do63 de63 rfl (by kernel_rfl) ?_
  simp only [sets]
  refine V.re [(0, .agg ⟨[I a, I b, I c, I d, cw i j]⟩)] (N := 34) (by intro i; simp only [full_st, Full.mk]) (by simp only [Kn, gt_st, full_st, Full.mk, ↓reduceIte, reduceEqDiff, reduceLT, decide_true, and_self]) ?_
  intro t hF hA
  simp only [Kn, and_true] at hA
  (repeat first|apply V.seq|apply V.block|apply V.scope|apply V.skip|apply V.close)
  refine V.line' (by simp +contextual (disch := first|omega|simp only [nx];omega) only [D4,reduceNegSucc,reduceEq,reduceLeDiff,reduceSub,reduceAdd,D5,hF,hA,↓reduceIte,reduceEqDiff,reduceLT]; with_reducible rfl) ?_
  refine V.heap (fun X => Grow H X ∧ Bx X H.next [I a, I b, I c, I d, cw i j] 92) ⟨?_, ?_⟩ ?_
  · (repeat first | assumption | exact Grow.refl _ | refine Grow.alloc ?_ _ | refine Grow.set ?_ (by first|omega|simp only [nx];omega) _)
  · (repeat first | assumption | exact Bx.new _ _ _ | exact Bx.newAt (by first|omega|simp only [nx];omega) | refine Bx.put (by first|omega|simp only [nx];omega) _ _ | refine Bx.alloc ?_ _ | refine Bx.set ?_ (by first|omega|simp only [nx];omega) _)
  rintro H1 ⟨g1, b1⟩
  have n1 := b1.1
  (repeat first|apply V.seq|apply V.block|apply V.scope|apply V.skip|apply V.close)
  refine V.line' (by simp +contextual (disch := first|omega|simp only [nx];omega) only [D4,reduceNegSucc,reduceEq,reduceLeDiff,reduceSub,reduceAdd,D5,hF,hA,↓reduceIte,reduceEqDiff,reduceLT]; with_reducible rfl) ?_
  refine V.heap (fun X => Grow H1 X ∧ Bx X H1.next [.slice none 0 0] 45) ⟨?_, ?_⟩ ?_
  · (repeat first | assumption | exact Grow.refl _ | refine Grow.alloc ?_ _ | refine Grow.set ?_ (by first|omega|simp only [nx];omega) _)
  · (repeat first | assumption | exact Bx.new _ _ _ | exact Bx.newAt (by first|omega|simp only [nx];omega) | refine Bx.put (by first|omega|simp only [nx];omega) _ _ | refine Bx.alloc ?_ _ | refine Bx.set ?_ (by first|omega|simp only [nx];omega) _)
  rintro H2 ⟨g2, c1⟩
  have n2 := c1.1
  have b2 := b1.grow g2
  (repeat first|apply V.seq|apply V.block|apply V.scope|apply V.skip|apply V.close)
  refine V.line' (by simp +contextual (disch := first|omega|simp only [nx];omega) only [D4,reduceNegSucc,reduceEq,reduceLeDiff,reduceSub,reduceAdd,D5,hF,hA,↓reduceIte,reduceEqDiff,reduceLT]; with_reducible rfl) ?_
  refine V.heap (fun X => Grow H2 X ∧ Bx X H2.next (A2 0 1) 36) ⟨?_, ?_⟩ ?_
  · (repeat first | assumption | exact Grow.refl _ | refine Grow.alloc ?_ _ | refine Grow.set ?_ (by first|omega|simp only [nx];omega) _)
  · (repeat first | assumption | exact Bx.new _ _ _ | exact Bx.newAt (by first|omega|simp only [nx];omega) | refine Bx.put (by first|omega|simp only [nx];omega) _ _ | refine Bx.alloc ?_ _ | refine Bx.set ?_ (by first|omega|simp only [nx];omega) _)
  rintro H3 ⟨g3, d1⟩
  have n3 := d1.1
  have b3 := b2.grow g3
  have c3 := c1.grow g3
  (repeat first|apply V.seq|apply V.block|apply V.scope|apply V.skip|apply V.close)
  refine V.re [(1, PT H.next), (3, PT H1.next), (4, PT H2.next)] (N := 34) (by intro i; simp only [full_st, hF]) (by simp only [Kn, D5,hF,hA,↓reduceIte,reduceEqDiff,reduceLT, and_self, and_true, true_and]; try (repeat' constructor)) ?_
  clear hF hA
  intro t hF hA
  simp only [Kn, and_true] at hA
  refine V.run ?_
  refine VI.steps' 1 (by simp +contextual (disch := first|omega|simp only [nx];omega) only [D4,reduceNegSucc,reduceEq,reduceLeDiff,reduceSub,reduceAdd,D5,hF,hA,↓reduceIte,reduceEqDiff,reduceLT, b3.2]; with_reducible rfl) ?_
  simp only [ds]
  refine VI.callA rfl (f79_ok a b c d (cw i j) _) (by simp only [D6,D5,hF,hA,↓reduceIte,reduceEqDiff,reduceLT]; try rfl) (fun H4 g4 => ?_)
  refine VI.callR (by simp only [D6,D5,hF,hA,↓reduceIte,reduceEqDiff,reduceLT]; try rfl) (f75_ok 0 b _) (by simp only [D6,D5,hF,hA,↓reduceIte,reduceEqDiff,reduceLT]; try rfl) (fun v5 H5 ⟨p, hv5, hp, g5, b5⟩ => ?_)
  subst hv5
  refine VI.line' (by simp +contextual (disch := first|omega|simp only [nx];omega) only [D4,reduceNegSucc,reduceEq,reduceLeDiff,reduceSub,reduceAdd,D5,hF,hA,↓reduceIte,reduceEqDiff,reduceLT]; with_reducible rfl) ?_
  have g45 := g4.trans g5
  have g05 := ((g1.trans g2).trans g3).trans g45
  have w5 := hw.grow g05
  have bb := b3.grow g45
  have cc := c3.grow g45
  have dd := d1.grow g45
  have n5 := g45.1
  have n4 := g4.1
  have np := b5.1
  have ec : ((0 : Nat) : Int) + ((b + 1 : Nat) : Int) - 1 = b := by omega
  have b5' : Bx H5 p (A2 ((0 : Nat) : Int) (((0 : Nat) : Int) + ((b + 1 : Nat) : Int) - 1)) 53 := by rw [ec]; exact b5
  (repeat first|apply V.seq|apply V.block|apply V.scope|apply V.skip|apply V.close)
  refine V.re [(1, PT H.next), (3, PT H1.next), (4, PT H2.next), (11, nf p)] (N := 34) (by intro i; simp only [full_st, hF]) (by simp only [Kn, D5,hF,hA,↓reduceIte,reduceEqDiff,reduceLT, and_self, and_true, true_and]; try (repeat' constructor)) ?_
  clear hF hA
  intro t hF hA
  simp only [Kn, and_true] at hA
  refine V.rangeL (f89_iter 0 (b + 1) (by omega) b5') (fun y => y = x ∨ y = H1.next ∨ y = H2.next ∨ H5.next + 1 < y) (fun k X => Wy X i j x ∧ Bx X H.next [I a, I b, I c, I d, cw i j] 92 ∧ Bx X H2.next (fr (lkS a c d k).1 (lkS a c d k).2.1) 36 ∧ ∃ s, Bx X H1.next [s] 45 ∧ Ow (cutH X (H5.next + 2)) X 3 s ((lkS a c d k).2.2.map I)) (fun _ _ => False)
    (by simp only [D6,D5,hF,hA,↓reduceIte,reduceEqDiff,reduceLT]; try rfl) rfl (Nat.le_succ _) ?_ ?_ ?_ (fun _ _ _ _ _ h => h.elim) ?_ ?_ ?_
  · rintro _ rfl
    exact ⟨b5.1, by omega, by rw [Heap.get_alloc, if_neg (by omega)]⟩
  · intro l hl
    obtain ⟨q, _, rfl⟩ := List.mem_map.1 hl
    rfl
  · rintro k X X' r1 r2 ⟨h1, h2, h3, s, h4, h5⟩ _ _ g
    simp only [Heap.next_alloc] at g
    exact ⟨h1.growS g (by omega) (by omega) (by omega), h2.growS g (by omega), h3.growS g (by omega), s, h4.growS g (by omega), h5.growS g (fun i (hi : H5.next + 2 ≤ i) => by omega) (Nat.le_refl _)⟩
  · intro r
    have g : Grow H5 ((H5.alloc (.deferred true)).alloc (.loop r)) := ((Grow.refl H5).alloc _).alloc _
    have dd' : Bx H5 H2.next (fr (lkS a c d 0).1 (lkS a c d 0).2.1) 36 := by
      have e : fr (lkS a c d 0).1 (lkS a c d 0).2.1 = A2 0 1 := by simp [lkS, fr]
      rw [e]; exact dd
    exact ⟨w5.grow g, bb.grow g, dd'.grow g, _, cc.grow g, .inl ⟨rfl, rfl⟩⟩
  · rintro k hk r X ⟨h1, h2, h3, s, h4, h5⟩ hg hlX hl hr
    simp only [Heap.next_alloc] at hlX
    rw [numL_len] at hk
    rw [numL_get]
    simp only [sets]
    refine V.line' (by simp +contextual (disch := first|omega|simp only [nx];omega) only [D4,reduceNegSucc,reduceEq,reduceLeDiff,reduceSub,reduceAdd,D5,hF,hA,↓reduceIte,reduceEqDiff,reduceLT]; with_reducible rfl) ?_
    refine V.nil ⟨rfl, hl, .refl _, ?_⟩
    intro X2 _ hl2 g2'
    simp only [Heap.next_alloc] at g2' hl2
    have h1 := h1.growS g2' (by omega) (by omega) (by omega)
    have h2 := h2.growS g2' (by omega)
    have h3 := h3.growS g2' (by omega)
    have h4 := h4.growS g2' (by omega)
    have h5 : Ow (cutH X2 (H5.next + 2)) X2 3 s ((lkS a c d k).2.2.map I) := h5.growS g2' (fun i (hi : H5.next + 2 ≤ i) => by omega) (Nat.le_refl _)
    have hlt2 := Nat.lt_of_lt_of_le hlX g2'.1
    have hkb : k ≤ b := by omega
    have ek : ((0 + k : Nat) : Int) = (k : Int) := by omega
    obtain ⟨s1, s2, s3, s4⟩ := lkS_ok hd hc k (by omega)
    have q1 := ch_pos (n := a + k) (k := c) (by omega)
    have q2 := ch_bound (n := a + k) c (by omega)
    have q3 := part_le (a := a) (u := k) hd
    (repeat first|apply V.seq|apply V.block|apply V.scope|apply V.skip|apply V.close)
    refine V.re [(1, PT H.next), (3, PT H1.next), (4, PT H2.next), (5, I k)] (N := 34) (by intro i; simp only [full_st, hF]) (by simp only [Kn, D5,hF,hA,↓reduceIte,reduceEqDiff,reduceLT, and_self, and_true, true_and]; try (repeat' constructor)) ?_
    clear hF hA
    intro t hF hA
    simp only [Kn, and_true] at hA
    refine V.run ?_
    refine VI.steps' 2 (by simp +contextual (disch := first|omega|simp only [nx];omega) only [D4,reduceNegSucc,reduceEq,reduceLeDiff,reduceSub,reduceAdd,D5,hF,hA,↓reduceIte,reduceEqDiff,reduceLT, h2.2]; with_reducible rfl) ?_
    simp only [ds]
    refine VI.callR (by simp only [D6,D5,hF,hA,↓reduceIte,reduceEqDiff,reduceLT]; try rfl) (f57_ok (b := b) (u := k) (by omega) hc hd h1) (by simp only [D6,D5,hF,hA,↓reduceIte,reduceEqDiff,reduceLT]; try rfl) (fun v6 X3 ⟨q6, g6, w6⟩ => ?_)
    subst q6
    have hx2 := g6.1
    have m2 := h2.growX g6 (by omega)
    have m3 := h3.growX g6 (by omega)
    have m4 := h4.growX g6 (by omega)
    have m5 : Ow (cutH X3 (H5.next + 2)) X3 3 s ((lkS a c d k).2.2.map I) := h5.growS (U := (· = x)) (GrowS.x g6 rfl) (fun i (hi : H5.next + 2 ≤ i) => by omega) (Nat.le_refl _)
    have hl3 : X3.get (H5.next + 1) = some (.loop { r with state := .busy }) := by rw [g6.2 _ hlt2 (by omega), hl2]
    have hstep : lkS a c d (k + 1) = if (lkS a c d k).1 * ch (a + k) c < part a k c d * (lkS a c d k).2.1 then (part a k c d, ch (a + k) c, [(k : Int)]) else if part a k c d * (lkS a c d k).2.1 = (lkS a c d k).1 * ch (a + k) c ∧ 0 < part a k c d then ((lkS a c d k).1, (lkS a c d k).2.1, (lkS a c d k).2.2 ++ [(k : Int)]) else lkS a c d k := rfl
    have f83 : ∀ Z, Gives Try.prog 83 [.agg ⟨fr (part a k c d) (ch (a + k) c)⟩, .agg ⟨fr (lkS a c d k).1 (lkS a c d k).2.1⟩] Z (I (cmpN (part a k c d * (lkS a c d k).2.1) ((lkS a c d k).1 * ch (a + k) c))) := fun Z => f83_fr q1 s1 (by omega) (by omega) (by omega) (by omega) Z
    generalize hT : lkS a c d k = T at *
    obtain ⟨P, W, l⟩ := T
    simp only at s1 s2 s3 s4 m3 m5 f83 hstep
    obtain ⟨x1, y1, ef, hx1⟩ : ∃ x1 y1 : Int, fr (part a k c d) (ch (a + k) c) = A2 x1 y1 ∧ (0 < x1 ↔ 0 < part a k c d) := by
      refine ⟨_, _, rfl, ?_⟩
      obtain ⟨_, _, _, a4, _, a6⟩ := gcd_parts (p := part a k c d) q1
      constructor
      · intro h
        rcases Nat.eq_zero_or_pos (part a k c d) with hz | hp
        · rw [hz] at h; simp at h
        · exact hp
      · intro h
        rcases Nat.eq_zero_or_pos (part a k c d / Nat.gcd (part a k c d) (ch (a + k) c)) with hz | hp
        · rw [hz] at a4; omega
        · omega
    obtain ⟨x0, y0, ef0⟩ : ∃ x0 y0 : Int, fr P W = A2 x0 y0 := ⟨_, _, rfl⟩
    rw [ef] at f83 ⊢
    rw [ef0] at f83 m3
    refine VI.line' (by simp +contextual (disch := first|omega|simp only [nx];omega) only [D4,reduceNegSucc,reduceEq,reduceLeDiff,reduceSub,reduceAdd,D5,hF,hA,↓reduceIte,reduceEqDiff,reduceLT]; with_reducible rfl) ?_
    refine V.heap (fun Y => Grow X3 Y ∧ Bx Y X3.next (A2 x1 y1) 36) ⟨?_, ?_⟩ ?_
    · (repeat first | assumption | exact Grow.refl _ | refine Grow.alloc ?_ _ | refine Grow.set ?_ (by first|omega|simp only [nx];omega) _)
    · (repeat first | assumption | exact Bx.new _ _ _ | exact Bx.newAt (by first|omega|simp only [nx];omega) | refine Bx.put (by first|omega|simp only [nx];omega) _ _ | refine Bx.alloc ?_ _ | refine Bx.set ?_ (by first|omega|simp only [nx];omega) _)
    rintro X4 ⟨g4', t6⟩
    have n34 := g4'.1
    have nt6 := t6.1
    have d4 := m3.grow g4'
    (repeat first|apply V.seq|apply V.block|apply V.scope|apply V.skip|apply V.close)
    refine V.re [(1, PT H.next), (3, PT H1.next), (4, PT H2.next), (5, I k), (6, PT X3.next)] (N := 34) (by intro i; simp only [full_st, hF]) (by simp only [Kn, D5,hF,hA,↓reduceIte,reduceEqDiff,reduceLT, and_self, and_true, true_and]; try (repeat' constructor)) ?_
    clear hF hA
    intro t hF hA
    simp only [Kn, and_true] at hA
    refine V.run ?_
    refine VI.steps' 2 (by simp +contextual (disch := first|omega|simp only [nx];omega) only [D4,reduceNegSucc,reduceEq,reduceLeDiff,reduceSub,reduceAdd,D5,hF,hA,↓reduceIte,reduceEqDiff,reduceLT, t6.2, d4.2]; with_reducible rfl) ?_
    simp only [ds]
    refine VI.callA rfl (f83 _) (by simp only [D6,D5,hF,hA,↓reduceIte,reduceEqDiff,reduceLT]; try rfl) (fun X5 g5' => ?_)
    have g35 := g4'.trans g5'
    have n35 := g35.1
    have n3x := m2.1
    have w7 := w6.grow g35
    have b7 := m2.grow g35
    have d7 := m3.grow g35
    have c7 := m4.grow g35
    have t7 := t6.grow g5'
    have o7 : Ow (cutH X5 (H5.next + 2)) X5 3 s (l.map I) := m5.growS (U := fun _ => False) (g35.s) (fun _ _ h => h) (Nat.le_refl _)
    have hl5 : X5.get (H5.next + 1) = some (.loop { r with state := .busy }) := by rw [g35.2 _ (by omega)]; exact hl3
    have GX0 : GrowS (fun y => y = x ∨ y = H1.next ∨ y = H2.next ∨ H5.next + 1 < y) X2 X5 := (GrowS.x g6 (.inl rfl)).trans (Grow.s g35)
    refine VI.line' (by simp +contextual (disch := first|omega|simp only [nx];omega) only [D4,reduceNegSucc,reduceEq,reduceLeDiff,reduceSub,reduceAdd,D5,hF,hA,↓reduceIte,reduceEqDiff,reduceLT]; with_reducible rfl) ?_
    (repeat first|apply V.seq|apply V.block|apply V.scope|apply V.skip|apply V.close)
    refine V.re [(1, PT H.next), (3, PT H1.next), (4, PT H2.next), (5, I k), (6, PT X3.next), (7, I (cmpN (part a k c d * W) (P * ch (a + k) c)))] (N := 34) (by intro i; simp only [full_st, hF]) (by simp only [Kn, D5,hF,hA,↓reduceIte,reduceEqDiff,reduceLT, and_self, and_true, true_and]; try (repeat' constructor)) ?_
    clear hF hA
    intro t hF hA
    simp only [Kn, and_true] at hA
    rcases Nat.lt_trichotomy (P * ch (a + k) c) (part a k c d * W) with hlt | heq | hgt
    · have hc1 : cmpN (part a k c d * W) (P * ch (a + k) c) = 1 := by unfold cmpN; split <;> (try split) <;> omega
      have hp0 : 0 < part a k c d := by
        rcases Nat.eq_zero_or_pos (part a k c d) with hz | hp
        · rw [hz, Nat.zero_mul] at hlt; omega
        · exact hp
      have hx0 := hx1.2 hp0
      have hlk : lkS a c d (k + 1) = (part a k c d, ch (a + k) c, [(k : Int)]) := by rw [hstep, if_pos hlt]
      rw [hc1] at hA
      refine V.line' (by simp +contextual (disch := first|omega|simp only [nx];omega) only [D4,reduceNegSucc,reduceEq,reduceLeDiff,reduceSub,reduceAdd,D5,hF,hA,↓reduceIte,reduceEqDiff,reduceLT]; with_reducible rfl) ?_
      (repeat first|apply V.seq|apply V.block|apply V.scope|apply V.skip|apply V.close)
      refine V.condP (by simp only [D6,D5,hF,hA,↓reduceIte,reduceEqDiff,reduceLT]; rfl) (fun h9 => ?_) (fun h9 => ?_)
      rotate_left
      · exact absurd (by decide) h9
      (repeat first|apply V.seq|apply V.block|apply V.scope|apply V.skip|apply V.close)
      refine V.line' (by simp +contextual (disch := first|omega|simp only [nx];omega) only [D4,reduceNegSucc,reduceEq,reduceLeDiff,reduceSub,reduceAdd,D5,hF,hA,↓reduceIte,reduceEqDiff,reduceLT, t7.2, d7.2, c7.2]; with_reducible rfl) ?_
      refine V.heap (fun Y => GrowS (fun y => y = H1.next ∨ y = H2.next) X5 Y ∧ Bx Y H2.next (A2 x1 y1) 36 ∧ Bx Y H1.next [.slice none 0 0] 45) ⟨?_, ?_, ?_⟩ ?_
      · exact ((GrowS.refl X5).set (U := fun y => y = H1.next ∨ y = H2.next) (i := H2.next) (.inl (.inr rfl)) _).set (i := H1.next) (.inl (.inl rfl)) _
      · (repeat first | assumption | exact Bx.new _ _ _ | exact Bx.newAt (by first|omega|simp only [nx];omega) | refine Bx.put (by first|omega|simp only [nx];omega) _ _ | refine Bx.alloc ?_ _ | refine Bx.set ?_ (by first|omega|simp only [nx];omega) _)
      · (repeat first | assumption | exact Bx.new _ _ _ | exact Bx.newAt (by first|omega|simp only [nx];omega) | refine Bx.put (by first|omega|simp only [nx];omega) _ _ | refine Bx.alloc ?_ _ | refine Bx.set ?_ (by first|omega|simp only [nx];omega) _)
      rintro Y ⟨gY, dY, cY⟩
      have hnY := gY.1
      have bY := b7.growS gY (by omega)
      have wY := w7.growS gY (by omega) (by omega) (by omega)
      have tY := t7.growS gY (by omega)
      have oY : Ow (cutH Y (H5.next + 2)) Y 3 (.slice none 0 0) (([] : List Int).map I) := .inl ⟨rfl, rfl⟩
      have lY : Y.get (H5.next + 1) = some (.loop { r with state := .busy }) := by rw [gY.2 _ (by omega) (by omega)]; exact hl5
      have GX : GrowS (fun y => y = x ∨ y = H1.next ∨ y = H2.next ∨ H5.next + 1 < y) X2 Y := GX0.trans (gY.mono (fun i h => by omega))
      rw [← ef] at dY
      (repeat first|apply V.seq|apply V.block|apply V.scope|apply V.skip|apply V.close)
      refine V.line' (by simp +contextual (disch := first|omega|simp only [nx];omega) only [D4,reduceNegSucc,reduceEq,reduceLeDiff,reduceSub,reduceAdd,D5,hF,hA,↓reduceIte,reduceEqDiff,reduceLT, tY.2]; with_reducible rfl) ?_
      (repeat first|apply V.seq|apply V.block|apply V.scope|apply V.skip|apply V.close)
      refine V.condP (by simp only [D6,D5,hF,hA,↓reduceIte,reduceEqDiff,reduceLT]; rfl) (fun h8 => ?_) (fun h8 => ?_)
      rotate_left
      · exact absurd ⟨by decide, hx0⟩ h8
      (repeat first|apply V.seq|apply V.block|apply V.scope|apply V.skip|apply V.close)
      have gc := cutH_grow (X := Y) (n := H5.next + 2) (by omega)
      obtain ⟨w, Y1, a1, a2, a3, a4, a5, a6, a7, a8⟩ := oY.push (bytes := 8) (r := [I (k : Int)]) gc rfl (by simp) (by simp only [List.length_map, List.length_cons, List.length_nil]; omega) (by simp only [List.length_map, List.length_cons, List.length_nil]; omega)
      have a1 : yappend 3 1 8 (Y.alloc (.cells ⟨[I (k : Int)]⟩ 3 true)) (.slice none 0 0) (.slice (some ⟨Y.next, 0, none⟩) 1 1) = some (w, Y1) := a1
      have hb3 : Bx Y1 H1.next [(.slice none 0 0)] 45 := by
        refine ⟨Nat.lt_of_lt_of_le cY.1 (by omega), ?_⟩
        have := a3.cells (i := H1.next) (show H1.next < H5.next + 2 by omega)
        rw [this]; exact cY.2
      have hn3 := hb3.1
      obtain ⟨wp, wn, wc, rfl⟩ := a2.slice
      refine V.line' (by simp +contextual (disch := first|omega|simp only [nx];omega) only [D4,reduceNegSucc,reduceEq,reduceLeDiff,reduceSub,reduceAdd,D5,hF,hA,↓reduceIte,reduceEqDiff,reduceLT, cY.2, a1, hb3.2]; with_reducible rfl) ?_
      have gs3 : GrowS (fun y => y = x ∨ y = H1.next ∨ y = H2.next ∨ H5.next + 1 < y) Y Y1 := a3.toS rfl (fun i h => .inr (.inr (.inr (by omega)))) (by omega)
      have gs4 := gs3.set (i := H1.next) (.inl (.inr (.inl rfl))) (.cells ⟨[.slice wp wn wc]⟩ 45 true)
      have gY1 : GrowS (fun y => H5.next + 1 < y) Y Y1 := a3.toS rfl (fun i h => by omega) (by omega)
      have gY2 := gY1.mono (V := fun y => y = H1.next ∨ H5.next + 1 < y) (fun i h => .inr h)
      have gY3 := gY2.set (i := H1.next) (.inl (.inl rfl)) (.cells ⟨[.slice wp wn wc]⟩ 45 true)
      (repeat first|apply V.seq|apply V.block|apply V.scope|apply V.skip|apply V.close)
      refine V.nil ⟨?_, GX.trans gs4, .inl ⟨rfl, ?_⟩⟩
      · have e := gY3.2 (H5.next + 1) (by omega) (by omega)
        simp only [Heap.next_alloc]
        rw [e]; exact lY
      · rw [hlk]
        refine ⟨wY.growS gY3 (by omega) (by omega) (by omega), bY.growS gY3 (by omega), dY.growS gY3 (by omega), _, ⟨hb3.1, cells_set _ _ _ _ _⟩, ?_⟩
        have := a2.growS (U := (· = H1.next)) (GrowS.setAt Y1 H1.next (.cells ⟨[.slice wp wn wc]⟩ 45 true)) (fun i (hi : H5.next + 2 ≤ i) => by omega) (Nat.le_refl _)
        refine Ow.base (A := cutH Y (H5.next + 2)) ?_ (Nat.le_refl _)
        simpa using this
    · have hc1 : cmpN (part a k c d * W) (P * ch (a + k) c) = 0 := by unfold cmpN; split <;> (try split) <;> omega
      rw [hc1] at hA
      by_cases hp0 : 0 < part a k c d
      · have hx0 := hx1.2 hp0
        have hlk : lkS a c d (k + 1) = (P, W, l ++ [(k : Int)]) := by rw [hstep, if_neg (by omega), if_pos ⟨heq.symm, hp0⟩]
        obtain ⟨sp, sn, sc, rfl⟩ := o7.slice
        refine V.line' (by simp +contextual (disch := first|omega|simp only [nx];omega) only [D4,reduceNegSucc,reduceEq,reduceLeDiff,reduceSub,reduceAdd,D5,hF,hA,↓reduceIte,reduceEqDiff,reduceLT]; with_reducible rfl) ?_
        (repeat first|apply V.seq|apply V.block|apply V.scope|apply V.skip|apply V.close)
        refine V.condP (by simp only [D6,D5,hF,hA,↓reduceIte,reduceEqDiff,reduceLT]; rfl) (fun h9 => ?_) (fun h9 => ?_)
        · exact absurd h9 (by decide)
        (repeat first|apply V.seq|apply V.block|apply V.scope|apply V.skip|apply V.close)
        refine V.line' (by simp +contextual (disch := first|omega|simp only [nx];omega) only [D4,reduceNegSucc,reduceEq,reduceLeDiff,reduceSub,reduceAdd,D5,hF,hA,↓reduceIte,reduceEqDiff,reduceLT, t7.2]; with_reducible rfl) ?_
        (repeat first|apply V.seq|apply V.block|apply V.scope|apply V.skip|apply V.close)
        refine V.condP (by simp only [D6,D5,hF,hA,↓reduceIte,reduceEqDiff,reduceLT]; rfl) (fun h8 => ?_) (fun h8 => ?_)
        rotate_left
        · exact absurd ⟨by decide, hx0⟩ h8
        have cY := c7
        have bY := b7
        have wY := w7
        have dY : Bx X5 H2.next (fr P W) 36 := by rw [ef0]; exact d7
        have oY := o7
        have lY := hl5
        have GX := GX0
        (repeat first|apply V.seq|apply V.block|apply V.scope|apply V.skip|apply V.close)
        have gc := cutH_grow (X := X5) (n := H5.next + 2) (by omega)
        obtain ⟨w, Y1, a1, a2, a3, a4, a5, a6, a7, a8⟩ := oY.push (bytes := 8) (r := [I (k : Int)]) gc rfl (by simp) (by simp only [List.length_map, List.length_cons, List.length_nil]; omega) (by simp only [List.length_map, List.length_cons, List.length_nil]; omega)
        have a1 : yappend 3 1 8 (X5.alloc (.cells ⟨[I (k : Int)]⟩ 3 true)) (.slice sp sn sc) (.slice (some ⟨X5.next, 0, none⟩) 1 1) = some (w, Y1) := a1
        have hb3 : Bx Y1 H1.next [(.slice sp sn sc)] 45 := by
          refine ⟨Nat.lt_of_lt_of_le cY.1 (by omega), ?_⟩
          have := a3.cells (i := H1.next) (show H1.next < H5.next + 2 by omega)
          rw [this]; exact cY.2
        have hn3 := hb3.1
        obtain ⟨wp, wn, wc, rfl⟩ := a2.slice
        refine V.line' (by simp +contextual (disch := first|omega|simp only [nx];omega) only [D4,reduceNegSucc,reduceEq,reduceLeDiff,reduceSub,reduceAdd,D5,hF,hA,↓reduceIte,reduceEqDiff,reduceLT, cY.2, a1, hb3.2]; with_reducible rfl) ?_
        have gs3 : GrowS (fun y => y = x ∨ y = H1.next ∨ y = H2.next ∨ H5.next + 1 < y) X5 Y1 := a3.toS rfl (fun i h => .inr (.inr (.inr (by omega)))) (by omega)
        have gs4 := gs3.set (i := H1.next) (.inl (.inr (.inl rfl))) (.cells ⟨[.slice wp wn wc]⟩ 45 true)
        have gY1 : GrowS (fun y => H5.next + 1 < y) X5 Y1 := a3.toS rfl (fun i h => by omega) (by omega)
        have gY2 := gY1.mono (V := fun y => y = H1.next ∨ H5.next + 1 < y) (fun i h => .inr h)
        have gY3 := gY2.set (i := H1.next) (.inl (.inl rfl)) (.cells ⟨[.slice wp wn wc]⟩ 45 true)
        (repeat first|apply V.seq|apply V.block|apply V.scope|apply V.skip|apply V.close)
        refine V.nil ⟨?_, GX.trans gs4, .inl ⟨rfl, ?_⟩⟩
        · have e := gY3.2 (H5.next + 1) (by omega) (by omega)
          simp only [Heap.next_alloc]
          rw [e]; exact lY
        · rw [hlk]
          refine ⟨wY.growS gY3 (by omega) (by omega) (by omega), bY.growS gY3 (by omega), dY.growS gY3 (by omega), _, ⟨hb3.1, cells_set _ _ _ _ _⟩, ?_⟩
          have := a2.growS (U := (· = H1.next)) (GrowS.setAt Y1 H1.next (.cells ⟨[.slice wp wn wc]⟩ 45 true)) (fun i (hi : H5.next + 2 ≤ i) => by omega) (Nat.le_refl _)
          refine Ow.base (A := cutH X5 (H5.next + 2)) ?_ (Nat.le_refl _)
          simpa using this
      · have hx0 : ¬ 0 < x1 := fun h => hp0 (hx1.1 h)
        have hlk : lkS a c d (k + 1) = (P, W, l) := by rw [hstep, if_neg (by omega), if_neg (fun h => hp0 h.2)]
        have hl5' : X5.get (H5.alloc (AO.deferred true)).next = some (.loop { r with state := .busy }) := by simp only [Heap.next_alloc]; exact hl5
        have o7b : Ow (cutH X5 (H5.next + 2)) X5 3 s (l.map I) := o7
        refine V.line' (by simp +contextual (disch := first|omega|simp only [nx];omega) only [D4,reduceNegSucc,reduceEq,reduceLeDiff,reduceSub,reduceAdd,D5,hF,hA,↓reduceIte,reduceEqDiff,reduceLT]; with_reducible rfl) ?_
        (repeat first|apply V.seq|apply V.block|apply V.scope|apply V.skip|apply V.close)
        refine V.condP (by simp only [D6,D5,hF,hA,↓reduceIte,reduceEqDiff,reduceLT]; rfl) (fun h9 => ?_) (fun h9 => ?_)
        · exact absurd h9 (by decide)
        (repeat first|apply V.seq|apply V.block|apply V.scope|apply V.skip|apply V.close)
        refine V.line' (by simp +contextual (disch := first|omega|simp only [nx];omega) only [D4,reduceNegSucc,reduceEq,reduceLeDiff,reduceSub,reduceAdd,D5,hF,hA,↓reduceIte,reduceEqDiff,reduceLT, t7.2]; with_reducible rfl) ?_
        (repeat first|apply V.seq|apply V.block|apply V.scope|apply V.skip|apply V.close)
        refine V.condP (by simp only [D6,D5,hF,hA,↓reduceIte,reduceEqDiff,reduceLT]; rfl) (fun h8 => ?_) (fun h8 => ?_)
        · exact absurd h8.2 hx0
        (repeat first|apply V.seq|apply V.block|apply V.scope|apply V.skip|apply V.close)
        refine V.nil ⟨hl5', GX0, .inl ⟨rfl, ?_⟩⟩
        rw [hlk]
        exact ⟨w7, b7, by rw [ef0]; exact d7, s, c7, o7b⟩
    · have hc1 : cmpN (part a k c d * W) (P * ch (a + k) c) = -1 := by unfold cmpN; split <;> (try split) <;> omega
      have hlk : lkS a c d (k + 1) = (P, W, l) := by rw [hstep, if_neg (by omega), if_neg (by omega)]
      rw [hc1] at hA
      have hl5' : X5.get (H5.alloc (AO.deferred true)).next = some (.loop { r with state := .busy }) := by simp only [Heap.next_alloc]; exact hl5
      have o7b : Ow (cutH X5 (H5.next + 2)) X5 3 s (l.map I) := o7
      refine V.line' (by simp +contextual (disch := first|omega|simp only [nx];omega) only [D4,reduceNegSucc,reduceEq,reduceLeDiff,reduceSub,reduceAdd,D5,hF,hA,↓reduceIte,reduceEqDiff,reduceLT]; with_reducible rfl) ?_
      (repeat first|apply V.seq|apply V.block|apply V.scope|apply V.skip|apply V.close)
      refine V.condP (by simp only [D6,D5,hF,hA,↓reduceIte,reduceEqDiff,reduceLT]; rfl) (fun h9 => ?_) (fun h9 => ?_)
      · exact absurd h9 (by decide)
      (repeat first|apply V.seq|apply V.block|apply V.scope|apply V.skip|apply V.close)
      refine V.line' (by simp +contextual (disch := first|omega|simp only [nx];omega) only [D4,reduceNegSucc,reduceEq,reduceLeDiff,reduceSub,reduceAdd,D5,hF,hA,↓reduceIte,reduceEqDiff,reduceLT, t7.2]; with_reducible rfl) ?_
      (repeat first|apply V.seq|apply V.block|apply V.scope|apply V.skip|apply V.close)
      refine V.condP (by simp only [D6,D5,hF,hA,↓reduceIte,reduceEqDiff,reduceLT]; rfl) (fun h8 => ?_) (fun h8 => ?_)
      · exact absurd h8 (fun h => absurd h.1 (by decide))
      (repeat first|apply V.seq|apply V.block|apply V.scope|apply V.skip|apply V.close)
      refine V.nil ⟨hl5', GX0, .inl ⟨rfl, ?_⟩⟩
      rw [hlk]
      exact ⟨w7, b7, by rw [ef0]; exact d7, s, c7, o7b⟩
  · rintro e X h hg hlX
    simp only [Heap.next_alloc] at hlX
    rcases h with ⟨rfl, h1, h2, h3, s, h4, h5⟩ | ⟨_, h⟩
    · have hgd : X.get H5.next = some (.deferred true) := by
        rw [hg.2 _ (by simp only [Heap.next_alloc]; omega) (by simp only [Heap.next_alloc]; omega), Heap.get_alloc, if_pos rfl]
      rw [numL_len] at h5
      obtain ⟨sp, sn, sc, rfl⟩ := h5.slice
      (repeat first|apply V.seq|apply V.block|apply V.scope|apply V.skip|apply V.close)
      refine V.line' (by simp +contextual (disch := first|omega|simp only [nx];omega) only [D4,reduceNegSucc,reduceEq,reduceLeDiff,reduceSub,reduceAdd,D5,hF,hA,↓reduceIte,reduceEqDiff,reduceLT, h4.2]; with_reducible rfl) ?_
      (repeat first|apply V.seq|apply V.block|apply V.scope|apply V.skip|apply V.close)
      refine V.ret (V.rets rfl (Lv.retM hgd (by simp only [yres, yres1, D5,hF,hA,↓reduceIte,reduceEqDiff,reduceLT]; rfl) ?_))
      have gs : GrowX H5.next X (X.set H5.next .dead) := ((Grow.refl X).x _).set _
      refine ⟨?_, h1.growS (U := (· = H5.next)) (GrowS.x gs rfl) (by omega) (by omega) (by omega), ?_⟩
      · have hgn := hg.1
        have g05n := g05.1
        simp only [Heap.next_alloc] at hgn
        refine ⟨by simp only [Heap.next_set]; omega, fun q hq hqx => ?_⟩
        rw [Heap.get_set, if_neg (by omega), hg.2 q (by simp only [Heap.next_alloc]; omega) (by simp only [Heap.next_alloc]; omega), Heap.get_alloc, if_neg (by omega), g05.2 q hq]
      · exact (h5.growS (U := (· = H5.next)) (GrowS.setAt X H5.next _) (fun i (hi : H5.next + 2 ≤ i) => by omega) (Nat.le_refl _)).sl
    · exact h.elim
end Go.Xe.TMX
