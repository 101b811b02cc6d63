/- What the functions of the layer miss come to: is a sample large enough, as the statement says it. Conditions: none. -/
import Derived.Test.YtglkpemncjoefaaTNM
-- MOD TM
namespace Go.Xe.TMX
open Go Go.Xe Go.Proofs Go.Xe.Mth
open Nat renaming reduceLeDiff → qA, reduceSub → qB, reduceAdd → qC, reduceEqDiff → qD, reduceLT → qE
open Int renaming reduceNegSucc → qF, reduceEq → qG
set_option maxRecDepth 100000
set_option maxHeartbeats 3200000
set_option linter.unusedSimpArgs false
noncomputable def d42 : FCode := (.seq (.run (.go (.box 41 (.tmp (pth 4))) (pth 9)::
.go (.move (.con (.bool false))) (pth 10)::
[])) (.seq (.run (.go (.move (.tmp (pth 0))) (pth 14)::
.go (.move (.tmp (pth 1))) (pth 15)::
.go (.move (.tmp (pth 3))) (pth 16)::
.go (.move (.tmp (pth 3))) (pth 17)::
.go (.build [(.int .i64 (.ofNat 0)),(.int .i64 (.ofNat 0)),(.int .i64 (.ofNat 0)),(.int .i64 (.ofNat 0))] [(0,1,(.tmp (pth 14))),(1,1,(.tmp (pth 15))),(2,1,(.tmp (pth 16))),(3,1,(.tmp (pth 17)))]) (pth 18)::
.go (.alloc 23 [(.int .i64 (.ofNat 0)),(.int .i64 (.ofNat 0)),(.int .i64 (.ofNat 0)),(.int .i64 (.ofNat 0))]) (pth 11)::
.un (.store 4 (.tmp (pth 11)) (.tmp (pth 18)))::
[])) (.seq (.seq (.run (.go (.move (.tmp (pth 2))) (pth 19)::
.go (.move (.tmp (pth 19))) (pth 12)::
[])) (.block 0 (.loop (.seq (.seq (.run (.go (.move (.tmp (pth 12))) (pth 20)::
.go (.move (.tmp (pth 1))) (pth 21)::
.go (.bin .leq 3 (.tmp (pth 20)) (.tmp (pth 21))) (pth 22)::
[])) (.cond (.tmp (pth 22)) .skip (.exit 0))) (.seq (.block 1 (.seq (.run (.go (.loadN 4 (.tmp (pth 11))) (pth 25)::
.go (.move (.tmp (pth 12))) (pth 26)::
.go (.call (.con (.func (.func 49) ⟨[]⟩ ⟨[]⟩)) [(.tmp (pth 25)),(.tmp (pth 26))]) (pth 27)::
.go (.move (.tmp (pth 27))) (pth 13)::
[])) (.seq (.draw 10 (.go (.move (.tmp (pth 13))) (pth 28)::
.go (.loadN 4 (.tmp (pth 11))) (pth 29)::
.go (.move (.tmp (pth 12))) (pth 30)::
.go (.move (.tmp (pth 3))) (pth 31)::
.go (.call (.con (.func (.func 62) ⟨[]⟩ ⟨[]⟩)) [(.tmp (pth 29)),(.tmp (pth 30)),(.tmp (pth 31))]) (pth 32)::
.go (.bin .sub 3 (.tmp (pth 28)) (.tmp (pth 32))) (pth 33)::
.go (.move (.tmp (pth 13))) (pth 34)::
.go (.build [(.int .i64 (.ofNat 0)),(.int .i64 (.ofNat 0))] [(0,1,(.tmp (pth 33))),(1,1,(.tmp (pth 34)))]) (pth 35)::
.go (.loadN 2 (.tmp (pth 9))) (pth 36)::
.go (.call (.con (.func (.func 32) ⟨[]⟩ ⟨[]⟩)) [(.tmp (pth 35)),(.tmp (pth 36))]) (pth 37)::
[]) [.ok,.ok,.ok,.ok,.ok,.ok,.ok,.ok,.rd none (.loadN 2 (.tmp (pth 9))) (some (pth 36)) [0],.ok]) (.cond (.tmp (pth 37)) (.seq (.run (.go (.move (.con (.bool false))) (pth 10)::
[])) .ret) .skip)))) (.run (.go (.move (.tmp (pth 12))) (pth 23)::
.go (.bin .add 3 (.tmp (pth 23)) (.con (.int .i64 (.ofNat 1)))) (pth 24)::
.go (.move (.tmp (pth 24))) (pth 12)::
[]))))))) (.seq (.run (.go (.move (.con (.bool true))) (pth 10)::
[])) .ret))))
theorem de42 : @compF Try.prog (Gl.none Try.prog) Try.f42 5 = .mk d42 (mkTT 38) [(pth 0),(pth 1),(pth 2),(pth 3),(pth 4)] [.tmp (pth 10)] := by kernel_rfl
theorem dg42 : Try.prog.funcs[42]? = some Try.f42 := Try.func42
theorem do42 : okF Try.prog Try.f42 = true := by kernel_rfl
def small (a k n q u : Nat) : Prop := (ch (a + u) k - ch a k) * q < n * ch (a + u) k
instance (a k n q u : Nat) : Decidable (small a k n q u) := by unfold small; infer_instance
def lge (a b m k n q : Nat) : Prop := ∀ u, u < b + 1 → m ≤ u → ¬ small a k n q u
instance (a b m k n q : Nat) : Decidable (lge a b m k n q) := by unfold lge; infer_instance
theorem f42_ok {a b m k n q : Nat} (hab : a + b ≤ 50) (hm : m ≤ b) (hk : k ≤ a) (hn : n ≤ 1000) (hq : 0 < q ∧ q ≤ 1000) (H : Heap) : Gives Try.prog 42 [I a, I b, I m, I k, .agg ⟨A2 n q⟩] H (.bool (decide (lge a b m k n q))) := by
  refine F.entryL rfl dg42 do42 de42 rfl (by kernel_rfl) ?_
  simp only [sets]
  refine V.re [(0, I a), (1, I b), (2, I m), (3, I k), (4, .agg ⟨A2 n q⟩)] (N := 38) (by intro i; simp only [full_st, Full.mk]) (by simp only [Kn, gt_st, full_st, Full.mk, ↓reduceIte, qD, qE, decide_true, and_self]) ?_
  intro t hF hA
  simp only [Kn, and_true] at hA
  (repeat first|apply V.seq|apply V.block|apply V.scope|apply V.skip|apply V.close)
  refine V.line' (by simp +contextual (disch := first|omega|simp only [nx];omega) only [D4,qF,qG,qA,qB,qC,D5,hF,hA,↓reduceIte,qD,qE]; with_reducible rfl) ?_
  refine V.heap (fun X => Grow H X ∧ Bx X H.next (A2 n q) 41) ⟨?_, ?_⟩ ?_
  · (repeat first | assumption | exact Grow.refl _ | refine Grow.alloc ?_ _ | refine Grow.set ?_ (by first|omega|simp only [nx];omega) _)
  · (repeat first | assumption | exact Bx.new _ _ _ | exact Bx.newAt (by first|omega|simp only [nx];omega) | refine Bx.put (by first|omega|simp only [nx];omega) _ _ | refine Bx.alloc ?_ _ | refine Bx.set ?_ (by first|omega|simp only [nx];omega) _)
  rintro H1 ⟨g1, b1⟩
  (repeat first|apply V.seq|apply V.block|apply V.scope|apply V.skip|apply V.close)
  refine V.line' (by simp +contextual (disch := first|omega|simp only [nx];omega) only [D4,qF,qG,qA,qB,qC,D5,hF,hA,↓reduceIte,qD,qE]; with_reducible rfl) ?_
  refine V.heap (fun X => Grow H1 X ∧ Bx X H1.next (A4 a b k k) 23) ⟨?_, ?_⟩ ?_
  · (repeat first | assumption | exact Grow.refl _ | refine Grow.alloc ?_ _ | refine Grow.set ?_ (by first|omega|simp only [nx];omega) _)
  · (repeat first | assumption | exact Bx.new _ _ _ | exact Bx.newAt (by first|omega|simp only [nx];omega) | refine Bx.put (by first|omega|simp only [nx];omega) _ _ | refine Bx.alloc ?_ _ | refine Bx.set ?_ (by first|omega|simp only [nx];omega) _)
  rintro H2 ⟨g2, c1⟩
  have b2 := b1.grow g2
  (repeat first|apply V.seq|apply V.block|apply V.scope|apply V.skip|apply V.close)
  refine V.line' (by simp +contextual (disch := first|omega|simp only [nx];omega) only [D4,qF,qG,qA,qB,qC,D5,hF,hA,↓reduceIte,qD,qE]; with_reducible rfl) ?_
  (repeat first|apply V.seq|apply V.block|apply V.scope|apply V.skip|apply V.close)
  refine V.loop (fun r t m' X => ∃ u : Nat, m ≤ u ∧ u ≤ b + 1 ∧ r = b + 1 - u ∧ (∀ v, v < u → m ≤ v → ¬ small a k n q v) ∧ m' = [] ∧ Grow H2 X ∧ Full 38 t ∧ Kn [(1, I b), (3, I k), (9, PT H.next), (11, PT H1.next), (12, I u)] t) (b + 1 - m) ?_ ?_
  · exact ⟨m, by omega, by omega, rfl, fun v h1 h2 => absurd h1 (by omega), rfl, .refl _, (by intro i; simp only [full_st, hF]), (by simp only [Kn, D5,hF,hA,↓reduceIte,qD,qE, and_self, and_true, true_and]; try (repeat' constructor))⟩
  clear hF hA
  rintro r t m' X ⟨u, hmu, hub, rfl, hall, rfl, hg, hF, hA⟩
  simp only [Kn, and_true] at hA
  have bx := b2.grow hg
  have cx := c1.grow hg
  (repeat first|apply V.seq|apply V.block|apply V.scope|apply V.skip|apply V.close)
  refine V.line' (by simp +contextual (disch := first|omega|simp only [nx];omega) only [D4,qF,qG,qA,qB,qC,D5,hF,hA,↓reduceIte,qD,qE]; with_reducible rfl) ?_
  (repeat first|apply V.seq|apply V.block|apply V.scope|apply V.skip|apply V.close)
  refine V.condP (by simp only [D6,D5,hF,hA,↓reduceIte,qD,qE]; rfl) (fun hlt => ?_) (fun hlt => ?_)
  · have hub' : u ≤ b := by omega
    have w1 := ch_pos (n := a + u) (k := k) (by omega)
    have w2 := ch_bound (n := a + u) k (by omega)
    have w3 : part a u k k ≤ ch (a + u) k := part_le (Nat.le_refl _)
    have e0 : part a u k k = ch a k := by unfold part; rw [Nat.sub_self, ch_z, Nat.mul_one]
    have f62 := fun Z => f62_ok (a := a) (b := b) (c := k) (d := k) (u := u) (f := k) (by omega) (by omega) (by omega) (by omega) (by omega) Z
    (repeat first|apply V.seq|apply V.block|apply V.scope|apply V.skip|apply V.close)
    refine V.run ?_
    refine VI.steps' 2 (by simp +contextual (disch := first|omega|simp only [nx];omega) only [D4,qF,qG,qA,qB,qC,D5,hF,hA,↓reduceIte,qD,qE, cx.2]; with_reducible rfl) ?_
    simp only [ds]
    refine VI.callA rfl (f49_ok (a := a) (b := b) (c := k) (d := k) (u := u) (by omega) (by omega) _) (by simp only [D6,D5,hF,hA,↓reduceIte,qD,qE]; try rfl) (fun X1 gx1 => ?_)
    have bx1 := bx.grow gx1
    have cx1 := cx.grow gx1
    refine VI.line' (by simp +contextual (disch := first|omega|simp only [nx];omega) only [D4,qF,qG,qA,qB,qC,D5,hF,hA,↓reduceIte,qD,qE]; with_reducible rfl) ?_
    (repeat first|apply V.seq|apply V.block|apply V.scope|apply V.skip|apply V.close)
    rw [e0] at w3
    have es : ((ch (a + u) k : Nat) : Int) - ((ch a k : Nat) : Int) = ((ch (a + u) k - ch a k : Nat) : Int) := by omega
    have f32 := fun Z => f32_ok (p := ch (a + u) k - ch a k) (w := ch (a + u) k) (n := n) (q := q) w1 hq.1 (by omega) (by omega) (by omega) (by omega) Z
    have eu : (u : Int) + 1 = ((u + 1 : Nat) : Int) := rfl
    refine V.draw ?_
    refine VD.dins 4 (by simp +contextual (disch := first|omega|simp only [nx];omega) only [D4,qF,qG,qA,qB,qC,D5,hF,hA,↓reduceIte,qD,qE, cx1.2]; with_reducible rfl) ?_
    simp only [ds]
    refine VD.callA (by simp only [D6,D5,hF,hA,↓reduceIte,qD,qE]; try rfl) (f62 _) (by simp only [D6,D5,hF,hA,↓reduceIte,qD,qE]; try rfl) (fun X2 gx2 => ?_)
    have bx2 := bx1.grow gx2
    rw [e0]
    refine VD.dins 4 (by simp +contextual (disch := first|omega|simp only [nx];omega) only [D4,qF,qG,qA,qB,qC,D5,hF,hA,↓reduceIte,qD,qE, es, bx2.2]; with_reducible rfl) ?_
    simp only [ds]
    refine VD.callA (by simp only [D6,D5,hF,hA,↓reduceIte,qD,qE]; try rfl) (f32 _) (by simp only [D6,D5,hF,hA,↓reduceIte,qD,qE]; try rfl) (fun X3 gx3 => ?_)
    have bx3 := bx2.grow gx3
    refine VD.lineD' (by simp +contextual (disch := first|omega|simp only [nx];omega) only [D4,qF,qG,qA,qB,qC,D5,hF,hA,↓reduceIte,qD,qE]; with_reducible rfl) ?_ ?_ rfl ?_
    · have := gx2.1
      have := gx3.1
      simp only [monoG, List.cons_append, List.nil_append, Heap.next_set, Heap.next_alloc, Nat.le_refl, true_and, and_true] <;> omega
    · simp only [dcAll, dcOk, wantD, List.cons_append, List.nil_append, true_and, and_true]
      exact fun _ q hq => by simp only [List.mem_cons, List.not_mem_nil, or_false] at hq; (repeat (rcases hq with rfl | hq; exact ⟨_, _, _, rfl, (by simp +contextual (disch := first|omega|simp only [nx];omega) only [D4,qF,qG,qA,qB,qC,D5,hF,hA,↓reduceIte,qD,qE, bx1.2, bx2.2, bx3.2]; with_reducible rfl), fun p hp => by cases hp; simp only [D5,hF,hA,↓reduceIte,qD,qE]; first | exact vEq_An | (simp [vEq, vEq0, all2]; done) | assumption⟩)); (try (subst hq; exact ⟨_, _, _, rfl, (by simp +contextual (disch := first|omega|simp only [nx];omega) only [D4,qF,qG,qA,qB,qC,D5,hF,hA,↓reduceIte,qD,qE, bx1.2, bx2.2, bx3.2]; with_reducible rfl), fun p hp => by cases hp; simp only [D5,hF,hA,↓reduceIte,qD,qE]; first | exact vEq_An | (simp [vEq, vEq0, all2]; done) | assumption⟩))
    have gx := (gx1.trans gx2).trans gx3
    have hg2 := hg.trans gx
    (repeat first|apply V.seq|apply V.block|apply V.scope|apply V.skip|apply V.close)
    refine V.condP (by simp only [D6,D5,hF,hA,↓reduceIte,qD,qE]; rfl) (fun hbad => ?_) (fun hbad => ?_)
    · (repeat first|apply V.seq|apply V.block|apply V.scope|apply V.skip|apply V.close)
      refine V.line' (by simp +contextual (disch := first|omega|simp only [nx];omega) only [D4,qF,qG,qA,qB,qC,D5,hF,hA,↓reduceIte,qD,qE]; with_reducible rfl) ?_
      (repeat first|apply V.seq|apply V.block|apply V.scope|apply V.skip|apply V.close)
      refine V.ret (V.rets rfl (Or.inr ⟨by simp, V.rets rfl (Lv.retG (by simp +contextual (disch := first|omega|simp only [nx];omega) only [D1, cells_alloc_at, cells_alloc_ne, cells_set_at, cells_set_ne, yres, yres1, yresL, qA, qB, qC, D5,hF,hA,↓reduceIte,qD,qE]; rfl) ?_ ?_)⟩))
      · exact (g1.trans g2).trans hg2
      · congr 1
        exact (decide_eq_false (fun h => h u (by omega) hmu hbad)).symm
    · (repeat first|apply V.seq|apply V.block|apply V.scope|apply V.skip|apply V.close)
      refine V.line' (by simp +contextual (disch := first|omega|simp only [nx];omega) only [D4,qF,qG,qA,qB,qC,D5,hF,hA,↓reduceIte,qD,qE, eu]; with_reducible rfl) ?_
      refine V.nil (Or.inl ⟨rfl, b + 1 - (u + 1), by omega, ?_⟩)
      refine ⟨u + 1, by omega, by omega, rfl, fun v h1 h2 => ?_, rfl, hg2, (by intro i; simp only [full_st, hF]), (by simp only [Kn, D5,hF,hA,↓reduceIte,qD,qE, and_self, and_true, true_and]; try (repeat' constructor))⟩
      rcases Nat.lt_or_ge v u with h3 | h3
      · exact hall v h3 h2
      · obtain rfl : v = u := by omega
        exact hbad
  · obtain rfl : u = b + 1 := by omega
    refine V.exit ?_
    (repeat first | refine V.pass ?_ | refine V.here ?_ | refine V.out (by decide) ?_)
    refine V.nil (Or.inr ⟨by simp, ?_⟩)
    (repeat first | refine V.pass ?_ | refine V.here ?_ | refine V.out (by decide) ?_)
    (repeat first|apply V.seq|apply V.block|apply V.scope|apply V.skip|apply V.close)
    refine V.line' (by simp +contextual (disch := first|omega|simp only [nx];omega) only [D4,qF,qG,qA,qB,qC,D5,hF,hA,↓reduceIte,qD,qE]; with_reducible rfl) ?_
    (repeat first|apply V.seq|apply V.block|apply V.scope|apply V.skip|apply V.close)
    refine V.ret (V.rets rfl (Lv.retG (by simp +contextual (disch := first|omega|simp only [nx];omega) only [D1, cells_alloc_at, cells_alloc_ne, cells_set_at, cells_set_ne, yres, yres1, yresL, qA, qB, qC, D5,hF,hA,↓reduceIte,qD,qE]; rfl) ?_ ?_))
    · exact (g1.trans g2).trans hg
    · congr 1
      exact (decide_eq_true (fun v h1 h2 => hall v h1 h2)).symm
end Go.Xe.TMX
/- What the functions of the layer miss come to: the chance that a sample has somebody who is not on the lists. Conditions: none. -/
-- MOD TM
namespace Go.Xe.TMX
open Go Go.Xe Go.Proofs Go.Xe.Mth
open Nat renaming reduceLeDiff → qA, reduceSub → qB, reduceAdd → qC, reduceEqDiff → qD, reduceLT → qE
open Int renaming reduceNegSucc → qF, reduceEq → qG
set_option maxRecDepth 100000
set_option maxHeartbeats 3200000
set_option linter.unusedSimpArgs false
noncomputable def d87 : FCode := (.seq (.run (.go (.box 92 (.tmp (pth 0))) (pth 2)::
.go (.alloc 36 [(.int .i64 (.ofNat 0)),(.int .i64 (.ofNat 0))]) (pth 4)::
[])) (.seq (.run (.go (.fieldAddr 4 (.tmp (pth 2))) (pth 6)::
.go (.load1 (.tmp (pth 6))) (pth 7)::
.go (.fieldAddr 0 (.tmp (pth 2))) (pth 8)::
.go (.fieldAddr 0 (.tmp (pth 8))) (pth 9)::
.go (.load1 (.tmp (pth 9))) (pth 10)::
.go (.move (.tmp (pth 1))) (pth 11)::
.go (.bin .add 3 (.tmp (pth 10)) (.tmp (pth 11))) (pth 12)::
.go (.fieldAddr 0 (.tmp (pth 2))) (pth 13)::
.go (.fieldAddr 2 (.tmp (pth 13))) (pth 14)::
.go (.load1 (.tmp (pth 14))) (pth 15)::
.go (.call (.tmp (pth 7)) [(.tmp (pth 12)),(.tmp (pth 15))]) (pth 16)::
.go (.move (.tmp (pth 16))) (pth 5)::
[])) (.seq (.run (.go (.move (.tmp (pth 5))) (pth 17)::
.go (.fieldAddr 4 (.tmp (pth 2))) (pth 18)::
.go (.load1 (.tmp (pth 18))) (pth 19)::
.go (.fieldAddr 0 (.tmp (pth 2))) (pth 20)::
.go (.fieldAddr 0 (.tmp (pth 20))) (pth 21)::
.go (.load1 (.tmp (pth 21))) (pth 22)::
.go (.fieldAddr 0 (.tmp (pth 2))) (pth 23)::
.go (.fieldAddr 2 (.tmp (pth 23))) (pth 24)::
.go (.load1 (.tmp (pth 24))) (pth 25)::
.go (.call (.tmp (pth 19)) [(.tmp (pth 22)),(.tmp (pth 25))]) (pth 26)::
.go (.bin .sub 3 (.tmp (pth 17)) (.tmp (pth 26))) (pth 27)::
.go (.move (.tmp (pth 5))) (pth 28)::
.go (.call (.con (.func (.func 80) ⟨[]⟩ ⟨[]⟩)) [(.tmp (pth 27)),(.tmp (pth 28))]) (pth 29)::
.un (.store 2 (.tmp (pth 4)) (.tmp (pth 29)))::
[])) .ret)))
theorem de87 : @compF Try.prog (Gl.none Try.prog) Try.f87 2 = .mk d87 (mkTT 30) [(pth 0),(pth 1)] [.many (pth 4) 2] := by kernel_rfl
theorem dg87 : Try.prog.funcs[87]? = some Try.f87 := Try.func87
theorem do87 : okF Try.prog Try.f87 = true := by kernel_rfl
theorem f87_ok {a b c d u : Nat} (hu : a + u ≤ 50) (hc : c ≤ a) {H : Heap} {i j x : Nat} (hw : Wy H i j x) :
    F Try.prog 87 ⟨[.agg ⟨[I a, I b, I c, I d, cw i j]⟩, I u]⟩ H (fun v H' => v = .agg ⟨fr (ch (a + u) c - ch a c) (ch (a + u) c)⟩ ∧ GrowX x H H' ∧ Wy H' i j x) := by
  have hi := hw.1.1
  have hj := hw.2.1.1
  obtain ⟨es, hm, _⟩ := hw.2.2.2.2
  have hx := hm.1
  clear hm
  have hcb := ch_bound (n := a + u) c (by omega)
  have hp := ch_pos (n := a + u) (k := c) (by omega)
  have hle : ch a c ≤ ch (a + u) c := by
    have h := part_le (a := a) (u := u) (f := c) (c := c) (Nat.le_refl _)
    unfold part at h
    rw [Nat.sub_self, ch_z, Nat.mul_one] at h
    exact h
  have es : ((ch (a + u) c : Nat) : Int) - ((ch a c : Nat) : Int) = ((ch (a + u) c - ch a c : Nat) : Int) := by omega
  have eau : (a : Int) + u = ((a + u : Nat) : Int) := rfl
  refine F.entryL rfl dg87 do87 de87 rfl (by kernel_rfl) ?_
  simp only [sets]
  refine V.re [(0, .agg ⟨[I a, I b, I c, I d, cw i j]⟩), (1, I u)] (N := 30) (by intro i; simp only [full_st, Full.mk]) (by simp only [Kn, gt_st, full_st, Full.mk, ↓reduceIte, qD, qE, decide_true, and_self]) ?_
  intro t hF hA
  simp only [Kn, and_true] at hA
  (repeat first|apply V.seq|apply V.block|apply V.scope|apply V.skip|apply V.close)
  refine V.line' (by simp +contextual (disch := first|omega|simp only [nx];omega) only [D4,qF,qG,qA,qB,qC,D5,hF,hA,↓reduceIte,qD,qE]; with_reducible rfl) ?_
  refine V.heap (fun X => Grow H X ∧ Bx X H.next [I a, I b, I c, I d, cw i j] 92 ∧ Bx X (H.next + 1) (A2 0 0) 36) ⟨?_, ?_, ?_⟩ ?_
  · (repeat first | assumption | exact Grow.refl _ | refine Grow.alloc ?_ _ | refine Grow.set ?_ (by first|omega|simp only [nx];omega) _)
  · (repeat first | assumption | exact Bx.new _ _ _ | exact Bx.newAt (by first|omega|simp only [nx];omega) | refine Bx.put (by first|omega|simp only [nx];omega) _ _ | refine Bx.alloc ?_ _ | refine Bx.set ?_ (by first|omega|simp only [nx];omega) _)
  · (repeat first | assumption | exact Bx.new _ _ _ | exact Bx.newAt (by first|omega|simp only [nx];omega) | refine Bx.put (by first|omega|simp only [nx];omega) _ _ | refine Bx.alloc ?_ _ | refine Bx.set ?_ (by first|omega|simp only [nx];omega) _)
  rintro H1 ⟨g1, b1, c1⟩
  have w1 := hw.grow g1
  have nb1 := b1.1
  have nc1 := c1.1
  (repeat first|apply V.seq|apply V.block|apply V.scope|apply V.skip|apply V.close)
  refine V.run ?_
  refine VI.steps' 9 (by simp +contextual (disch := first|omega|simp only [nx];omega) only [D4,qF,qG,qA,qB,qC,D5,hF,hA,↓reduceIte,qD,qE, b1.2, eau]; with_reducible rfl) ?_
  simp only [ds]
  refine VI.steps' 1 (by simp +contextual (disch := first|omega|simp only [nx];omega) only [D4,qF,qG,qA,qB,qC,D5,hF,hA,↓reduceIte,qD,qE, b1.2, eau]; with_reducible rfl) ?_
  simp only [ds]
  refine VI.callR (by simp only [D6,D5,hF,hA,↓reduceIte,qD,qE]; try rfl) (f78_ok (a + u) c (by omega) (by omega) w1) (by simp only [D6,D5,hF,hA,↓reduceIte,qD,qE]; try rfl) (fun v2 H2 ⟨q2, g2, w2⟩ => ?_)
  subst q2
  have b2 := b1.growX g2 (by omega)
  have c2 := c1.growX g2 (by omega)
  refine VI.line' (by simp +contextual (disch := first|omega|simp only [nx];omega) only [D4,qF,qG,qA,qB,qC,D5,hF,hA,↓reduceIte,qD,qE]; with_reducible rfl) ?_
  (repeat first|apply V.seq|apply V.block|apply V.scope|apply V.skip|apply V.close)
  refine V.run ?_
  refine VI.steps' 9 (by simp +contextual (disch := first|omega|simp only [nx];omega) only [D4,qF,qG,qA,qB,qC,D5,hF,hA,↓reduceIte,qD,qE, b2.2]; with_reducible rfl) ?_
  simp only [ds]
  refine VI.callR (by simp only [D6,D5,hF,hA,↓reduceIte,qD,qE]; try rfl) (f78_ok a c (by omega) (by omega) w2) (by simp only [D6,D5,hF,hA,↓reduceIte,qD,qE]; try rfl) (fun v3 H3 ⟨q3, g3, w3⟩ => ?_)
  subst q3
  have c3 := c2.growX g3 (by omega)
  refine VI.steps' 2 (by simp +contextual (disch := first|omega|simp only [nx];omega) only [D4,qF,qG,qA,qB,qC,D5,hF,hA,↓reduceIte,qD,qE, es]; with_reducible rfl) ?_
  simp only [ds]
  refine VI.callA rfl (f80_ok (ch (a + u) c - ch a c) (ch (a + u) c) (by omega) hp (by omega) _) (by simp only [D6,D5,hF,hA,↓reduceIte,qD,qE]; try rfl) (fun H4 g4 => ?_)
  have c4 := c3.grow g4
  have w4 := w3.grow g4
  have nc4 := c4.1
  refine VI.line' (by simp +contextual (disch := first|omega|simp only [nx];omega) only [D4,qF,qG,qA,qB,qC,D5,hF,hA,↓reduceIte,qD,qE, c4.2]; with_reducible rfl) ?_
  (repeat first|apply V.seq|apply V.block|apply V.scope|apply V.skip|apply V.close)
  refine V.ret (V.rets rfl (Lv.retF (by simp +contextual (disch := first|omega|simp only [nx];omega) only [D1, cells_alloc_at, cells_alloc_ne, cells_set_at, cells_set_ne, yres, yres1, yresL, qA, qB, qC, D5,hF,hA,↓reduceIte,qD,qE, cells_set]; rfl) ?_))
  have gs : GrowS (· = H.next + 1) H4 _ := GrowS.setAt H4 (H.next + 1) (.cells ⟨fr (ch (a + u) c - ch a c) (ch (a + u) c)⟩ 36 true)
  refine ⟨rfl, ?_, w4.growS gs (by omega) (by omega) (by omega)⟩
  have gx := (g2.trans g3).trans (g4.x x)
  refine ⟨?_, fun k hk hkx => ?_⟩
  · have := gx.1
    have := g1.1
    simp only [Heap.next_set]
    omega
  · rw [gs.2 k (by have := gx.1; have := g1.1; omega) (by omega), gx.2 k (by have := g1.1; omega) hkx, g1.2 k hk]
end Go.Xe.TMX
