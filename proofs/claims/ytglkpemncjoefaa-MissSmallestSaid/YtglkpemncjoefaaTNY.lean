/- What the statement MissEnough comes to. Conditions: none. -/
import Derived.Test.YtglkpemncjoefaaTNX
-- MOD TM
namespace Go.Xe.TMX
open Go Go.Xe Go.Proofs Go.Xe.Mth
open Nat renaming reduceLeDiff → qA, reduceSub → qB, reduceAdd → qC, reduceEqDiff → qD, reduceLT → qE
open Int renaming reduceNegSucc → qF, reduceEq → qG
set_option maxRecDepth 100000
set_option maxHeartbeats 3200000
set_option linter.unusedSimpArgs false
noncomputable def d40 : FCode := (.seq (.run (.go (.box 36 (.tmp (pth 3))) (pth 7)::
.go (.move (.con (.int .i64 (.ofNat 0)))) (pth 8)::
.go (.move (.con (.int .i64 (.ofNat 0)))) (pth 9)::
[])) (.seq (.run (.go (.move (.tmp (pth 1))) (pth 11)::
.go (.build [(.int .i64 (.ofNat 0)),(.int .i64 (.ofNat 0))] [(0,1,(.con (.int .i64 (.ofNat 0)))),(1,1,(.tmp (pth 11)))]) (pth 12)::
.go (.alloc 53 [(.int .i64 (.ofNat 0)),(.int .i64 (.ofNat 0))]) (pth 10)::
.un (.store 2 (.tmp (pth 10)) (.tmp (pth 12)))::
[])) (.seq (.seq (.run (.go (.move (.tmp (pth 0))) (pth 13)::
.go (.move (.tmp (pth 1))) (pth 14)::
.go (.buildSlice 3 2 [(.int .i64 (.ofNat 0)),(.int .i64 (.ofNat 0))] [(0,1,(.tmp (pth 13))),(1,1,(.tmp (pth 14)))]) (pth 15)::
.go (.call (.con (.func (.func 70) ⟨[]⟩ ⟨[]⟩)) [(.tmp (pth 15))]) (pth 16)::
.go (.un .not (.tmp (pth 16))) (pth 17)::
.go (.move (.tmp (pth 17))) (pth 18)::
.gd (pth 18) false (.loadN 2 (.tmp (pth 10))) (pth 19)::
.gd (pth 18) false (.move (.tmp (pth 2))) (pth 20)::
.gd (pth 18) false (.call (.con (.func (.func 52) ⟨[]⟩ ⟨[]⟩)) [(.tmp (pth 19)),(.tmp (pth 20))]) (pth 21)::
.gd (pth 18) false (.un .not (.tmp (pth 21))) (pth 22)::
.go (.pick (.tmp (pth 18)) (.con (.bool true)) (.tmp (pth 22))) (pth 23)::
.go (.move (.tmp (pth 23))) (pth 24)::
.gd (pth 24) false (.loadN 2 (.tmp (pth 7))) (pth 25)::
.gd (pth 24) false (.call (.con (.func (.func 65) ⟨[]⟩ ⟨[]⟩)) [(.tmp (pth 25))]) (pth 26)::
.gd (pth 24) false (.un .not (.tmp (pth 26))) (pth 27)::
.go (.pick (.tmp (pth 24)) (.con (.bool true)) (.tmp (pth 27))) (pth 28)::
[])) (.cond (.tmp (pth 28)) (.seq (.run (.go (.move (.con (.int .i64 (.ofNat 0)))) (pth 8)::
.go (.move (.con (.int .i64 (.ofNat 2)))) (pth 9)::
[])) .ret) .skip)) (.seq (.run (.go (.move (.tmp (pth 0))) (pth 29)::
.go (.move (.tmp (pth 2))) (pth 30)::
.go (.move (.tmp (pth 1))) (pth 31)::
.go (.build [(.int .i64 (.ofNat 0)),(.int .i64 (.ofNat 0))] [(0,1,(.tmp (pth 30))),(1,1,(.tmp (pth 31)))]) (pth 32)::
.go (.loadN 2 (.tmp (pth 7))) (pth 33)::
.go (.call (.con (.func (.func 71) ⟨[]⟩ ⟨[]⟩)) [(.tmp (pth 29)),(.tmp (pth 32)),(.tmp (pth 33))]) (pth 34)::
.go (.extract (.tmp (pth 34)) 0) (pth 35)::
.go (.extract (.tmp (pth 34)) 1) (pth 36)::
.go (.move (.tmp (pth 35))) (pth 8)::
.go (.move (.tmp (pth 36))) (pth 9)::
[])) .ret))))
theorem de40 : @compF Try.prog (Gl.none Try.prog) Try.f40 4 = .mk d40 (mkTT 37) [(pth 0),(pth 1),(pth 2),(pth 3)] [.tmp (pth 8),.tmp (pth 9)] := by kernel_rfl
theorem dg40 : Try.prog.funcs[40]? = some Try.f40 := Try.func40
theorem do40 : okF Try.prog Try.f40 = true := by kernel_rfl
def eok (a b m n q : Int) : Prop := pr a b ∧ (0 ≤ m ∧ m ≤ b) ∧ lv n q
theorem f40_ok (a b m n q : Int) (H : Heap) : F Try.prog 40 ⟨[I a, I b, I m, .agg ⟨A2 n q⟩]⟩ H (fun v H' => Grow H H' ∧ ((¬ eok a b m n q ∧ v = .tuple ⟨[I 0, I 2]⟩) ∨ ∃ a' b' m' n' q' : Nat, a = a' ∧ b = b' ∧ m = m' ∧ n = n' ∧ q = q' ∧ a' + b' ≤ 50 ∧ m' ≤ b' ∧ n' ≤ 1000 ∧ (0 < q' ∧ q' ≤ 1000) ∧ eok a b m n q ∧
    ((∃ k : Nat, k ≤ a' ∧ lge a' b' m' k n' q' ∧ (∀ k', k' < k → ¬ lge a' b' m' k' n' q') ∧ v = .tuple ⟨[I k, I 0]⟩) ∨ ((∀ k', k' < a' + 1 → ¬ lge a' b' m' k' n' q') ∧ v = .tuple ⟨[I 0, I 9]⟩)))) := by
  refine F.entryL rfl dg40 do40 de40 rfl (by kernel_rfl) ?_
  simp only [sets]
  refine V.re [(0, I a), (1, I b), (2, I m), (3, .agg ⟨A2 n q⟩)] (N := 37) (by intro i; simp only [full_st, Full.mk]) (by simp only [Kn, gt_st, full_st, Full.mk, ↓reduceIte, qD, qE, decide_true, and_self]) ?_
  intro t hF hA
  simp only [Kn, and_true] at hA
  (repeat first|apply V.seq|apply V.block|apply V.scope|apply V.skip|apply V.close)
  refine V.line' (by simp +contextual (disch := first|omega|simp only [nx];omega) only [D4,qF,qG,qA,qB,qC,D5,hF,hA,↓reduceIte,qD,qE]; with_reducible rfl) ?_
  refine V.heap (fun X => Grow H X ∧ Bx X H.next (A2 n q) 36) ⟨?_, ?_⟩ ?_
  · (repeat first | assumption | exact Grow.refl _ | refine Grow.alloc ?_ _ | refine Grow.set ?_ (by first|omega|simp only [nx];omega) _)
  · (repeat first | assumption | exact Bx.new _ _ _ | exact Bx.newAt (by first|omega|simp only [nx];omega) | refine Bx.put (by first|omega|simp only [nx];omega) _ _ | refine Bx.alloc ?_ _ | refine Bx.set ?_ (by first|omega|simp only [nx];omega) _)
  rintro H1 ⟨g1, b1⟩
  (repeat first|apply V.seq|apply V.block|apply V.scope|apply V.skip|apply V.close)
  refine V.line' (by simp +contextual (disch := first|omega|simp only [nx];omega) only [D4,qF,qG,qA,qB,qC,D5,hF,hA,↓reduceIte,qD,qE]; with_reducible rfl) ?_
  refine V.heap (fun X => Grow H1 X ∧ Bx X H1.next (A2 0 b) 53) ⟨?_, ?_⟩ ?_
  · (repeat first | assumption | exact Grow.refl _ | refine Grow.alloc ?_ _ | refine Grow.set ?_ (by first|omega|simp only [nx];omega) _)
  · (repeat first | assumption | exact Bx.new _ _ _ | exact Bx.newAt (by first|omega|simp only [nx];omega) | refine Bx.put (by first|omega|simp only [nx];omega) _ _ | refine Bx.alloc ?_ _ | refine Bx.set ?_ (by first|omega|simp only [nx];omega) _)
  rintro H2 ⟨g2, c2⟩
  have b2 := b1.grow g2
  (repeat first|apply V.seq|apply V.block|apply V.scope|apply V.skip|apply V.close)
  refine V.run ?_
  refine VI.steps' 3 (by simp +contextual (disch := first|omega|simp only [nx];omega) only [D4,qF,qG,qA,qB,qC,D5,hF,hA,↓reduceIte,qD,qE]; with_reducible rfl) ?_
  simp only [ds]
  refine VI.callA rfl (f70_ok (l := [a, b]) (Sl.lit H2 [I a, I b] 3 rfl) (by simp)) (by simp only [D6,D5,hF,hA,↓reduceIte,qD,qE]; try rfl) (fun H3 g3 => ?_)
  have g3 := ((Grow.refl H2).alloc _).trans g3
  have b3 := b2.grow g3
  have c3 := c2.grow g3
  refine VI.steps' 4 (by simp +contextual (disch := first|omega|simp only [nx];omega) only [D4,qF,qG,qA,qB,qC,D5,hF,hA,↓reduceIte,qD,qE, c3.2]; with_reducible rfl) ?_
  simp only [ds]
  first | refine VI.callGt (by simp only [D5,hF,hA,↓reduceIte,qD,qE]; try rfl) (fun hc => by simp only [D6,D5,hF,hA,↓reduceIte,qD,qE, hc, and_self, and_true, true_and, not_false_eq_true]; try rfl) (fun hc => f52_ok 0 b m _) (fun hc => by simp only [D6,D5,hF,hA,↓reduceIte,qD,qE, hc, and_self, and_true, true_and, not_false_eq_true]; try rfl) (fun H4 g4 => ?_) | refine VI.callGf (by simp only [D5,hF,hA,↓reduceIte,qD,qE]; try rfl) (fun hc => by simp only [D6,D5,hF,hA,↓reduceIte,qD,qE, hc, and_self, and_true, true_and, not_false_eq_true]; try rfl) (fun hc => f52_ok 0 b m _) (fun hc => by simp only [D6,D5,hF,hA,↓reduceIte,qD,qE, hc, and_self, and_true, true_and, not_false_eq_true]; try rfl) (fun H4 g4 => ?_)
  have b4 := b3.grow g4
  refine VI.steps' 4 (by simp +contextual (disch := first|omega|simp only [nx];omega) only [D4,qF,qG,qA,qB,qC,D5,hF,hA,↓reduceIte,qD,qE, b4.2]; with_reducible rfl) ?_
  simp only [ds]
  first | refine VI.callGt (by simp only [D5,hF,hA,↓reduceIte,qD,qE]; try rfl) (fun hc => by simp only [D6,D5,hF,hA,↓reduceIte,qD,qE, hc, and_self, and_true, true_and, not_false_eq_true]; try rfl) (fun hc => f65_ok n q _) (fun hc => by simp only [D6,D5,hF,hA,↓reduceIte,qD,qE, hc, and_self, and_true, true_and, not_false_eq_true]; try rfl) (fun H5 g5 => ?_) | refine VI.callGf (by simp only [D5,hF,hA,↓reduceIte,qD,qE]; try rfl) (fun hc => by simp only [D6,D5,hF,hA,↓reduceIte,qD,qE, hc, and_self, and_true, true_and, not_false_eq_true]; try rfl) (fun hc => f65_ok n q _) (fun hc => by simp only [D6,D5,hF,hA,↓reduceIte,qD,qE, hc, and_self, and_true, true_and, not_false_eq_true]; try rfl) (fun H5 g5 => ?_)
  have b5 := b4.grow g5
  have g05 := (((g1.trans g2).trans g3).trans g4).trans g5
  refine VI.line' (by simp +contextual (disch := first|omega|simp only [nx];omega) only [D4,qF,qG,qA,qB,qC,D5,hF,hA,↓reduceIte,qD,qE]; with_reducible rfl) ?_
  (repeat first|apply V.seq|apply V.block|apply V.scope|apply V.skip|apply V.close)
  by_cases hok : eok a b m n q
  · have hok' := hok
    obtain ⟨⟨⟨p1, p2⟩, ⟨p3, p4⟩, p5⟩, ⟨p6, p7⟩, ⟨p8, p9⟩, p10, p11⟩ := hok
    refine V.condP (by simp only [D6,D5,hF,hA,↓reduceIte,qD,qE]; rfl) (fun h => ?_) (fun h => ?_)
    · exact absurd h (by simp [ap, lv]; omega)
    obtain ⟨a, rfl⟩ : ∃ k : Nat, a = k := ⟨a.toNat, by omega⟩
    obtain ⟨b, rfl⟩ : ∃ k : Nat, b = k := ⟨b.toNat, by omega⟩
    obtain ⟨m, rfl⟩ : ∃ k : Nat, m = k := ⟨m.toNat, by omega⟩
    obtain ⟨n, rfl⟩ : ∃ k : Nat, n = k := ⟨n.toNat, by omega⟩
    obtain ⟨q, rfl⟩ : ∃ k : Nat, q = k := ⟨q.toNat, by omega⟩
    (repeat first|apply V.seq|apply V.block|apply V.scope|apply V.skip|apply V.close)
    refine V.run ?_
    refine VI.steps' 5 (by simp +contextual (disch := first|omega|simp only [nx];omega) only [D4,qF,qG,qA,qB,qC,D5,hF,hA,↓reduceIte,qD,qE, b5.2]; with_reducible rfl) ?_
    simp only [ds]
    refine VI.callR (by simp only [D6,D5,hF,hA,↓reduceIte,qD,qE]; try rfl) (f71_ok (a := a) (b := b) (m := m) (n := n) (q := q) (by omega) (by omega) (by omega) (by omega) _) (by simp only [D6,D5,hF,hA,↓reduceIte,qD,qE]; try rfl) (fun v6 H6 ⟨g6, o6⟩ => ?_)
    rcases o6 with ⟨k, h1, h2, h3, rfl⟩ | ⟨h1, rfl⟩
    · refine VI.line' (by simp +contextual (disch := first|omega|simp only [nx];omega) only [D4,qF,qG,qA,qB,qC,D5,hF,hA,↓reduceIte,qD,qE]; with_reducible rfl) ?_
      (repeat first|apply V.seq|apply V.block|apply V.scope|apply V.skip|apply V.close)
      refine V.ret (V.rets rfl (Lv.retF (by simp +contextual (disch := first|omega|simp only [nx];omega) only [D1, cells_alloc_at, cells_alloc_ne, cells_set_at, cells_set_ne, yres, yres1, yresL, qA, qB, qC, D5,hF,hA,↓reduceIte,qD,qE]; rfl) ?_))
      exact ⟨g05.trans g6, .inr ⟨a, b, m, n, q, rfl, rfl, rfl, rfl, rfl, by omega, by omega, by omega, by omega, hok', .inl ⟨k, h1, h2, h3, rfl⟩⟩⟩
    · refine VI.line' (by simp +contextual (disch := first|omega|simp only [nx];omega) only [D4,qF,qG,qA,qB,qC,D5,hF,hA,↓reduceIte,qD,qE]; with_reducible rfl) ?_
      (repeat first|apply V.seq|apply V.block|apply V.scope|apply V.skip|apply V.close)
      refine V.ret (V.rets rfl (Lv.retF (by simp +contextual (disch := first|omega|simp only [nx];omega) only [D1, cells_alloc_at, cells_alloc_ne, cells_set_at, cells_set_ne, yres, yres1, yresL, qA, qB, qC, D5,hF,hA,↓reduceIte,qD,qE]; rfl) ?_))
      exact ⟨g05.trans g6, .inr ⟨a, b, m, n, q, rfl, rfl, rfl, rfl, rfl, by omega, by omega, by omega, by omega, hok', .inr ⟨h1, rfl⟩⟩⟩
  · refine V.condP (by simp only [D6,D5,hF,hA,↓reduceIte,qD,qE]; rfl) (fun h => ?_) (fun h => ?_)
    rotate_left
    · refine absurd ?_ h
      by_cases q1 : pr a b
      · by_cases q2 : 0 ≤ m ∧ m ≤ b
        · have q3 : ¬ lv n q := fun x => hok ⟨q1, q2, x⟩
          simp [q3]
        · simp [q2]
      · have q1' : ¬ ap [a, b] := fun x => q1 (by simp [ap] at x; unfold pr; omega)
        simp [q1']
    (repeat first|apply V.seq|apply V.block|apply V.scope|apply V.skip|apply V.close)
    refine V.line' (by simp +contextual (disch := first|omega|simp only [nx];omega) only [D4,qF,qG,qA,qB,qC,D5,hF,hA,↓reduceIte,qD,qE]; with_reducible rfl) ?_
    (repeat first|apply V.seq|apply V.block|apply V.scope|apply V.skip|apply V.close)
    refine V.ret (V.rets rfl (Lv.retF (by simp +contextual (disch := first|omega|simp only [nx];omega) only [D1, cells_alloc_at, cells_alloc_ne, cells_set_at, cells_set_ne, yres, yres1, yresL, qA, qB, qC, D5,hF,hA,↓reduceIte,qD,qE]; rfl) ?_))
    exact ⟨g05, .inl ⟨hok, rfl⟩⟩
end Go.Xe.TMX
