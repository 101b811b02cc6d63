/- What the statement MissSmallest comes to. Conditions: none. -/
import Derived.Test.YtglkpemncjoefaaTNY
import Derived.Test.YtglkpemncjoefaaZl
import Derived.WideShapes
import Derived.ChangeSame
import Derived.Below
-- MOD TM
namespace Go.Xe.TMX
open Go Go.Xe Go.Proofs Go.Xe.Mth
open Nat renaming reduceLeDiff → qA, reduceSub → qB, reduceAdd → qC, reduceEqDiff → qD, reduceLT → qE
open Int renaming reduceNegSucc → qF, reduceEq → qG
set_option maxRecDepth 100000
set_option maxHeartbeats 3200000
set_option linter.unusedSimpArgs false
noncomputable def d15 : FCode := (.seq (.run (.go (.box 41 (.tmp (pth 3))) (pth 9)::
.go (.move (.con (.bool false))) (pth 12)::
[])) (.seq (.run (.go (.move (.tmp (pth 0))) (pth 21)::
.go (.conv .i64 (.tmp (pth 21))) (pth 22)::
.go (.bin .rem 3 (.tmp (pth 22)) (.con (.int .i64 (.ofNat 51)))) (pth 23)::
.go (.move (.tmp (pth 23))) (pth 13)::
[])) (.seq (.run (.go (.move (.tmp (pth 1))) (pth 24)::
.go (.conv .i64 (.tmp (pth 24))) (pth 25)::
.go (.move (.tmp (pth 13))) (pth 26)::
.go (.bin .sub 3 (.con (.int .i64 (.ofNat 51))) (.tmp (pth 26))) (pth 27)::
.go (.bin .rem 3 (.tmp (pth 25)) (.tmp (pth 27))) (pth 28)::
.go (.move (.tmp (pth 28))) (pth 14)::
[])) (.seq (.run (.go (.move (.tmp (pth 2))) (pth 29)::
.go (.conv .i64 (.tmp (pth 29))) (pth 30)::
.go (.move (.tmp (pth 14))) (pth 31)::
.go (.bin .add 3 (.tmp (pth 31)) (.con (.int .i64 (.ofNat 1)))) (pth 32)::
.go (.bin .rem 3 (.tmp (pth 30)) (.tmp (pth 32))) (pth 33)::
.go (.move (.tmp (pth 33))) (pth 15)::
[])) (.seq (.seq (.run (.go (.loadN 2 (.tmp (pth 9))) (pth 34)::
.go (.call (.con (.func (.func 36) ⟨[]⟩ ⟨[]⟩)) [(.tmp (pth 34))]) (pth 35)::
.go (.un .not (.tmp (pth 35))) (pth 36)::
[])) (.cond (.tmp (pth 36)) (.seq (.run (.go (.call (.con (.func (.func 24) ⟨[]⟩ ⟨[]⟩)) []) (pth 37)::
.go (.move (.tmp (pth 37))) (pth 12)::
[])) .ret) .skip)) (.seq (.run (.go (.move (.tmp (pth 13))) (pth 39)::
.go (.move (.tmp (pth 14))) (pth 40)::
.go (.move (.tmp (pth 15))) (pth 41)::
.go (.loadN 2 (.tmp (pth 9))) (pth 42)::
.go (.call (.con (.func (.func 28) ⟨[]⟩ ⟨[]⟩)) [(.tmp (pth 42))]) (pth 43)::
.go (.call (.con (.func (.func 40) ⟨[]⟩ ⟨[]⟩)) [(.tmp (pth 39)),(.tmp (pth 40)),(.tmp (pth 41)),(.tmp (pth 43))]) (pth 44)::
.go (.move (.tmp (pth 44))) (pth 38)::
.go (.extract (.tmp (pth 38)) 0) (pth 45)::
.go (.extract (.tmp (pth 38)) 1) (pth 46)::
.go (.move (.tmp (pth 45))) (pth 16)::
.go (.move (.tmp (pth 46))) (pth 17)::
[])) (.seq (.run (.go (.loadN 2 (.tmp (pth 9))) (pth 47)::
.go (.alloc 41 [(.int .i64 (.ofNat 0)),(.int .i64 (.ofNat 0))]) (pth 18)::
.un (.store 2 (.tmp (pth 18)) (.tmp (pth 47)))::
[])) (.seq (.run (.go (.fieldAddr 0 (.tmp (pth 18))) (pth 48)::
.go (.load1 (.tmp (pth 48))) (pth 49)::
.go (.move (.tmp (pth 5))) (pth 50)::
.go (.conv .i64 (.tmp (pth 50))) (pth 51)::
.go (.bin .sub 3 (.tmp (pth 49)) (.tmp (pth 51))) (pth 52)::
.go (.mm true [(.con (.int .i64 (.ofNat 0))),(.tmp (pth 52))]) (pth 53)::
.go (.fieldAddr 0 (.tmp (pth 18))) (pth 54)::
.un (.store 1 (.tmp (pth 54)) (.tmp (pth 53)))::
[])) (.seq (.run (.go (.move (.tmp (pth 13))) (pth 56)::
.go (.move (.tmp (pth 14))) (pth 57)::
.go (.move (.tmp (pth 14))) (pth 58)::
.go (.move (.tmp (pth 15))) (pth 59)::
.go (.move (.tmp (pth 4))) (pth 60)::
.go (.conv .i64 (.tmp (pth 60))) (pth 61)::
.go (.bin .rem 3 (.tmp (pth 61)) (.con (.int .i64 (.ofNat 9)))) (pth 62)::
.go (.bin .add 3 (.tmp (pth 59)) (.tmp (pth 62))) (pth 63)::
.go (.mm false [(.tmp (pth 58)),(.tmp (pth 63))]) (pth 64)::
.go (.loadN 2 (.tmp (pth 18))) (pth 65)::
.go (.call (.con (.func (.func 28) ⟨[]⟩ ⟨[]⟩)) [(.tmp (pth 65))]) (pth 66)::
.go (.call (.con (.func (.func 40) ⟨[]⟩ ⟨[]⟩)) [(.tmp (pth 56)),(.tmp (pth 57)),(.tmp (pth 64)),(.tmp (pth 66))]) (pth 67)::
.go (.move (.tmp (pth 67))) (pth 55)::
.go (.extract (.tmp (pth 55)) 0) (pth 68)::
.go (.extract (.tmp (pth 55)) 1) (pth 69)::
.go (.move (.tmp (pth 68))) (pth 19)::
.go (.move (.tmp (pth 69))) (pth 20)::
[])) (.seq (.seq (.run (.go (.move (.tmp (pth 17))) (pth 70)::
.go (.bin .neq 24 (.tmp (pth 70)) (.con (.int .i64 (.ofNat 0)))) (pth 71)::
[])) (.cond (.tmp (pth 71)) (.seq (.run (.go (.move (.tmp (pth 17))) (pth 72)::
.go (.bin .eql 24 (.tmp (pth 72)) (.con (.int .i64 (.ofNat 9)))) (pth 73)::
.go (.move (.tmp (pth 73))) (pth 74)::
.gd (pth 74) true (.move (.tmp (pth 13))) (pth 75)::
.gd (pth 74) true (.move (.tmp (pth 14))) (pth 76)::
.gd (pth 74) true (.move (.tmp (pth 15))) (pth 77)::
.gd (pth 74) true (.move (.tmp (pth 13))) (pth 78)::
.gd (pth 74) true (.loadN 2 (.tmp (pth 9))) (pth 79)::
.gd (pth 74) true (.call (.con (.func (.func 42) ⟨[]⟩ ⟨[]⟩)) [(.tmp (pth 75)),(.tmp (pth 76)),(.tmp (pth 77)),(.tmp (pth 78)),(.tmp (pth 79))]) (pth 80)::
.gd (pth 74) true (.un .not (.tmp (pth 80))) (pth 81)::
.go (.pick (.tmp (pth 74)) (.tmp (pth 81)) (.con (.bool false))) (pth 82)::
.go (.move (.tmp (pth 82))) (pth 83)::
.gd (pth 83) true (.move (.tmp (pth 20))) (pth 84)::
.gd (pth 83) true (.bin .eql 24 (.tmp (pth 84)) (.con (.int .i64 (.ofNat 0)))) (pth 85)::
.gd (pth 83) true (.move (.tmp (pth 85))) (pth 86)::
.gd (pth 86) false (.move (.tmp (pth 20))) (pth 87)::
.gd (pth 86) false (.bin .eql 24 (.tmp (pth 87)) (.con (.int .i64 (.ofNat 9)))) (pth 88)::
.gd (pth 83) true (.pick (.tmp (pth 86)) (.con (.bool true)) (.tmp (pth 88))) (pth 89)::
.go (.pick (.tmp (pth 83)) (.tmp (pth 89)) (.con (.bool false))) (pth 90)::
.go (.move (.tmp (pth 90))) (pth 91)::
.gd (pth 91) true (.call (.con (.func (.func 24) ⟨[]⟩ ⟨[]⟩)) []) (pth 92)::
.go (.pick (.tmp (pth 91)) (.tmp (pth 92)) (.con (.bool false))) (pth 93)::
.go (.move (.tmp (pth 93))) (pth 12)::
[])) .ret) .skip)) (.seq (.run (.go (.move (.tmp (pth 20))) (pth 94)::
.go (.bin .eql 24 (.tmp (pth 94)) (.con (.int .i64 (.ofNat 0)))) (pth 95)::
.go (.move (.tmp (pth 95))) (pth 96)::
.gd (pth 96) true (.move (.tmp (pth 19))) (pth 97)::
.gd (pth 96) true (.move (.tmp (pth 16))) (pth 98)::
.gd (pth 96) true (.bin .leq 3 (.tmp (pth 97)) (.tmp (pth 98))) (pth 99)::
.go (.pick (.tmp (pth 96)) (.tmp (pth 99)) (.con (.bool false))) (pth 100)::
.go (.move (.tmp (pth 100))) (pth 101)::
.gd (pth 101) true (.move (.tmp (pth 16))) (pth 102)::
.gd (pth 101) true (.bin .geq 3 (.tmp (pth 102)) (.con (.int .i64 (.ofNat 0)))) (pth 103)::
.go (.pick (.tmp (pth 101)) (.tmp (pth 103)) (.con (.bool false))) (pth 104)::
.go (.move (.tmp (pth 104))) (pth 105)::
.gd (pth 105) true (.move (.tmp (pth 16))) (pth 106)::
.gd (pth 105) true (.move (.tmp (pth 13))) (pth 107)::
.gd (pth 105) true (.bin .leq 3 (.tmp (pth 106)) (.tmp (pth 107))) (pth 108)::
.go (.pick (.tmp (pth 105)) (.tmp (pth 108)) (.con (.bool false))) (pth 109)::
.go (.move (.tmp (pth 109))) (pth 110)::
.gd (pth 110) true (.move (.tmp (pth 13))) (pth 111)::
.gd (pth 110) true (.move (.tmp (pth 14))) (pth 112)::
.gd (pth 110) true (.move (.tmp (pth 15))) (pth 113)::
.gd (pth 110) true (.move (.tmp (pth 16))) (pth 114)::
.gd (pth 110) true (.loadN 2 (.tmp (pth 9))) (pth 115)::
.gd (pth 110) true (.call (.con (.func (.func 42) ⟨[]⟩ ⟨[]⟩)) [(.tmp (pth 111)),(.tmp (pth 112)),(.tmp (pth 113)),(.tmp (pth 114)),(.tmp (pth 115))]) (pth 116)::
.go (.pick (.tmp (pth 110)) (.tmp (pth 116)) (.con (.bool false))) (pth 117)::
.go (.move (.tmp (pth 117))) (pth 118)::
.gd (pth 118) true (.move (.tmp (pth 16))) (pth 119)::
.gd (pth 118) true (.bin .eql 3 (.tmp (pth 119)) (.con (.int .i64 (.ofNat 0)))) (pth 120)::
.gd (pth 118) true (.move (.tmp (pth 120))) (pth 121)::
.gd (pth 121) false (.move (.tmp (pth 13))) (pth 122)::
.gd (pth 121) false (.move (.tmp (pth 14))) (pth 123)::
.gd (pth 121) false (.move (.tmp (pth 15))) (pth 124)::
.gd (pth 121) false (.move (.tmp (pth 16))) (pth 125)::
.gd (pth 121) false (.bin .sub 3 (.tmp (pth 125)) (.con (.int .i64 (.ofNat 1)))) (pth 126)::
.gd (pth 121) false (.loadN 2 (.tmp (pth 9))) (pth 127)::
.gd (pth 121) false (.call (.con (.func (.func 42) ⟨[]⟩ ⟨[]⟩)) [(.tmp (pth 122)),(.tmp (pth 123)),(.tmp (pth 124)),(.tmp (pth 126)),(.tmp (pth 127))]) (pth 128)::
.gd (pth 121) false (.un .not (.tmp (pth 128))) (pth 129)::
.gd (pth 118) true (.pick (.tmp (pth 121)) (.con (.bool true)) (.tmp (pth 129))) (pth 130)::
.go (.pick (.tmp (pth 118)) (.tmp (pth 130)) (.con (.bool false))) (pth 131)::
.go (.move (.tmp (pth 131))) (pth 132)::
.gd (pth 132) true (.call (.con (.func (.func 24) ⟨[]⟩ ⟨[]⟩)) []) (pth 133)::
.go (.pick (.tmp (pth 132)) (.tmp (pth 133)) (.con (.bool false))) (pth 134)::
.go (.move (.tmp (pth 134))) (pth 12)::
[])) .ret)))))))))))
theorem de15 : @compF Try.prog (Gl.none Try.prog) Try.f15 6 = .mk d15 (mkTT 135) [(pth 0),(pth 1),(pth 2),(pth 3),(pth 4),(pth 5)] [.tmp (pth 12)] := by kernel_rfl
theorem dg15 : Try.prog.funcs[15]? = some Try.f15 := Try.func15
theorem do15 : okF Try.prog Try.f15 = true := by kernel_rfl
theorem lge_mono {a b m m2 k n n2 q : Nat} (hm : m ≤ m2) (hn : n2 ≤ n) (h : lge a b m k n q) : lge a b m2 k n2 q := by
  intro u h1 h2 h3
  refine h u h1 (by omega) ?_
  unfold small at h3 ⊢
  have := Nat.mul_le_mul_right (ch (a + u) k) hn
  omega
theorem f40_nat {a b m n q : Nat} (hab : a + b ≤ 50) (hm : m ≤ b) (hl : lv n q) (H : Heap) : F Try.prog 40 ⟨[I a, I b, I m, .agg ⟨A2 n q⟩]⟩ H (fun v H' => Grow H H' ∧ ∃ k e : Int, v = .tuple ⟨[I k, I e]⟩ ∧ ((∃ k' : Nat, k = k' ∧ e = 0 ∧ k' ≤ a ∧ lge a b m k' n q ∧ ∀ j, j < k' → ¬ lge a b m j n q) ∨ (k = 0 ∧ e = 9 ∧ ∀ j, j < a + 1 → ¬ lge a b m j n q))) := by
  refine F.mono (f40_ok a b m n q H) (fun v H' h => ⟨h.1, ?_⟩)
  rcases h.2 with ⟨h1, _⟩ | ⟨a', b', m', n', q', h1, h2, h3, h4, h5, _, _, _, _, _, h⟩
  · exact absurd ⟨by unfold pr; omega, by omega, hl⟩ h1
  · obtain rfl : a = a' := by omega
    obtain rfl : b = b' := by omega
    obtain rfl : m = m' := by omega
    obtain rfl : n = n' := by omega
    obtain rfl : q = q' := by omega
    rcases h with ⟨k, i1, i2, i3, i4⟩ | ⟨i1, i2⟩
    · exact ⟨_, _, i4, .inl ⟨k, rfl, rfl, i1, i2, i3⟩⟩
    · exact ⟨_, _, i2, .inr ⟨rfl, rfl, i1⟩⟩
theorem f15_ok {a0 b0 m0 n q s0 l0 : Int} {H : Heap} (ha : 0 ≤ a0 ∧ a0 ≤ 255) (hb : 0 ≤ b0 ∧ b0 ≤ 255) (hmm : 0 ≤ m0 ∧ m0 ≤ 255) (hs : 0 ≤ s0 ∧ s0 ≤ 255) (hll : 0 ≤ l0 ∧ l0 ≤ 255) : F Try.prog 15 ⟨[By a0, By b0, By m0, .agg ⟨A2 n q⟩, By s0, By l0]⟩ H (fun w _ => w = .bool true) := by
  obtain ⟨a, ea, ha2, _⟩ := tm_nat ha.1 (b := 51) (by omega)
  obtain ⟨b, eb, hb2, _⟩ := tm_nat hb.1 (b := 51 - (a : Int)) (by omega)
  obtain ⟨m, em, hm2, _⟩ := tm_nat hmm.1 (b := (b : Int) + 1) (by omega)
  obtain ⟨s, esx, hs2, _⟩ := tm_nat hs.1 (b := 9) (by omega)
  have wa : IntKind.i64.wrap a0 = a0 := wrap_i64 (by omega) (by omega)
  have wb : IntKind.i64.wrap b0 = b0 := wrap_i64 (by omega) (by omega)
  have wm : IntKind.i64.wrap m0 = m0 := wrap_i64 (by omega) (by omega)
  have ws : IntKind.i64.wrap s0 = s0 := wrap_i64 (by omega) (by omega)
  have wl : IntKind.i64.wrap l0 = l0 := wrap_i64 (by omega) (by omega)
  have z1 : ¬ ((51 : Int) = 0) := by decide
  have z2 : ¬ ((51 : Int) - a = 0) := by omega
  have z3 : ¬ ((b : Int) + 1 = 0) := by omega
  have z4 : ¬ ((9 : Int) = 0) := by decide
  refine F.entryL rfl dg15 do15 de15 rfl (by kernel_rfl) ?_
  simp only [sets]
  refine V.re [(0, By a0), (1, By b0), (2, By m0), (3, .agg ⟨A2 n q⟩), (4, By s0), (5, By l0)] (N := 135) (by intro i; simp only [full_st, Full.mk]) (by simp only [Kn, gt_st, full_st, Full.mk, ↓reduceIte, qD, qE, decide_true, and_self]) ?_
  intro t hF hA
  simp only [Kn, and_true] at hA
  (repeat first|apply V.seq|apply V.block|apply V.scope|apply V.skip|apply V.close)
  refine V.line' (by simp +contextual (disch := first|omega|simp only [nx];omega) only [D4,qF,qG,qA,qB,qC,D5,hF,hA,↓reduceIte,qD,qE]; with_reducible rfl) ?_
  refine V.heap (fun X => Grow H X ∧ Bx X H.next (A2 n q) 41) ⟨?_, ?_⟩ ?_
  · (repeat first | assumption | exact Grow.refl _ | refine Grow.alloc ?_ _ | refine Grow.set ?_ (by first|omega|simp only [nx];omega) _)
  · (repeat first | assumption | exact Bx.new _ _ _ | exact Bx.newAt (by first|omega|simp only [nx];omega) | refine Bx.put (by first|omega|simp only [nx];omega) _ _ | refine Bx.alloc ?_ _ | refine Bx.set ?_ (by first|omega|simp only [nx];omega) _)
  rintro H1 ⟨g1, b1⟩
  (repeat first|apply V.seq|apply V.block|apply V.scope|apply V.skip|apply V.close)
  refine V.line' (by simp +contextual (disch := first|omega|simp only [nx];omega) only [D4,qF,qG,qA,qB,qC,D5,hF,hA,↓reduceIte,qD,qE, wa, ea, z1]; with_reducible rfl) ?_
  (repeat first|apply V.seq|apply V.block|apply V.scope|apply V.skip|apply V.close)
  refine V.line' (by simp +contextual (disch := first|omega|simp only [nx];omega) only [D4,qF,qG,qA,qB,qC,D5,hF,hA,↓reduceIte,qD,qE, wb, eb, z2]; with_reducible rfl) ?_
  (repeat first|apply V.seq|apply V.block|apply V.scope|apply V.skip|apply V.close)
  refine V.line' (by simp +contextual (disch := first|omega|simp only [nx];omega) only [D4,qF,qG,qA,qB,qC,D5,hF,hA,↓reduceIte,qD,qE, wm, em, z3]; with_reducible rfl) ?_
  (repeat first|apply V.seq|apply V.block|apply V.scope|apply V.skip|apply V.close)
  refine V.re [(4, By s0), (5, By l0), (9, PT H.next), (13, I a), (14, I b), (15, I m)] (N := 135) (by intro i; simp only [full_st, hF]) (by simp only [Kn, D5,hF,hA,↓reduceIte,qD,qE, and_self, and_true, true_and]; try (repeat' constructor)) ?_
  clear hF hA
  intro t hF hA
  simp only [Kn, and_true] at hA
  refine V.run ?_
  refine VI.steps' 1 (by simp +contextual (disch := first|omega|simp only [nx];omega) only [D4,qF,qG,qA,qB,qC,D5,hF,hA,↓reduceIte,qD,qE, b1.2]; with_reducible rfl) ?_
  simp only [ds]
  refine VI.callA rfl (f36_ok n q _) (by simp only [D6,D5,hF,hA,↓reduceIte,qD,qE]; try rfl) (fun H2 g2 => ?_)
  have b2 := b1.grow g2
  refine VI.line' (by simp +contextual (disch := first|omega|simp only [nx];omega) only [D4,qF,qG,qA,qB,qC,D5,hF,hA,↓reduceIte,qD,qE]; with_reducible rfl) ?_
  (repeat first|apply V.seq|apply V.block|apply V.scope|apply V.skip|apply V.close)
  refine V.condP (by simp only [D6,D5,hF,hA,↓reduceIte,qD,qE]; rfl) (fun h => ?_) (fun h => ?_)
  · (repeat first|apply V.seq|apply V.block|apply V.scope|apply V.skip|apply V.close)
    refine V.run ?_
    refine VI.callA rfl (f24_ok _) (by simp only [D6,D5,hF,hA,↓reduceIte,qD,qE]; try rfl) (fun H3 g3 => ?_)
    refine VI.line' (by simp +contextual (disch := first|omega|simp only [nx];omega) only [D4,qF,qG,qA,qB,qC,D5,hF,hA,↓reduceIte,qD,qE]; with_reducible rfl) ?_
    (repeat first|apply V.seq|apply V.block|apply V.scope|apply V.skip|apply V.close)
    refine V.ret (V.rets rfl (Lv.retF (by simp +contextual (disch := first|omega|simp only [nx];omega) only [D1, cells_alloc_at, cells_alloc_ne, cells_set_at, cells_set_ne, yres, yres1, yresL, qA, qB, qC, D5,hF,hA,↓reduceIte,qD,qE]; rfl) ?_))
    rfl
  have hl : lv n q := Decidable.not_not.1 h
  clear h
  obtain ⟨n, q, rfl, rfl, hq1, hq2, hn2⟩ : ∃ n' q' : Nat, n = n' ∧ q = q' ∧ 1 ≤ q' ∧ q' ≤ 1000 ∧ n' ≤ q' := by
    obtain ⟨⟨k1, k2⟩, k3, k4⟩ := hl
    exact ⟨n.toNat, q.toNat, by omega, by omega, by omega, by omega, by omega⟩
  obtain ⟨l, rfl⟩ : ∃ k : Nat, l0 = k := ⟨l0.toNat, by omega⟩
  have hmax : (if (n : Int) - l > 0 then (n : Int) - l else 0) = ((n - l : Nat) : Int) := by split <;> omega
  have hl2 : lv ((n - l : Nat) : Int) q := by unfold lv; omega
  (repeat first|apply V.seq|apply V.block|apply V.scope|apply V.skip|apply V.close)
  refine V.run ?_
  refine VI.steps' 4 (by simp +contextual (disch := first|omega|simp only [nx];omega) only [D4,qF,qG,qA,qB,qC,D5,hF,hA,↓reduceIte,qD,qE, b2.2]; with_reducible rfl) ?_
  simp only [ds]
  refine VI.callA rfl (f28_ok n q _) (by simp only [D6,D5,hF,hA,↓reduceIte,qD,qE]; try rfl) (fun H3 g3 => ?_)
  refine VI.callR (by simp only [D6,D5,hF,hA,↓reduceIte,qD,qE]; try rfl) (f40_nat (a := a) (b := b) (m := m) (n := n) (q := q) (by omega) (by omega) hl _) (by simp only [D6,D5,hF,hA,↓reduceIte,qD,qE]; try rfl) (fun v4 H4 ⟨g4, k1, e1, q4, o1⟩ => ?_)
  subst q4
  have b4 := b2.grow (g3.trans g4)
  refine VI.line' (by simp +contextual (disch := first|omega|simp only [nx];omega) only [D4,qF,qG,qA,qB,qC,D5,hF,hA,↓reduceIte,qD,qE]; with_reducible rfl) ?_
  (repeat first|apply V.seq|apply V.block|apply V.scope|apply V.skip|apply V.close)
  refine V.line' (by simp +contextual (disch := first|omega|simp only [nx];omega) only [D4,qF,qG,qA,qB,qC,D5,hF,hA,↓reduceIte,qD,qE, b4.2]; with_reducible rfl) ?_
  refine V.heap (fun X => Grow H4 X ∧ Bx X H4.next (A2 n q) 41) ⟨?_, ?_⟩ ?_
  · (repeat first | assumption | exact Grow.refl _ | refine Grow.alloc ?_ _ | refine Grow.set ?_ (by first|omega|simp only [nx];omega) _)
  · (repeat first | assumption | exact Bx.new _ _ _ | exact Bx.newAt (by first|omega|simp only [nx];omega) | refine Bx.put (by first|omega|simp only [nx];omega) _ _ | refine Bx.alloc ?_ _ | refine Bx.set ?_ (by first|omega|simp only [nx];omega) _)
  rintro H5 ⟨g5, c5⟩
  have b5 := b4.grow g5
  (repeat first|apply V.seq|apply V.block|apply V.scope|apply V.skip|apply V.close)
  refine V.line' (by simp +contextual (disch := first|omega|simp only [nx];omega) only [D4,qF,qG,qA,qB,qC,D5,hF,hA,↓reduceIte,qD,qE, c5.2, wl, hmax]; with_reducible rfl) ?_
  refine V.heap (fun X => Grow H4 X ∧ Bx X H4.next (A2 ((n - l : Nat) : Int) q) 41) ⟨?_, ?_⟩ ?_
  · have := g5.1; (repeat first | assumption | exact Grow.refl _ | refine Grow.alloc ?_ _ | refine Grow.set ?_ (by first|omega|simp only [nx];omega) _)
  · have := c5.1; (repeat first | assumption | exact Bx.new _ _ _ | exact Bx.newAt (by first|omega|simp only [nx];omega) | refine Bx.put (by first|omega|simp only [nx];omega) _ _ | refine Bx.alloc ?_ _ | refine Bx.set ?_ (by first|omega|simp only [nx];omega) _)
  rintro H6 ⟨g6, c6⟩
  have b6 := b4.grow g6
  have hmin : (if (m : Int) + s < b then (m : Int) + s else b) = ((min b (m + s) : Nat) : Int) := by split <;> omega
  have hb2' : min b (m + s) ≤ b := Nat.min_le_left _ _
  have hmge : m ≤ min b (m + s) := by omega
  (repeat first|apply V.seq|apply V.block|apply V.scope|apply V.skip|apply V.close)
  refine V.re [(9, PT H.next), (13, I a), (14, I b), (15, I m), (16, I k1), (17, I e1), (4, By s0), (18, PT H4.next)] (N := 135) (by intro i; simp only [full_st, hF]) (by simp only [Kn, D5,hF,hA,↓reduceIte,qD,qE, and_self, and_true, true_and]; try (repeat' constructor)) ?_
  clear hF hA
  intro t hF hA
  simp only [Kn, and_true] at hA
  refine V.run ?_
  refine VI.steps' 9 (by simp +contextual (disch := first|omega|simp only [nx];omega) only [D4,qF,qG,qA,qB,qC,D5,hF,hA,↓reduceIte,qD,qE, c6.2, ws, esx, z4, hmin]; with_reducible rfl) ?_
  simp only [ds]
  refine VI.steps' 1 (by simp +contextual (disch := first|omega|simp only [nx];omega) only [D4,qF,qG,qA,qB,qC,D5,hF,hA,↓reduceIte,qD,qE, c6.2, ws, esx, z4, hmin]; with_reducible rfl) ?_
  simp only [ds]
  refine VI.callA rfl (f28_ok ((n - l : Nat) : Int) q _) (by simp only [D6,D5,hF,hA,↓reduceIte,qD,qE]; try rfl) (fun H7 g7 => ?_)
  refine VI.callR (by simp only [D6,D5,hF,hA,↓reduceIte,qD,qE]; try rfl) (f40_nat (a := a) (b := b) (m := min b (m + s)) (n := n - l) (q := q) (by omega) (by omega) hl2 _) (by simp only [D6,D5,hF,hA,↓reduceIte,qD,qE]; try rfl) (fun v8 H8 ⟨g8, k2, e2, q8, o2⟩ => ?_)
  subst q8
  have b8 := b6.grow (g7.trans g8)
  refine VI.line' (by simp +contextual (disch := first|omega|simp only [nx];omega) only [D4,qF,qG,qA,qB,qC,D5,hF,hA,↓reduceIte,qD,qE]; with_reducible rfl) ?_
  (repeat first|apply V.seq|apply V.block|apply V.scope|apply V.skip|apply V.close)
  refine V.re [(9, PT H.next), (13, I a), (14, I b), (15, I m), (16, I k1), (17, I e1), (19, I k2), (20, I e2)] (N := 135) (by intro i; simp only [full_st, hF]) (by simp only [Kn, D5,hF,hA,↓reduceIte,qD,qE, and_self, and_true, true_and]; try (repeat' constructor)) ?_
  clear hF hA
  intro t hF hA
  simp only [Kn, and_true] at hA
  have lm : ∀ k, lge a b m k n q → lge a b (min b (m + s)) k (n - l) q := fun k => lge_mono hmge (Nat.sub_le _ _)
  rcases o1 with ⟨k, rfl, rfl, i1, i2, i3⟩ | ⟨rfl, rfl, i1⟩
  · have ho2 : ∃ j : Nat, k2 = j ∧ e2 = 0 ∧ j ≤ k := by
      rcases o2 with ⟨j, h1, h2, h3, h4, h5⟩ | ⟨_, _, h5⟩
      · refine ⟨j, h1, h2, Nat.le_of_not_lt fun h => ?_⟩
        exact h5 k h (lm k i2)
      · exact absurd (lm k i2) (h5 k (by omega))
    obtain ⟨j, rfl, rfl, hj⟩ := ho2
    have r1 : Gives Try.prog 42 [I a, I b, I m, I k, .agg ⟨A2 n q⟩] H8 (.bool true) := by
      have := f42_ok (a := a) (b := b) (m := m) (k := k) (n := n) (q := q) (by omega) (by omega) i1 (by omega) (by omega) H8
      rw [decide_eq_true i2] at this
      exact this
    have hjk : (j : Int) ≤ k := by omega
    have hk0 : (0 : Int) ≤ k := by omega
    have hka : (k : Int) ≤ a := by omega
    refine V.line' (by simp +contextual (disch := first|omega|simp only [nx];omega) only [D4,qF,qG,qA,qB,qC,D5,hF,hA,↓reduceIte,qD,qE, ne_eq, not_true_eq_false]; with_reducible rfl) ?_
    (repeat first|apply V.seq|apply V.block|apply V.scope|apply V.skip|apply V.close)
    refine V.condF (by simp only [D6,D5,hF,hA,↓reduceIte,qD,qE]) ?_
    (repeat first|apply V.seq|apply V.block|apply V.scope|apply V.skip|apply V.close)
    refine V.run ?_
    refine VI.steps' 9 (by simp +contextual (disch := first|omega|simp only [nx];omega) only [D4,qF,qG,qA,qB,qC,D5,hF,hA,↓reduceIte,qD,qE, b8.2, hjk, hk0, hka]; with_reducible rfl) ?_
    simp only [ds]
    refine VI.steps' 9 (by simp +contextual (disch := first|omega|simp only [nx];omega) only [D4,qF,qG,qA,qB,qC,D5,hF,hA,↓reduceIte,qD,qE, b8.2, hjk, hk0, hka]; with_reducible rfl) ?_
    simp only [ds]
    refine VI.steps' 4 (by simp +contextual (disch := first|omega|simp only [nx];omega) only [D4,qF,qG,qA,qB,qC,D5,hF,hA,↓reduceIte,qD,qE, b8.2, hjk, hk0, hka]; with_reducible rfl) ?_
    simp only [ds]
    refine VI.callAT (by simp only [D5,hF,hA,↓reduceIte,qD,qE]; try rfl) rfl (r1) (by simp only [D6,D5,hF,hA,↓reduceIte,qD,qE]; try rfl) (fun H9 g9 => ?_)
    have b9 := b8.grow g9
    by_cases hkz : k = 0
    · subst hkz
      refine VI.steps' 9 (by simp +contextual (disch := first|omega|simp only [nx];omega) only [D4,qF,qG,qA,qB,qC,D5,hF,hA,↓reduceIte,qD,qE]; with_reducible rfl) ?_
      simp only [ds]
      refine VI.steps' 7 (by simp +contextual (disch := first|omega|simp only [nx];omega) only [D4,qF,qG,qA,qB,qC,D5,hF,hA,↓reduceIte,qD,qE]; with_reducible rfl) ?_
      simp only [ds]
      refine VI.callAT (by simp only [D5,hF,hA,↓reduceIte,qD,qE]; try rfl) rfl (f24_ok _) (by simp only [D6,D5,hF,hA,↓reduceIte,qD,qE]; try rfl) (fun Z1 gz1 => ?_)
      refine VI.line' (by simp +contextual (disch := first|omega|simp only [nx];omega) only [D4,qF,qG,qA,qB,qC,D5,hF,hA,↓reduceIte,qD,qE]; with_reducible rfl) ?_
      (repeat first|apply V.seq|apply V.block|apply V.scope|apply V.skip|apply V.close)
      refine V.ret (V.rets rfl (Lv.retF (by simp +contextual (disch := first|omega|simp only [nx];omega) only [D1, cells_alloc_at, cells_alloc_ne, cells_set_at, cells_set_ne, yres, yres1, yresL, qA, qB, qC, D5,hF,hA,↓reduceIte,qD,qE]; rfl) ?_))
      rfl
    · have hkz' : ¬ ((k : Int) = 0) := by omega
      have ekp : (k : Int) - 1 = ((k - 1 : Nat) : Int) := by omega
      have r2 : Gives Try.prog 42 [I a, I b, I m, I ((k - 1 : Nat) : Int), .agg ⟨A2 n q⟩] H9 (.bool false) := by
        have := f42_ok (a := a) (b := b) (m := m) (k := k - 1) (n := n) (q := q) (by omega) (by omega) (by omega) (by omega) (by omega) H9
        rw [decide_eq_false (i3 (k - 1) (by omega))] at this
        exact this
      refine VI.steps' 9 (by simp +contextual (disch := first|omega|simp only [nx];omega) only [D4,qF,qG,qA,qB,qC,D5,hF,hA,↓reduceIte,qD,qE, b9.2, hkz', ekp]; with_reducible rfl) ?_
      simp only [ds]
      refine VI.steps' 2 (by simp +contextual (disch := first|omega|simp only [nx];omega) only [D4,qF,qG,qA,qB,qC,D5,hF,hA,↓reduceIte,qD,qE, b9.2, hkz', ekp]; with_reducible rfl) ?_
      simp only [ds]
      refine VI.callAT (by simp only [D5,hF,hA,↓reduceIte,qD,qE]; try rfl) rfl (r2) (by simp only [D6,D5,hF,hA,↓reduceIte,qD,qE]; try rfl) (fun H10 g10 => ?_)
      refine VI.steps' 4 (by simp +contextual (disch := first|omega|simp only [nx];omega) only [D4,qF,qG,qA,qB,qC,D5,hF,hA,↓reduceIte,qD,qE]; with_reducible rfl) ?_
      simp only [ds]
      refine VI.callAT (by simp only [D5,hF,hA,↓reduceIte,qD,qE]; try rfl) rfl (f24_ok _) (by simp only [D6,D5,hF,hA,↓reduceIte,qD,qE]; try rfl) (fun Z1 gz1 => ?_)
      refine VI.line' (by simp +contextual (disch := first|omega|simp only [nx];omega) only [D4,qF,qG,qA,qB,qC,D5,hF,hA,↓reduceIte,qD,qE]; with_reducible rfl) ?_
      (repeat first|apply V.seq|apply V.block|apply V.scope|apply V.skip|apply V.close)
      refine V.ret (V.rets rfl (Lv.retF (by simp +contextual (disch := first|omega|simp only [nx];omega) only [D1, cells_alloc_at, cells_alloc_ne, cells_set_at, cells_set_ne, yres, yres1, yresL, qA, qB, qC, D5,hF,hA,↓reduceIte,qD,qE]; rfl) ?_))
      rfl
  · have ho2 : e2 = 0 ∨ e2 = 9 := by
      rcases o2 with ⟨j, h1, h2, h3, h4, h5⟩ | ⟨_, h, _⟩
      · exact .inl h2
      · exact .inr h
    have r1 : Gives Try.prog 42 [I a, I b, I m, I a, .agg ⟨A2 n q⟩] H8 (.bool false) := by
      have := f42_ok (a := a) (b := b) (m := m) (k := a) (n := n) (q := q) (by omega) (by omega) (by omega) (by omega) (by omega) H8
      rw [decide_eq_false (i1 a (by omega))] at this
      exact this
    refine V.line' (by simp +contextual (disch := first|omega|simp only [nx];omega) only [D4,qF,qG,qA,qB,qC,D5,hF,hA,↓reduceIte,qD,qE, ne_eq]; with_reducible rfl) ?_
    (repeat first|apply V.seq|apply V.block|apply V.scope|apply V.skip|apply V.close)
    refine V.condT (by simp only [D6,D5,hF,hA,↓reduceIte,qD,qE]) ?_
    (repeat first|apply V.seq|apply V.block|apply V.scope|apply V.skip|apply V.close)
    refine V.run ?_
    refine VI.steps' 8 (by simp +contextual (disch := first|omega|simp only [nx];omega) only [D4,qF,qG,qA,qB,qC,D5,hF,hA,↓reduceIte,qD,qE, b8.2]; with_reducible rfl) ?_
    simp only [ds]
    refine VI.callAT (by simp only [D5,hF,hA,↓reduceIte,qD,qE]; try rfl) rfl (r1) (by simp only [D6,D5,hF,hA,↓reduceIte,qD,qE]; try rfl) (fun H9 g9 => ?_)
    rcases ho2 with rfl | rfl
    · refine VI.steps' 9 (by simp +contextual (disch := first|omega|simp only [nx];omega) only [D4,qF,qG,qA,qB,qC,D5,hF,hA,↓reduceIte,qD,qE]; with_reducible rfl) ?_
      simp only [ds]
      refine VI.steps' 2 (by simp +contextual (disch := first|omega|simp only [nx];omega) only [D4,qF,qG,qA,qB,qC,D5,hF,hA,↓reduceIte,qD,qE]; with_reducible rfl) ?_
      simp only [ds]
      refine VI.callAT (by simp only [D5,hF,hA,↓reduceIte,qD,qE]; try rfl) rfl (f24_ok _) (by simp only [D6,D5,hF,hA,↓reduceIte,qD,qE]; try rfl) (fun Z1 gz1 => ?_)
      refine VI.line' (by simp +contextual (disch := first|omega|simp only [nx];omega) only [D4,qF,qG,qA,qB,qC,D5,hF,hA,↓reduceIte,qD,qE]; with_reducible rfl) ?_
      (repeat first|apply V.seq|apply V.block|apply V.scope|apply V.skip|apply V.close)
      refine V.ret (V.rets rfl (Lv.retF (by simp +contextual (disch := first|omega|simp only [nx];omega) only [D1, cells_alloc_at, cells_alloc_ne, cells_set_at, cells_set_ne, yres, yres1, yresL, qA, qB, qC, D5,hF,hA,↓reduceIte,qD,qE]; rfl) ?_))
      rfl
    · refine VI.steps' 9 (by simp +contextual (disch := first|omega|simp only [nx];omega) only [D4,qF,qG,qA,qB,qC,D5,hF,hA,↓reduceIte,qD,qE]; with_reducible rfl) ?_
      simp only [ds]
      refine VI.steps' 2 (by simp +contextual (disch := first|omega|simp only [nx];omega) only [D4,qF,qG,qA,qB,qC,D5,hF,hA,↓reduceIte,qD,qE]; with_reducible rfl) ?_
      simp only [ds]
      refine VI.callAT (by simp only [D5,hF,hA,↓reduceIte,qD,qE]; try rfl) rfl (f24_ok _) (by simp only [D6,D5,hF,hA,↓reduceIte,qD,qE]; try rfl) (fun Z1 gz1 => ?_)
      refine VI.line' (by simp +contextual (disch := first|omega|simp only [nx];omega) only [D4,qF,qG,qA,qB,qC,D5,hF,hA,↓reduceIte,qD,qE]; with_reducible rfl) ?_
      (repeat first|apply V.seq|apply V.block|apply V.scope|apply V.skip|apply V.close)
      refine V.ret (V.rets rfl (Lv.retF (by simp +contextual (disch := first|omega|simp only [nx];omega) only [D1, cells_alloc_at, cells_alloc_ne, cells_set_at, cells_set_ne, yres, yres1, yresL, qA, qB, qC, D5,hF,hA,↓reduceIte,qD,qE]; rfl) ?_))
      rfl
end Go.Xe.TMX
/- Rules of reasoning over the executable reading of the model's code (part Z16): arguments, by what their types allow. Conditions: none; for every program. -/
namespace Go.Xe
open Go Go.RowKit Go.ChangeShapes Go.WideShapes
theorem okWide_agg {P : Program} {w : World} {r : Reach} {base : Nat} {t : TypeId} {v : Value} {fs : Array Field} (ht : P.underlying t = some (.struct fs)) (h : Value.okWide P w r base t v) : ∃ cs, v = .agg cs := by
  unfold Value.okWide at h
  rw [ht] at h
  obtain ⟨cs, h, _⟩ := h
  exact ⟨cs, h⟩
end Go.Xe
/- The end of a call that has changed nothing of what was there: what a statement asks of the memory behind it. Conditions: as post_of_same's, but that new memory may be frozen. -/
namespace Go.Xe
open Go Go.RowKit Go.ChangeShapes Go.WideShapes
variable {H : Type} {enc : TypeId × Value → H} {P : Program}
theorem post_of_old {f : Func} {s : ChangeSpec} {apart fresh handsOn again : Bool} {W W' : World} {args : Array Value} {v : Value} {ds gs : List (DataW H)} {before pa pv : List MemPlace}
    (hW : DataW.Whole enc P f.params.toList s.vars apart W args.toList ds gs before)
    (hres : ∀ (b : Nat) (sp : Nat → Bool) (hd : Bool), DataW.TrodAll enc P W' b sp hd f.resultTypes.toList (v.resultList f.resultTypes.size) (s.fn H (ds ++ gs)).results [])
    (hargs : ∀ sp : Nat → Bool, (∀ p ∈ before, sp p.block = true) → DataW.TrodAll enc P W' 0 sp true f.params.toList args.toList (s.fn H (ds ++ gs)).args pa)
    (hvars : ∀ sp : Nat → Bool, (∀ p ∈ before, sp p.block = true) → DataW.TrodVars enc P W' sp s.vars (s.fn H (ds ++ gs)).vars pv)
    (hps : before = pa ++ pv) (hk : W.keptBut W' (· ∈ before)) (hfz : ∀ a : Addr, a.block < W.heap.size → W'.frozen? a = W.frozen? a)
    (hok : ∀ (j : Nat) (t : TypeId) (r : Value), f.resultTypes[j]? = some t → (v.resultList f.resultTypes.size)[j]? = some r → Value.okWide P W' .any 0 t r) :
    s.post enc P f apart fresh handsOn again W args v W' := by
  have old : ∀ p ∈ before, p.block < W.heap.size := fun p hp => hW.lt p hp
  have hold : ∀ p ∈ before, (fun b => decide (b < W.heap.size)) p.block = true := fun p hp => by simpa using old p hp
  subst hps
  refine ⟨ds, gs, _, [], pa, pv, hW, hres _ _ _, hargs _ hold, hvars _ hold, World.keptBut_mono (fun p hp => ⟨hp, .inr (List.mem_append.1 hp)⟩) hk, fun _ => ?_⟩
  obtain ⟨_, _, _, _, _, hz, hn⟩ := hW
  refine ⟨hok, _, _, ([] ++ pa) ++ pv, ⟨[] ++ pa, pv, trodAll_append (hargs _ (fun _ _ => rfl)) (hres _ _ _), hvars _ (fun _ _ => rfl), rfl, ?_, ?_⟩, ?_⟩
  · intro b off hp
    have hp' : MemPlace.cell b off ∈ pa ++ pv := by simpa using hp
    rw [hfz _ (old _ hp')]
    exact hz b off hp'
  · intro ha
    simpa using hn ha
  · intro p hp _
    simpa using hp
end Go.Xe
