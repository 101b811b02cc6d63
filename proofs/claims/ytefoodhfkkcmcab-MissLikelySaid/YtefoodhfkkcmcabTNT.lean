/- What the statement MissLikely comes to: the statement's own list, and the whole. Conditions: none. -/
import Derived.Test.YtefoodhfkkcmcabTNS
-- MOD TM
namespace Go.Xe.TMX
open Go Go.Xe Go.Proofs Go.Xe.Mth
open Nat (reduceLeDiff reduceSub reduceAdd reduceEqDiff reduceLT)
open Int (reduceNegSucc reduceEq)
set_option maxRecDepth 100000
set_option maxHeartbeats 3200000
set_option linter.unusedSimpArgs false
noncomputable def d5 : FCode := (.seq (.run (.go (.box 23 (.tmp (pth 0))) (pth 1)::
.go (.move (.con (.bool false))) (pth 2)::
[])) (.seq (.run (.go (.loadN 4 (.tmp (pth 1))) (pth 12)::
.go (.call (.con (.func (.func 21) ⟨[]⟩ ⟨[]⟩)) [(.tmp (pth 12))]) (pth 13)::
.go (.call (.con (.func (.func 31) ⟨[]⟩ ⟨[]⟩)) [(.tmp (pth 13))]) (pth 14)::
.go (.move (.tmp (pth 14))) (pth 11)::
.go (.extract (.tmp (pth 11)) 0) (pth 15)::
.go (.extract (.tmp (pth 11)) 1) (pth 16)::
.go (.move (.tmp (pth 15))) (pth 3)::
.go (.move (.tmp (pth 16))) (pth 4)::
[])) (.seq (.seq (.run (.go (.loadN 4 (.tmp (pth 1))) (pth 17)::
.go (.call (.con (.func (.func 22) ⟨[]⟩ ⟨[]⟩)) [(.tmp (pth 17))]) (pth 18)::
.go (.move (.tmp (pth 18))) (pth 5)::
[])) (.seq (.run (.go (.move (.tmp (pth 5))) (pth 19)::
.go (.bin .neq 24 (.tmp (pth 19)) (.con (.int .i64 (.ofNat 0)))) (pth 20)::
[])) (.cond (.tmp (pth 20)) (.seq (.run (.go (.move (.tmp (pth 4))) (pth 21)::
.go (.move (.tmp (pth 5))) (pth 22)::
.go (.bin .eql 24 (.tmp (pth 21)) (.tmp (pth 22))) (pth 23)::
.go (.move (.tmp (pth 23))) (pth 24)::
.gd (pth 24) true (.move (.tmp (pth 3))) (pth 25)::
.gd (pth 24) true (.len 0 (.tmp (pth 25))) (pth 26)::
.gd (pth 24) true (.bin .eql 3 (.tmp (pth 26)) (.con (.int .i64 (.ofNat 0)))) (pth 27)::
.go (.pick (.tmp (pth 24)) (.tmp (pth 27)) (.con (.bool false))) (pth 28)::
.go (.move (.tmp (pth 28))) (pth 29)::
.gd (pth 29) true (.call (.con (.func (.func 24) ⟨[]⟩ ⟨[]⟩)) []) (pth 30)::
.go (.pick (.tmp (pth 29)) (.tmp (pth 30)) (.con (.bool false))) (pth 31)::
.go (.move (.tmp (pth 31))) (pth 2)::
[])) .ret) .skip))) (.seq (.run (.go (.move (.con (.slice none 0 0))) (pth 6)::
[])) (.seq (.seq (.run (.go (.move (.con (.int .i64 (.ofNat 0)))) (pth 7)::
[])) (.block 0 (.loop (.seq (.seq (.run (.go (.move (.tmp (pth 7))) (pth 32)::
.go (.fieldAddr 1 (.tmp (pth 1))) (pth 33)::
.go (.load1 (.tmp (pth 33))) (pth 34)::
.go (.bin .leq 3 (.tmp (pth 32)) (.tmp (pth 34))) (pth 35)::
[])) (.cond (.tmp (pth 35)) .skip (.exit 0))) (.seq (.block 1 (.seq (.run (.go (.loadN 4 (.tmp (pth 1))) (pth 38)::
.go (.move (.tmp (pth 7))) (pth 39)::
.go (.fieldAddr 3 (.tmp (pth 1))) (pth 40)::
.go (.load1 (.tmp (pth 40))) (pth 41)::
.go (.fieldAddr 3 (.tmp (pth 1))) (pth 42)::
.go (.load1 (.tmp (pth 42))) (pth 43)::
.go (.call (.con (.func (.func 30) ⟨[]⟩ ⟨[]⟩)) [(.tmp (pth 38)),(.tmp (pth 39)),(.tmp (pth 41)),(.tmp (pth 43))]) (pth 44)::
.go (.alloc 41 [(.int .i64 (.ofNat 0)),(.int .i64 (.ofNat 0))]) (pth 8)::
.un (.store 2 (.tmp (pth 8)) (.tmp (pth 44)))::
[])) (.seq (.run (.go (.fieldAddr 0 (.tmp (pth 8))) (pth 45)::
.go (.load1 (.tmp (pth 45))) (pth 46)::
.go (.bin .gtr 3 (.tmp (pth 46)) (.con (.int .i64 (.ofNat 0)))) (pth 47)::
.go (.move (.tmp (pth 47))) (pth 9)::
[])) (.seq (.seq (.run (.go (.move (.con (.int .i64 (.ofNat 0)))) (pth 10)::
[])) (.block 2 (.loop (.seq (.seq (.run (.go (.move (.tmp (pth 10))) (pth 48)::
.go (.fieldAddr 1 (.tmp (pth 1))) (pth 49)::
.go (.load1 (.tmp (pth 49))) (pth 50)::
.go (.bin .leq 3 (.tmp (pth 48)) (.tmp (pth 50))) (pth 51)::
[])) (.cond (.tmp (pth 51)) .skip (.exit 2))) (.seq (.block 3 (.draw 14 (.go (.move (.tmp (pth 9))) (pth 54)::
.go (.move (.tmp (pth 54))) (pth 55)::
.gd (pth 55) true (.loadN 2 (.tmp (pth 8))) (pth 56)::
.gd (pth 55) true (.loadN 4 (.tmp (pth 1))) (pth 57)::
.gd (pth 55) true (.move (.tmp (pth 10))) (pth 58)::
.gd (pth 55) true (.fieldAddr 3 (.tmp (pth 1))) (pth 59)::
.gd (pth 55) true (.load1 (.tmp (pth 59))) (pth 60)::
.gd (pth 55) true (.fieldAddr 3 (.tmp (pth 1))) (pth 61)::
.gd (pth 55) true (.load1 (.tmp (pth 61))) (pth 62)::
.gd (pth 55) true (.call (.con (.func (.func 30) ⟨[]⟩ ⟨[]⟩)) [(.tmp (pth 57)),(.tmp (pth 58)),(.tmp (pth 60)),(.tmp (pth 62))]) (pth 63)::
.gd (pth 55) true (.call (.con (.func (.func 32) ⟨[]⟩ ⟨[]⟩)) [(.tmp (pth 56)),(.tmp (pth 63))]) (pth 64)::
.gd (pth 55) true (.un .not (.tmp (pth 64))) (pth 65)::
.go (.pick (.tmp (pth 55)) (.tmp (pth 65)) (.con (.bool false))) (pth 66)::
.go (.move (.tmp (pth 66))) (pth 9)::
[]) [.ok,.ok,.rd (some ((pth 55),true)) (.loadN 2 (.tmp (pth 8))) (some (pth 56)) [10],.ok,.ok,.ok,.ok,.ok,.ok,.ok,.ok,.ok,.ok,.ok])) (.run (.go (.move (.tmp (pth 10))) (pth 52)::
.go (.bin .add 3 (.tmp (pth 52)) (.con (.int .i64 (.ofNat 1)))) (pth 53)::
.go (.move (.tmp (pth 53))) (pth 10)::
[]))))))) (.seq (.run (.go (.move (.tmp (pth 9))) (pth 67)::
[])) (.cond (.tmp (pth 67)) (.run (.go (.move (.tmp (pth 6))) (pth 68)::
.go (.move (.tmp (pth 7))) (pth 69)::
.go (.buildSlice 3 1 [(.int .i64 (.ofNat 0))] [(0,1,(.tmp (pth 69)))]) (pth 70)::
.go (.append 3 1 8 (.tmp (pth 68)) (.tmp (pth 70))) (pth 71)::
.go (.move (.tmp (pth 71))) (pth 6)::
[])) .skip)))))) (.run (.go (.move (.tmp (pth 7))) (pth 36)::
.go (.bin .add 3 (.tmp (pth 36)) (.con (.int .i64 (.ofNat 1)))) (pth 37)::
.go (.move (.tmp (pth 37))) (pth 7)::
[]))))))) (.seq (.seq (.run (.go (.move (.tmp (pth 6))) (pth 72)::
.go (.len 0 (.tmp (pth 72))) (pth 73)::
.go (.bin .eql 3 (.tmp (pth 73)) (.con (.int .i64 (.ofNat 0)))) (pth 74)::
[])) (.cond (.tmp (pth 74)) (.seq (.run (.go (.move (.tmp (pth 4))) (pth 75)::
.go (.bin .eql 24 (.tmp (pth 75)) (.con (.int .i64 (.ofNat 9)))) (pth 76)::
.go (.move (.tmp (pth 76))) (pth 77)::
.gd (pth 77) true (.move (.tmp (pth 3))) (pth 78)::
.gd (pth 77) true (.len 0 (.tmp (pth 78))) (pth 79)::
.gd (pth 77) true (.bin .eql 3 (.tmp (pth 79)) (.con (.int .i64 (.ofNat 0)))) (pth 80)::
.go (.pick (.tmp (pth 77)) (.tmp (pth 80)) (.con (.bool false))) (pth 81)::
.go (.move (.tmp (pth 81))) (pth 82)::
.gd (pth 82) true (.call (.con (.func (.func 24) ⟨[]⟩ ⟨[]⟩)) []) (pth 83)::
.go (.pick (.tmp (pth 82)) (.tmp (pth 83)) (.con (.bool false))) (pth 84)::
.go (.move (.tmp (pth 84))) (pth 2)::
[])) .ret) .skip)) (.seq (.run (.go (.move (.tmp (pth 4))) (pth 85)::
.go (.bin .eql 24 (.tmp (pth 85)) (.con (.int .i64 (.ofNat 0)))) (pth 86)::
.go (.move (.tmp (pth 86))) (pth 87)::
.gd (pth 87) true (.move (.tmp (pth 3))) (pth 88)::
.gd (pth 87) true (.move (.tmp (pth 6))) (pth 89)::
.gd (pth 87) true (.call (.con (.func (.func 33) ⟨[]⟩ ⟨[]⟩)) [(.tmp (pth 88)),(.tmp (pth 89))]) (pth 90)::
.go (.pick (.tmp (pth 87)) (.tmp (pth 90)) (.con (.bool false))) (pth 91)::
.go (.move (.tmp (pth 91))) (pth 92)::
.gd (pth 92) true (.call (.con (.func (.func 24) ⟨[]⟩ ⟨[]⟩)) []) (pth 93)::
.go (.pick (.tmp (pth 92)) (.tmp (pth 93)) (.con (.bool false))) (pth 94)::
.go (.move (.tmp (pth 94))) (pth 2)::
[])) .ret)))))))
theorem de5 : @compF Try.prog (Gl.none Try.prog) Try.f5 1 = .mk d5 (mkTT 95) [(pth 0)] [.tmp (pth 2)] := by kernel_rfl
theorem dg5 : Try.prog.funcs[5]? = some Try.f5 := Try.func5
theorem do5 : okF Try.prog Try.f5 = true := by kernel_rfl
theorem likL_s (a b c d k : Nat) : likL a b c d (k + 1) = if lik a b c d k then likL a b c d k ++ [(k : Int)] else likL a b c d k := by
  unfold likL
  rw [List.range_succ, List.filter_append, List.map_append]
  by_cases h : lik a b c d k
  · rw [if_pos h]; simp [h]
  · rw [if_neg h]; simp [h]
theorem likL_len (a b c d k : Nat) : (likL a b c d k).length ≤ k := by
  unfold likL
  rw [List.length_map]
  exact Nat.le_trans (List.length_filter_le _ _) (by simp)
theorem f5_ok {a b c d : Int} {H : Heap} : F Try.prog 5 ⟨[.agg ⟨A4 a b c d⟩]⟩ H (fun w _ => w = .bool true) := by
  have hl0 : ∀ X : Heap, ylen 0 X (.slice none 0 0) = some (I 0) := fun _ => rfl
  refine F.entryL rfl dg5 do5 de5 rfl (by kernel_rfl) ?_
  simp only [sets]
  refine V.re [(0, .agg ⟨A4 a b c d⟩)] (N := 95) (by intro i; simp only [full_st, Full.mk]) (by simp only [Kn, gt_st, full_st, Full.mk, ↓reduceIte, reduceEqDiff, reduceLT, decide_true, and_self]) ?_
  intro t hF hA
  simp only [Kn, and_true] at hA
  (repeat first|apply V.seq|apply V.block|apply V.scope|apply V.skip|apply V.close)
  refine V.line' (by simp +contextual (disch := first|omega|simp only [nx];omega) only [D4,reduceNegSucc,reduceEq,reduceLeDiff,reduceSub,reduceAdd,D5,hF,hA,↓reduceIte,reduceEqDiff,reduceLT]; with_reducible rfl) ?_
  refine V.heap (fun X => Grow H X ∧ Bx X H.next (A4 a b c d) 23) ⟨?_, ?_⟩ ?_
  · (repeat first | assumption | exact Grow.refl _ | refine Grow.alloc ?_ _ | refine Grow.set ?_ (by first|omega|simp only [nx];omega) _)
  · (repeat first | assumption | exact Bx.new _ _ _ | exact Bx.newAt (by first|omega|simp only [nx];omega) | refine Bx.put (by first|omega|simp only [nx];omega) _ _ | refine Bx.alloc ?_ _ | refine Bx.set ?_ (by first|omega|simp only [nx];omega) _)
  rintro H1 ⟨g1, b1⟩
  (repeat first|apply V.seq|apply V.block|apply V.scope|apply V.skip|apply V.close)
  refine V.run ?_
  refine VI.steps' 1 (by simp +contextual (disch := first|omega|simp only [nx];omega) only [D4,reduceNegSucc,reduceEq,reduceLeDiff,reduceSub,reduceAdd,D5,hF,hA,↓reduceIte,reduceEqDiff,reduceLT, b1.2]; with_reducible rfl) ?_
  simp only [ds]
  refine VI.callA rfl (f21_ok a b c d _) (by simp only [D6,D5,hF,hA,↓reduceIte,reduceEqDiff,reduceLT]; try rfl) (fun H2 g2 => ?_)
  refine VI.callR (by simp only [D6,D5,hF,hA,↓reduceIte,reduceEqDiff,reduceLT]; try rfl) (f31_ok a b c d _) (by simp only [D6,D5,hF,hA,↓reduceIte,reduceEqDiff,reduceLT]; try rfl) (fun v3 H3 ⟨g3, o3⟩ => ?_)
  have b3 := b1.grow (g2.trans g3)
  rcases o3 with ⟨hv, rfl⟩ | ⟨a, b, c, d, rfl, rfl, rfl, rfl, hv, o3⟩
  · refine VI.line' (by simp +contextual (disch := first|omega|simp only [nx];omega) only [D4,reduceNegSucc,reduceEq,reduceLeDiff,reduceSub,reduceAdd,D5,hF,hA,↓reduceIte,reduceEqDiff,reduceLT]; with_reducible rfl) ?_
    (repeat first|apply V.seq|apply V.block|apply V.scope|apply V.skip|apply V.close)
    refine V.run ?_
    refine VI.steps' 1 (by simp +contextual (disch := first|omega|simp only [nx];omega) only [D4,reduceNegSucc,reduceEq,reduceLeDiff,reduceSub,reduceAdd,D5,hF,hA,↓reduceIte,reduceEqDiff,reduceLT, b3.2]; with_reducible rfl) ?_
    simp only [ds]
    refine VI.callA rfl (f22_ok a b c d _) (by simp only [D6,D5,hF,hA,↓reduceIte,reduceEqDiff,reduceLT]; try rfl) (fun H4 g4 => ?_)
    rw [if_neg hv]
    refine VI.line' (by simp +contextual (disch := first|omega|simp only [nx];omega) only [D4,reduceNegSucc,reduceEq,reduceLeDiff,reduceSub,reduceAdd,D5,hF,hA,↓reduceIte,reduceEqDiff,reduceLT]; with_reducible rfl) ?_
    (repeat first|apply V.seq|apply V.block|apply V.scope|apply V.skip|apply V.close)
    refine V.line' (by simp +contextual (disch := first|omega|simp only [nx];omega) only [D4,reduceNegSucc,reduceEq,reduceLeDiff,reduceSub,reduceAdd,D5,hF,hA,↓reduceIte,reduceEqDiff,reduceLT, ne_eq]; with_reducible rfl) ?_
    (repeat first|apply V.seq|apply V.block|apply V.scope|apply V.skip|apply V.close)
    refine V.condT (by simp only [D6,D5,hF,hA,↓reduceIte,reduceEqDiff,reduceLT]) ?_
    (repeat first|apply V.seq|apply V.block|apply V.scope|apply V.skip|apply V.close)
    refine V.run ?_
    refine VI.steps' 9 (by simp +contextual (disch := first|omega|simp only [nx];omega) only [D4,reduceNegSucc,reduceEq,reduceLeDiff,reduceSub,reduceAdd,D5,hF,hA,↓reduceIte,reduceEqDiff,reduceLT, hl0]; with_reducible rfl) ?_
    simp only [ds]
    refine VI.callAT (by simp only [D5,hF,hA,↓reduceIte,reduceEqDiff,reduceLT]; try rfl) rfl (f24_ok _) (by simp only [D6,D5,hF,hA,↓reduceIte,reduceEqDiff,reduceLT]; try rfl) (fun H5 g5 => ?_)
    refine VI.line' (by simp +contextual (disch := first|omega|simp only [nx];omega) only [D4,reduceNegSucc,reduceEq,reduceLeDiff,reduceSub,reduceAdd,D5,hF,hA,↓reduceIte,reduceEqDiff,reduceLT]; with_reducible rfl) ?_
    (repeat first|apply V.seq|apply V.block|apply V.scope|apply V.skip|apply V.close)
    refine V.ret (V.rets rfl (Lv.retF (by simp +contextual (disch := first|omega|simp only [nx];omega) only [D1, cells_alloc_at, cells_alloc_ne, cells_set_at, cells_set_ne, yres, yres1, yresL, reduceLeDiff, reduceSub, reduceAdd, D5,hF,hA,↓reduceIte,reduceEqDiff,reduceLT]; rfl) ?_))
    rfl
  have k1 : a + b ≤ 50 := by unfold ar pr at hv; omega
  have k3 : c ≤ a := by unfold ar pr at hv; omega
  have k4 : d ≤ c := by unfold ar pr at hv; omega
  obtain ⟨s3, e, rfl, hse⟩ : ∃ (s3 : Value) (e : Int), v3 = .tuple ⟨[s3, I e]⟩ ∧ ((likL a b c d (b + 1) = [] ∧ e = 9 ∧ s3 = .slice none 0 0) ∨ (likL a b c d (b + 1) ≠ [] ∧ e = 0 ∧ Sl H3 s3 ((likL a b c d (b + 1)).map I))) := by
    rcases o3 with ⟨h1, h2⟩ | ⟨s, h1, h2, h3⟩
    · exact ⟨_, _, h2, .inl ⟨h1, rfl, rfl⟩⟩
    · exact ⟨_, _, h2, .inr ⟨h1, rfl, h3⟩⟩
  refine VI.line' (by simp +contextual (disch := first|omega|simp only [nx];omega) only [D4,reduceNegSucc,reduceEq,reduceLeDiff,reduceSub,reduceAdd,D5,hF,hA,↓reduceIte,reduceEqDiff,reduceLT]; with_reducible rfl) ?_
  (repeat first|apply V.seq|apply V.block|apply V.scope|apply V.skip|apply V.close)
  refine V.run ?_
  refine VI.steps' 1 (by simp +contextual (disch := first|omega|simp only [nx];omega) only [D4,reduceNegSucc,reduceEq,reduceLeDiff,reduceSub,reduceAdd,D5,hF,hA,↓reduceIte,reduceEqDiff,reduceLT, b3.2]; with_reducible rfl) ?_
  simp only [ds]
  refine VI.callA rfl (f22_ok a b c d _) (by simp only [D6,D5,hF,hA,↓reduceIte,reduceEqDiff,reduceLT]; try rfl) (fun H4 g4 => ?_)
  have b4 := b3.grow g4
  rw [if_pos hv]
  refine VI.line' (by simp +contextual (disch := first|omega|simp only [nx];omega) only [D4,reduceNegSucc,reduceEq,reduceLeDiff,reduceSub,reduceAdd,D5,hF,hA,↓reduceIte,reduceEqDiff,reduceLT]; with_reducible rfl) ?_
  (repeat first|apply V.seq|apply V.block|apply V.scope|apply V.skip|apply V.close)
  refine V.line' (by simp +contextual (disch := first|omega|simp only [nx];omega) only [D4,reduceNegSucc,reduceEq,reduceLeDiff,reduceSub,reduceAdd,D5,hF,hA,↓reduceIte,reduceEqDiff,reduceLT, ne_eq, not_true_eq_false]; with_reducible rfl) ?_
  (repeat first|apply V.seq|apply V.block|apply V.scope|apply V.skip|apply V.close)
  refine V.condF (by simp only [D6,D5,hF,hA,↓reduceIte,reduceEqDiff,reduceLT]) ?_
  (repeat first|apply V.seq|apply V.block|apply V.scope|apply V.skip|apply V.close)
  refine V.line' (by simp +contextual (disch := first|omega|simp only [nx];omega) only [D4,reduceNegSucc,reduceEq,reduceLeDiff,reduceSub,reduceAdd,D5,hF,hA,↓reduceIte,reduceEqDiff,reduceLT]; with_reducible rfl) ?_
  (repeat first|apply V.seq|apply V.block|apply V.scope|apply V.skip|apply V.close)
  refine V.line' (by simp +contextual (disch := first|omega|simp only [nx];omega) only [D4,reduceNegSucc,reduceEq,reduceLeDiff,reduceSub,reduceAdd,D5,hF,hA,↓reduceIte,reduceEqDiff,reduceLT]; with_reducible rfl) ?_
  (repeat first|apply V.seq|apply V.block|apply V.scope|apply V.skip|apply V.close)
  refine V.re [(1, PT H.next), (3, s3), (4, I e), (6, .slice none 0 0), (7, I 0)] (N := 95) (by intro i; simp only [full_st, hF]) (by simp only [Kn, D5,hF,hA,↓reduceIte,reduceEqDiff,reduceLT, and_self, and_true, true_and]; try (repeat' constructor)) ?_
  clear hF hA
  intro t hF hA
  simp only [Kn, and_true] at hA
  refine V.loop (fun r t m X => ∃ (k : Nat) (s : Value), k ≤ b + 1 ∧ r = b + 1 - k ∧ m = [] ∧ Grow H4 X ∧ Ow H4 X 3 s ((likL a b c d k).map I) ∧ Full 95 t ∧ Kn [(1, PT H.next), (3, s3), (4, I e), (6, s), (7, I k)] t) (b + 1) ?_ ?_
  · exact ⟨0, _, by omega, by omega, rfl, .refl _, .inl ⟨rfl, rfl⟩, (by intro i; simp only [full_st, hF]), (by simp only [Kn, D5,hF,hA,↓reduceIte,reduceEqDiff,reduceLT, and_self, and_true, true_and]; try (repeat' constructor))⟩
  clear hF hA
  rintro r t m X ⟨k, s, hk, rfl, rfl, hg, os, hF, hA⟩
  simp only [Kn, and_true] at hA
  have bx := b4.grow hg
  (repeat first|apply V.seq|apply V.block|apply V.scope|apply V.skip|apply V.close)
  refine V.line' (by simp +contextual (disch := first|omega|simp only [nx];omega) only [D4,reduceNegSucc,reduceEq,reduceLeDiff,reduceSub,reduceAdd,D5,hF,hA,↓reduceIte,reduceEqDiff,reduceLT, bx.2]; with_reducible rfl) ?_
  (repeat first|apply V.seq|apply V.block|apply V.scope|apply V.skip|apply V.close)
  refine V.condP (by simp only [D6,D5,hF,hA,↓reduceIte,reduceEqDiff,reduceLT]; rfl) (fun hlt => ?_) (fun hlt => ?_)
  · have hkb : k ≤ b := by omega
    have cw' : ∀ v, v ≤ b → 0 < ch (a + v) c ∧ ch (a + v) c ≤ 1152921504606846976 ∧ part a v c d ≤ ch (a + v) c := fun v hv => ⟨ch_pos (by omega), ch_bound c (by omega), part_le k4⟩
    obtain ⟨w1, w2, w3⟩ := cw' k hkb
    have f30 : ∀ v, v ≤ b → ∀ Z, Gives Try.prog 30 [.agg ⟨A4 a b c d⟩, I (v : Nat), I d, I d] Z (.agg ⟨A2 (part a v c d : Nat) (ch (a + v) c : Nat)⟩) := fun v hv Z => by
      have := f30_ok (a := a) (b := b) (c := c) (d := d) (u := v) (f := d) (n := 1) (z := (d : Int)) (by omega) (by omega) (by omega) (by omega) (by omega) (by omega) Z
      rw [psum_1] at this
      exact this
    (repeat first|apply V.seq|apply V.block|apply V.scope|apply V.skip|apply V.close)
    refine V.run ?_
    refine VI.steps' 6 (by simp +contextual (disch := first|omega|simp only [nx];omega) only [D4,reduceNegSucc,reduceEq,reduceLeDiff,reduceSub,reduceAdd,D5,hF,hA,↓reduceIte,reduceEqDiff,reduceLT, bx.2]; with_reducible rfl) ?_
    simp only [ds]
    refine VI.callA rfl (f30 k hkb _) (by simp only [D6,D5,hF,hA,↓reduceIte,reduceEqDiff,reduceLT]; try rfl) (fun X1 gx1 => ?_)
    have hlk : lik a b c d k ↔ (0 < part a k c d ∧ ∀ v, v < b + 1 → ¬ part a k c d * ch (a + v) c < part a v c d * ch (a + k) c) := Iff.rfl
    generalize part a k c d = p at *
    generalize ch (a + k) c = w at *
    refine VI.line' (by simp +contextual (disch := first|omega|simp only [nx];omega) only [D4,reduceNegSucc,reduceEq,reduceLeDiff,reduceSub,reduceAdd,D5,hF,hA,↓reduceIte,reduceEqDiff,reduceLT]; with_reducible rfl) ?_
    refine V.heap (fun Y => Grow X1 Y ∧ Bx Y X1.next (A2 p w) 41) ⟨?_, ?_⟩ ?_
    · (repeat first | assumption | exact Grow.refl _ | refine Grow.alloc ?_ _ | refine Grow.set ?_ (by first|omega|simp only [nx];omega) _)
    · (repeat first | assumption | exact Bx.new _ _ _ | exact Bx.newAt (by first|omega|simp only [nx];omega) | refine Bx.put (by first|omega|simp only [nx];omega) _ _ | refine Bx.alloc ?_ _ | refine Bx.set ?_ (by first|omega|simp only [nx];omega) _)
    rintro X2 ⟨gx2, e8⟩
    have bx2 := (bx.grow gx1).grow gx2
    have os2 := os.keep (gx1.trans gx2)
    have hg2 := (hg.trans gx1).trans gx2
    (repeat first|apply V.seq|apply V.block|apply V.scope|apply V.skip|apply V.close)
    refine V.line' (by simp +contextual (disch := first|omega|simp only [nx];omega) only [D4,reduceNegSucc,reduceEq,reduceLeDiff,reduceSub,reduceAdd,D5,hF,hA,↓reduceIte,reduceEqDiff,reduceLT, e8.2]; with_reducible rfl) ?_
    (repeat first|apply V.seq|apply V.block|apply V.scope|apply V.skip|apply V.close)
    refine V.line' (by simp +contextual (disch := first|omega|simp only [nx];omega) only [D4,reduceNegSucc,reduceEq,reduceLeDiff,reduceSub,reduceAdd,D5,hF,hA,↓reduceIte,reduceEqDiff,reduceLT]; with_reducible rfl) ?_
    (repeat first|apply V.seq|apply V.block|apply V.scope|apply V.skip|apply V.close)
    obtain ⟨g, hgp, hge⟩ : ∃ g : Bool, (g = true ↔ 0 < p) ∧ decide ((0 : Int) < p) = g := ⟨_, by rw [decide_eq_true_eq]; omega, rfl⟩
    simp only [hge]
    refine V.re [(1, PT H.next), (3, s3), (4, I e), (6, s), (7, I k), (8, PT X1.next), (9, .bool g), (10, I 0)] (N := 95) (by intro i; simp only [full_st, hF]) (by simp only [Kn, D5,hF,hA,↓reduceIte,reduceEqDiff,reduceLT, and_self, and_true, true_and]; try (repeat' constructor)) ?_
    clear hF hA
    intro t hF hA
    simp only [Kn, and_true] at hA
    refine V.cut (fun e' t m Y => e' = .exit 2 ∧ m = [] ∧ ∃ g : Bool, (g = true ↔ lik a b c d k) ∧ Grow X2 Y ∧ Full 95 t ∧ Kn [(1, PT H.next), (3, s3), (4, I e), (6, s), (7, I k), (9, .bool g)] t) ?_ ?_
    · refine V.loop (fun r t m Y => ∃ (v : Nat) (g : Bool), v ≤ b + 1 ∧ r = b + 1 - v ∧ (g = true ↔ (0 < p ∧ ∀ u, u < v → ¬ p * ch (a + u) c < part a u c d * w)) ∧ m = [] ∧ Grow X2 Y ∧ Full 95 t ∧ Kn [(1, PT H.next), (3, s3), (4, I e), (6, s), (7, I k), (8, PT X1.next), (9, .bool g), (10, I v)] t) (b + 1) ?_ ?_
      · exact ⟨0, g, by omega, by omega, by rw [hgp]; exact ⟨fun h => ⟨h, fun u hu => absurd hu (by omega)⟩, fun h => h.1⟩, rfl, .refl _, (by intro i; simp only [full_st, hF]), (by simp only [Kn, D5,hF,hA,↓reduceIte,reduceEqDiff,reduceLT, and_self, and_true, true_and]; try (repeat' constructor))⟩
      clear hF hA
      rintro r t m Y ⟨v, g, hv', rfl, hgv, rfl, gY, hF, hA⟩
      simp only [Kn, and_true] at hA
      have bY := bx2.grow gY
      have eY := e8.grow gY
      (repeat first|apply V.seq|apply V.block|apply V.scope|apply V.skip|apply V.close)
      refine V.line' (by simp +contextual (disch := first|omega|simp only [nx];omega) only [D4,reduceNegSucc,reduceEq,reduceLeDiff,reduceSub,reduceAdd,D5,hF,hA,↓reduceIte,reduceEqDiff,reduceLT, bY.2]; with_reducible rfl) ?_
      (repeat first|apply V.seq|apply V.block|apply V.scope|apply V.skip|apply V.close)
      refine V.condP (by simp only [D6,D5,hF,hA,↓reduceIte,reduceEqDiff,reduceLT]; rfl) (fun hlv => ?_) (fun hlv => ?_)
      · have hvb : v ≤ b := by omega
        obtain ⟨y1, y2, y3⟩ := cw' v hvb
        have ev : (v : Int) + 1 = ((v + 1 : Nat) : Int) := rfl
        have hall : ∀ P : Nat → Prop, (∀ u, u < v + 1 → P u) ↔ ((∀ u, u < v → P u) ∧ P v) := by
          intro P
          refine ⟨fun h => ⟨fun u hu => h u (by omega), h v (by omega)⟩, fun h u hu => ?_⟩
          rcases Nat.lt_or_ge u v with h1 | h1
          · exact h.1 u h1
          · obtain rfl : u = v := by omega
            exact h.2
        have hall2 : (0 < p ∧ ∀ u, u < v + 1 → ¬ p * ch (a + u) c < part a u c d * w) ↔ (g = true ∧ ¬ p * ch (a + v) c < part a v c d * w) := by rw [hall, hgv, and_assoc]
        (repeat first|apply V.seq|apply V.block|apply V.scope|apply V.skip|apply V.close)
        cases g with
        | false =>
          refine V.lineD' (by simp +contextual (disch := first|omega|simp only [nx];omega) only [D4,reduceNegSucc,reduceEq,reduceLeDiff,reduceSub,reduceAdd,D5,hF,hA,↓reduceIte,reduceEqDiff,reduceLT]; with_reducible rfl) ?_ ?_ rfl ?_
          · simp only [monoG, List.cons_append, List.nil_append, Heap.next_set, Heap.next_alloc, Nat.le_refl, true_and, and_true] <;> omega
          · simp only [dcAll, dcOk, wantD, List.cons_append, List.nil_append, true_and, and_true]
            exact (by intro hw; simp only [D5,hF,hA,↓reduceIte,reduceEqDiff,reduceLT] at hw; first | done | exact absurd hw (by decide))
          (repeat first|apply V.seq|apply V.block|apply V.scope|apply V.skip|apply V.close)
          refine V.line' (by simp +contextual (disch := first|omega|simp only [nx];omega) only [D4,reduceNegSucc,reduceEq,reduceLeDiff,reduceSub,reduceAdd,D5,hF,hA,↓reduceIte,reduceEqDiff,reduceLT, ev]; with_reducible rfl) ?_
          refine V.nil (Or.inl ⟨rfl, b + 1 - (v + 1), by omega, ?_⟩)
          exact ⟨v + 1, false, by omega, rfl, by rw [hall2]; simp, rfl, gY, (by intro i; simp only [full_st, hF]), (by simp only [Kn, D5,hF,hA,↓reduceIte,reduceEqDiff,reduceLT, and_self, and_true, true_and]; try (repeat' constructor))⟩
        | true =>
          obtain ⟨z, hz, f32⟩ : ∃ z : Bool, (z = true ↔ p * ch (a + v) c < part a v c d * w) ∧ ∀ Z, Gives Try.prog 32 [.agg ⟨A2 p w⟩, .agg ⟨A2 (part a v c d : Nat) (ch (a + v) c : Nat)⟩] Z (.bool z) :=
            ⟨_, decide_eq_true_iff, fun Z => f32_ok w1 y1 (by omega) (by omega) (by omega) (by omega) Z⟩
          refine V.draw ?_
          refine VD.dins 9 (by simp +contextual (disch := first|omega|simp only [nx];omega) only [D4,reduceNegSucc,reduceEq,reduceLeDiff,reduceSub,reduceAdd,D5,hF,hA,↓reduceIte,reduceEqDiff,reduceLT, eY.2, bY.2]; with_reducible rfl) ?_
          simp only [ds]
          refine VD.callAT (by simp only [D5,hF,hA,↓reduceIte,reduceEqDiff,reduceLT]; try rfl) (by simp only [D6,D5,hF,hA,↓reduceIte,reduceEqDiff,reduceLT]; try rfl) (f30 v hvb _) (by simp only [D6,D5,hF,hA,↓reduceIte,reduceEqDiff,reduceLT]; try rfl) (fun Y1 gy1 => ?_)
          refine VD.callAT (by simp only [D5,hF,hA,↓reduceIte,reduceEqDiff,reduceLT]; try rfl) (by simp only [D6,D5,hF,hA,↓reduceIte,reduceEqDiff,reduceLT]; try rfl) (f32 _) (by simp only [D6,D5,hF,hA,↓reduceIte,reduceEqDiff,reduceLT]; try rfl) (fun Y2 gy2 => ?_)
          have eY1 := eY.grow gy1
          have eY2 := eY1.grow gy2
          cases z with
          | false =>
            refine VD.lineD' (by simp +contextual (disch := first|omega|simp only [nx];omega) only [D4,reduceNegSucc,reduceEq,reduceLeDiff,reduceSub,reduceAdd,D5,hF,hA,↓reduceIte,reduceEqDiff,reduceLT]; with_reducible rfl) ?_ ?_ rfl ?_
            · have := gy1.1
              have := gy2.1
              simp only [monoG, List.cons_append, List.nil_append, Heap.next_set, Heap.next_alloc, Nat.le_refl, true_and, and_true] <;> omega
            · simp only [dcAll, dcOk, wantD, List.cons_append, List.nil_append, true_and, and_true]
              exact fun _ q hq => by simp only [List.mem_cons, List.not_mem_nil, or_false] at hq; (repeat (rcases hq with rfl | hq; exact ⟨_, _, _, rfl, (by simp +contextual (disch := first|omega|simp only [nx];omega) only [D4,reduceNegSucc,reduceEq,reduceLeDiff,reduceSub,reduceAdd,D5,hF,hA,↓reduceIte,reduceEqDiff,reduceLT, eY.2, eY1.2, eY2.2]; with_reducible rfl), fun p hp => by cases hp; simp only [D5,hF,hA,↓reduceIte,reduceEqDiff,reduceLT]; first | exact vEq_An | simp [vEq, vEq0, all2]⟩)); (try (subst hq; exact ⟨_, _, _, rfl, (by simp +contextual (disch := first|omega|simp only [nx];omega) only [D4,reduceNegSucc,reduceEq,reduceLeDiff,reduceSub,reduceAdd,D5,hF,hA,↓reduceIte,reduceEqDiff,reduceLT, eY.2, eY1.2, eY2.2]; with_reducible rfl), fun p hp => by cases hp; simp only [D5,hF,hA,↓reduceIte,reduceEqDiff,reduceLT]; first | exact vEq_An | simp [vEq, vEq0, all2]⟩))
            (repeat first|apply V.seq|apply V.block|apply V.scope|apply V.skip|apply V.close)
            refine V.line' (by simp +contextual (disch := first|omega|simp only [nx];omega) only [D4,reduceNegSucc,reduceEq,reduceLeDiff,reduceSub,reduceAdd,D5,hF,hA,↓reduceIte,reduceEqDiff,reduceLT, ev]; with_reducible rfl) ?_
            refine V.nil (Or.inl ⟨rfl, b + 1 - (v + 1), by omega, ?_⟩)
            exact ⟨v + 1, true, by omega, rfl, by rw [hall2, ← hz]; simp, rfl, (gY.trans gy1).trans gy2, (by intro i; simp only [full_st, hF]), (by simp only [Kn, D5,hF,hA,↓reduceIte,reduceEqDiff,reduceLT, and_self, and_true, true_and]; try (repeat' constructor))⟩
          | true =>
            refine VD.lineD' (by simp +contextual (disch := first|omega|simp only [nx];omega) only [D4,reduceNegSucc,reduceEq,reduceLeDiff,reduceSub,reduceAdd,D5,hF,hA,↓reduceIte,reduceEqDiff,reduceLT]; with_reducible rfl) ?_ ?_ rfl ?_
            · have := gy1.1
              have := gy2.1
              simp only [monoG, List.cons_append, List.nil_append, Heap.next_set, Heap.next_alloc, Nat.le_refl, true_and, and_true] <;> omega
            · simp only [dcAll, dcOk, wantD, List.cons_append, List.nil_append, true_and, and_true]
              exact fun _ q hq => by simp only [List.mem_cons, List.not_mem_nil, or_false] at hq; (repeat (rcases hq with rfl | hq; exact ⟨_, _, _, rfl, (by simp +contextual (disch := first|omega|simp only [nx];omega) only [D4,reduceNegSucc,reduceEq,reduceLeDiff,reduceSub,reduceAdd,D5,hF,hA,↓reduceIte,reduceEqDiff,reduceLT, eY.2, eY1.2, eY2.2]; with_reducible rfl), fun p hp => by cases hp; simp only [D5,hF,hA,↓reduceIte,reduceEqDiff,reduceLT]; first | exact vEq_An | simp [vEq, vEq0, all2]⟩)); (try (subst hq; exact ⟨_, _, _, rfl, (by simp +contextual (disch := first|omega|simp only [nx];omega) only [D4,reduceNegSucc,reduceEq,reduceLeDiff,reduceSub,reduceAdd,D5,hF,hA,↓reduceIte,reduceEqDiff,reduceLT, eY.2, eY1.2, eY2.2]; with_reducible rfl), fun p hp => by cases hp; simp only [D5,hF,hA,↓reduceIte,reduceEqDiff,reduceLT]; first | exact vEq_An | simp [vEq, vEq0, all2]⟩))
            (repeat first|apply V.seq|apply V.block|apply V.scope|apply V.skip|apply V.close)
            refine V.line' (by simp +contextual (disch := first|omega|simp only [nx];omega) only [D4,reduceNegSucc,reduceEq,reduceLeDiff,reduceSub,reduceAdd,D5,hF,hA,↓reduceIte,reduceEqDiff,reduceLT, ev]; with_reducible rfl) ?_
            refine V.nil (Or.inl ⟨rfl, b + 1 - (v + 1), by omega, ?_⟩)
            exact ⟨v + 1, false, by omega, rfl, by rw [hall2, ← hz]; simp, rfl, (gY.trans gy1).trans gy2, (by intro i; simp only [full_st, hF]), (by simp only [Kn, D5,hF,hA,↓reduceIte,reduceEqDiff,reduceLT, and_self, and_true, true_and]; try (repeat' constructor))⟩
      · obtain rfl : v = b + 1 := by omega
        refine V.exit ?_
        (repeat first | refine V.pass ?_ | refine V.here ?_ | refine V.out (by decide) ?_)
        refine V.nil (Or.inr ⟨by simp, ?_⟩)
        (repeat first | refine V.pass ?_ | refine V.here ?_ | refine V.out (by decide) ?_)
        refine V.nil ⟨rfl, rfl, g, hgv.trans hlk.symm, gY, (by intro i; simp only [full_st, hF]), (by simp only [Kn, D5,hF,hA,↓reduceIte,reduceEqDiff,reduceLT, and_self, and_true, true_and]; try (repeat' constructor))⟩
    clear hF hA
    rintro _ t _ Y ⟨rfl, rfl, g, hgl, gY, hF, hA⟩
    simp only [Kn, and_true] at hA
    have ek : (k : Int) + 1 = ((k + 1 : Nat) : Int) := rfl
    have oY := os2.keep gY
    have hgY := hg2.trans gY
    have hln := likL_len a b c d k
    (repeat first | refine V.pass ?_ | refine V.here ?_ | refine V.out (by decide) ?_)
    (repeat first|apply V.seq|apply V.block|apply V.scope|apply V.skip|apply V.close)
    refine V.line' (by simp +contextual (disch := first|omega|simp only [nx];omega) only [D4,reduceNegSucc,reduceEq,reduceLeDiff,reduceSub,reduceAdd,D5,hF,hA,↓reduceIte,reduceEqDiff,reduceLT]; with_reducible rfl) ?_
    (repeat first|apply V.seq|apply V.block|apply V.scope|apply V.skip|apply V.close)
    cases g with
    | false =>
      refine V.condF (by simp only [D6,D5,hF,hA,↓reduceIte,reduceEqDiff,reduceLT]) ?_
      (repeat first|apply V.seq|apply V.block|apply V.scope|apply V.skip|apply V.close)
      refine V.line' (by simp +contextual (disch := first|omega|simp only [nx];omega) only [D4,reduceNegSucc,reduceEq,reduceLeDiff,reduceSub,reduceAdd,D5,hF,hA,↓reduceIte,reduceEqDiff,reduceLT, ek]; with_reducible rfl) ?_
      refine V.nil (Or.inl ⟨rfl, b + 1 - (k + 1), by omega, ?_⟩)
      refine ⟨k + 1, s, by omega, rfl, rfl, hgY, ?_, (by intro i; simp only [full_st, hF]), (by simp only [Kn, D5,hF,hA,↓reduceIte,reduceEqDiff,reduceLT, and_self, and_true, true_and]; try (repeat' constructor))⟩
      rw [likL_s, if_neg (fun h => by have := hgl.2 h; cases this)]
      exact oY
    | true =>
      refine V.condT (by simp only [D6,D5,hF,hA,↓reduceIte,reduceEqDiff,reduceLT]) ?_
      have gc := hgY
      obtain ⟨wv, Y1, a1, a2, a3, a4, a5, a6, a7, a8⟩ := oY.push (bytes := 8) (r := [I (k : Int)]) gc rfl (by simp) (by simp only [List.length_map, List.length_cons, List.length_nil]; omega) (by simp only [List.length_map, List.length_cons, List.length_nil]; omega)
      have a1 : yappend 3 1 8 (Y.alloc (.cells ⟨[I (k : Int)]⟩ 3 true)) s (.slice (some ⟨Y.next, 0, none⟩) 1 1) = some (wv, Y1) := a1
      obtain ⟨wp, wn, wc, rfl⟩ := a2.slice
      (repeat first|apply V.seq|apply V.block|apply V.scope|apply V.skip|apply V.close)
      refine V.line' (by simp +contextual (disch := first|omega|simp only [nx];omega) only [D4,reduceNegSucc,reduceEq,reduceLeDiff,reduceSub,reduceAdd,D5,hF,hA,↓reduceIte,reduceEqDiff,reduceLT, a1]; with_reducible rfl) ?_
      (repeat first|apply V.seq|apply V.block|apply V.scope|apply V.skip|apply V.close)
      refine V.line' (by simp +contextual (disch := first|omega|simp only [nx];omega) only [D4,reduceNegSucc,reduceEq,reduceLeDiff,reduceSub,reduceAdd,D5,hF,hA,↓reduceIte,reduceEqDiff,reduceLT, ek]; with_reducible rfl) ?_
      refine V.nil (Or.inl ⟨rfl, b + 1 - (k + 1), by omega, ?_⟩)
      refine ⟨k + 1, _, by omega, rfl, rfl, a3, ?_, (by intro i; simp only [full_st, hF]), (by simp only [Kn, D5,hF,hA,↓reduceIte,reduceEqDiff,reduceLT, and_self, and_true, true_and]; try (repeat' constructor))⟩
      rw [likL_s, if_pos (hgl.1 rfl)]
      simpa using a2
  · obtain rfl : k = b + 1 := by omega
    have hle : ylen 0 X s = some (I (likL a b c d (b + 1)).length) := by rw [os.length, List.length_map]
    have hlb := likL_len a b c d (b + 1)
    refine V.exit ?_
    (repeat first | refine V.pass ?_ | refine V.here ?_ | refine V.out (by decide) ?_)
    refine V.nil (Or.inr ⟨by simp, ?_⟩)
    (repeat first | refine V.pass ?_ | refine V.here ?_ | refine V.out (by decide) ?_)
    (repeat first|apply V.seq|apply V.block|apply V.scope|apply V.skip|apply V.close)
    refine V.line' (by simp +contextual (disch := first|omega|simp only [nx];omega) only [D4,reduceNegSucc,reduceEq,reduceLeDiff,reduceSub,reduceAdd,D5,hF,hA,↓reduceIte,reduceEqDiff,reduceLT, hle]; with_reducible rfl) ?_
    (repeat first|apply V.seq|apply V.block|apply V.scope|apply V.skip|apply V.close)
    rcases hse with ⟨h1, rfl, rfl⟩ | ⟨h1, rfl, h3⟩
    · refine V.condP (by simp only [D6,D5,hF,hA,↓reduceIte,reduceEqDiff,reduceLT]; rfl) (fun h => ?_) (fun h => ?_)
      rotate_left
      · exact absurd (by rw [h1]; rfl) h
      (repeat first|apply V.seq|apply V.block|apply V.scope|apply V.skip|apply V.close)
      refine V.run ?_
      refine VI.steps' 8 (by simp +contextual (disch := first|omega|simp only [nx];omega) only [D4,reduceNegSucc,reduceEq,reduceLeDiff,reduceSub,reduceAdd,D5,hF,hA,↓reduceIte,reduceEqDiff,reduceLT, hl0]; with_reducible rfl) ?_
      simp only [ds]
      refine VI.callAT (by simp only [D5,hF,hA,↓reduceIte,reduceEqDiff,reduceLT]; try rfl) rfl (f24_ok _) (by simp only [D6,D5,hF,hA,↓reduceIte,reduceEqDiff,reduceLT]; try rfl) (fun Z1 gz1 => ?_)
      refine VI.line' (by simp +contextual (disch := first|omega|simp only [nx];omega) only [D4,reduceNegSucc,reduceEq,reduceLeDiff,reduceSub,reduceAdd,D5,hF,hA,↓reduceIte,reduceEqDiff,reduceLT]; with_reducible rfl) ?_
      (repeat first|apply V.seq|apply V.block|apply V.scope|apply V.skip|apply V.close)
      refine V.ret (V.rets rfl (Lv.retF (by simp +contextual (disch := first|omega|simp only [nx];omega) only [D1, cells_alloc_at, cells_alloc_ne, cells_set_at, cells_set_ne, yres, yres1, yresL, reduceLeDiff, reduceSub, reduceAdd, D5,hF,hA,↓reduceIte,reduceEqDiff,reduceLT]; rfl) ?_))
      rfl
    · refine V.condP (by simp only [D6,D5,hF,hA,↓reduceIte,reduceEqDiff,reduceLT]; rfl) (fun h => ?_) (fun h => ?_)
      · exact absurd (List.eq_nil_of_length_eq_zero (by omega)) h1
      (repeat first|apply V.seq|apply V.block|apply V.scope|apply V.skip|apply V.close)
      have h3' := h3.grow (g4.trans hg)
      refine V.run ?_
      refine VI.steps' 5 (by simp +contextual (disch := first|omega|simp only [nx];omega) only [D4,reduceNegSucc,reduceEq,reduceLeDiff,reduceSub,reduceAdd,D5,hF,hA,↓reduceIte,reduceEqDiff,reduceLT]; with_reducible rfl) ?_
      simp only [ds]
      have f33 := f33_ok h3' os.sl (by omega)
      rw [decide_eq_true rfl] at f33
      refine VI.callAT (by simp only [D5,hF,hA,↓reduceIte,reduceEqDiff,reduceLT]; try rfl) rfl (f33) (by simp only [D6,D5,hF,hA,↓reduceIte,reduceEqDiff,reduceLT]; try rfl) (fun Z1 gz1 => ?_)
      refine VI.steps' 2 (by simp +contextual (disch := first|omega|simp only [nx];omega) only [D4,reduceNegSucc,reduceEq,reduceLeDiff,reduceSub,reduceAdd,D5,hF,hA,↓reduceIte,reduceEqDiff,reduceLT]; with_reducible rfl) ?_
      simp only [ds]
      refine VI.callAT (by simp only [D5,hF,hA,↓reduceIte,reduceEqDiff,reduceLT]; try rfl) rfl (f24_ok _) (by simp only [D6,D5,hF,hA,↓reduceIte,reduceEqDiff,reduceLT]; try rfl) (fun Z2 gz2 => ?_)
      refine VI.line' (by simp +contextual (disch := first|omega|simp only [nx];omega) only [D4,reduceNegSucc,reduceEq,reduceLeDiff,reduceSub,reduceAdd,D5,hF,hA,↓reduceIte,reduceEqDiff,reduceLT]; with_reducible rfl) ?_
      (repeat first|apply V.seq|apply V.block|apply V.scope|apply V.skip|apply V.close)
      refine V.ret (V.rets rfl (Lv.retF (by simp +contextual (disch := first|omega|simp only [nx];omega) only [D1, cells_alloc_at, cells_alloc_ne, cells_set_at, cells_set_ne, yres, yres1, yresL, reduceLeDiff, reduceSub, reduceAdd, D5,hF,hA,↓reduceIte,reduceEqDiff,reduceLT]; rfl) ?_))
      rfl
end Go.Xe.TMX
