/- What the functions of the layer miss come to: chances. Conditions: none. -/
import Derived.Test.YtefoodhfkkcmcabTMQ
-- MOD TM
namespace Go.Xe.TMX
open Go Go.Xe Go.Proofs Go.Xe.Mth
open Nat (reduceLeDiff reduceSub reduceAdd reduceEqDiff reduceLT)
open Int (reduceNegSucc reduceEq)
set_option maxRecDepth 100000
set_option maxHeartbeats 3200000
set_option linter.unusedSimpArgs false
noncomputable def d79 : FCode := (.seq (.run (.go (.box 92 (.tmp (pth 0))) (pth 1)::
.go (.alloc 53 [(.int .i64 (.ofNat 0)),(.int .i64 (.ofNat 0))]) (pth 2)::
[])) (.seq (.run (.go (.fieldAddr 0 (.tmp (pth 1))) (pth 3)::
.go (.fieldAddr 1 (.tmp (pth 3))) (pth 4)::
.go (.load1 (.tmp (pth 4))) (pth 5)::
.go (.build [(.int .i64 (.ofNat 0)),(.int .i64 (.ofNat 0))] [(0,1,(.con (.int .i64 (.ofNat 0)))),(1,1,(.tmp (pth 5)))]) (pth 6)::
.un (.store 2 (.tmp (pth 2)) (.tmp (pth 6)))::
[])) .ret))
theorem de79 : @compF Try.prog (Gl.none Try.prog) Try.f79 1 = .mk d79 (mkTT 7) [(pth 0)] [.many (pth 2) 2] := by kernel_rfl
theorem dg79 : Try.prog.funcs[79]? = some Try.f79 := Try.func79
theorem do79 : okF Try.prog Try.f79 = true := by kernel_rfl
noncomputable def d56 : FCode := (.seq (.run (.go (.box 28 (.tmp (pth 0))) (pth 2)::
.go (.alloc 92 [(.int .i64 (.ofNat 0)),(.int .i64 (.ofNat 0)),(.int .i64 (.ofNat 0)),(.int .i64 (.ofNat 0)),.nilFunc]) (pth 4)::
.go (.move (.con (.int .i64 (.ofNat 0)))) (pth 5)::
[])) (.seq (.seq (.run (.go (.loadN 4 (.tmp (pth 2))) (pth 8)::
.go (.call (.con (.func (.func 20) ⟨[]⟩ ⟨[]⟩)) [(.tmp (pth 8))]) (pth 9)::
.go (.move (.tmp (pth 9))) (pth 6)::
[])) (.seq (.run (.go (.move (.tmp (pth 6))) (pth 10)::
.go (.bin .neq 24 (.tmp (pth 10)) (.con (.int .i64 (.ofNat 0)))) (pth 11)::
[])) (.cond (.tmp (pth 11)) (.seq (.run (.go (.build [(.int .i64 (.ofNat 0)),(.int .i64 (.ofNat 0)),(.int .i64 (.ofNat 0)),(.int .i64 (.ofNat 0)),.nilFunc] []) (pth 12)::
.go (.move (.tmp (pth 6))) (pth 13)::
.un (.store 5 (.tmp (pth 4)) (.tmp (pth 12)))::
.go (.move (.tmp (pth 13))) (pth 5)::
[])) .ret) .skip))) (.seq (.draw 5 (.go (.loadN 4 (.tmp (pth 2))) (pth 14)::
.go (.call (.con (.func (.func 53) ⟨[]⟩ ⟨[]⟩)) []) (pth 15)::
.go (.build [(.int .i64 (.ofNat 0)),(.int .i64 (.ofNat 0)),(.int .i64 (.ofNat 0)),(.int .i64 (.ofNat 0)),.nilFunc] [(0,4,(.tmp (pth 14))),(4,1,(.tmp (pth 15)))]) (pth 16)::
.go (.alloc 92 [(.int .i64 (.ofNat 0)),(.int .i64 (.ofNat 0)),(.int .i64 (.ofNat 0)),(.int .i64 (.ofNat 0)),.nilFunc]) (pth 7)::
.un (.store 5 (.tmp (pth 7)) (.tmp (pth 16)))::
[]) [.rd none (.loadN 4 (.tmp (pth 2))) (some (pth 14)) [2],.ok,.ok,.nw none (some (pth 7)) 3 true,.ok]) (.seq (.seq (.run (.go (.loadN 5 (.tmp (pth 7))) (pth 17)::
.go (.call (.con (.func (.func 79) ⟨[]⟩ ⟨[]⟩)) [(.tmp (pth 17))]) (pth 18)::
.go (.move (.tmp (pth 1))) (pth 19)::
.go (.call (.con (.func (.func 52) ⟨[]⟩ ⟨[]⟩)) [(.tmp (pth 18)),(.tmp (pth 19))]) (pth 20)::
.go (.un .not (.tmp (pth 20))) (pth 21)::
[])) (.cond (.tmp (pth 21)) (.seq (.run (.go (.build [(.int .i64 (.ofNat 0)),(.int .i64 (.ofNat 0)),(.int .i64 (.ofNat 0)),(.int .i64 (.ofNat 0)),.nilFunc] []) (pth 22)::
.un (.store 5 (.tmp (pth 4)) (.tmp (pth 22)))::
.go (.move (.con (.int .i64 (.ofNat 2)))) (pth 5)::
[])) .ret) .skip)) (.seq (.run (.go (.loadN 5 (.tmp (pth 7))) (pth 23)::
.un (.store 5 (.tmp (pth 4)) (.tmp (pth 23)))::
.go (.move (.con (.int .i64 (.ofNat 0)))) (pth 5)::
[])) .ret)))))
theorem de56 : @compF Try.prog (Gl.none Try.prog) Try.f56 2 = .mk d56 (mkTT 24) [(pth 0),(pth 1)] [.many (pth 4) 5,.tmp (pth 5)] := by kernel_rfl
theorem dg56 : Try.prog.funcs[56]? = some Try.f56 := Try.func56
theorem do56 : okF Try.prog Try.f56 = true := by kernel_rfl
noncomputable def d81 : FCode := (.seq (.run (.go (.move (.con (.int .i64 (.ofNat 0)))) (pth 2)::
[])) (.seq (.draw 17 (.go (.move (.tmp (pth 0))) (pth 3)::
.go (.nilCheck (.tmp (pth 3))) (pth 4)::
.go (.fieldAddr 4 (.tmp (pth 4))) (pth 5)::
.go (.move (.tmp (pth 0))) (pth 6)::
.go (.nilCheck (.tmp (pth 6))) (pth 7)::
.go (.fieldAddr 0 (.tmp (pth 7))) (pth 8)::
.go (.fieldAddr 3 (.tmp (pth 8))) (pth 9)::
.go (.load1 (.tmp (pth 9))) (pth 10)::
.go (.move (.tmp (pth 0))) (pth 11)::
.go (.nilCheck (.tmp (pth 11))) (pth 12)::
.go (.fieldAddr 0 (.tmp (pth 12))) (pth 13)::
.go (.fieldAddr 2 (.tmp (pth 13))) (pth 14)::
.go (.load1 (.tmp (pth 14))) (pth 15)::
.go (.bin .add 3 (.tmp (pth 15)) (.con (.int .i64 (.ofNat 1)))) (pth 16)::
.go (.sliceSlow 125 (.tmp (pth 5)) (some (.tmp (pth 10))) (some (.tmp (pth 16)))) (pth 17)::
.go (.call (.con (.func (.func 86) ⟨[]⟩ ⟨[]⟩)) [(.tmp (pth 17))]) (pth 18)::
.go (.move (.tmp (pth 18))) (pth 2)::
[]) [.ok,.ok,.ok,.ok,.ok,.ok,.ok,.ok,.ok,.ok,.ok,.ok,.ok,.ok,.ok,.ok,.ok]) .ret))
theorem de81 : @compF Try.prog (Gl.none Try.prog) Try.f81 1 = .mk d81 (mkTT 19) [(pth 0)] [.tmp (pth 2)] := by kernel_rfl
theorem dg81 : Try.prog.funcs[81]? = some Try.f81 := Try.func81
theorem do81 : okF Try.prog Try.f81 = true := by kernel_rfl
noncomputable def d82 : FCode := (.seq (.run (.go (.move (.con (.int .i64 (.ofNat 0)))) (pth 2)::
[])) (.seq (.draw 12 (.go (.move (.tmp (pth 0))) (pth 3)::
.go (.nilCheck (.tmp (pth 3))) (pth 4)::
.go (.fieldAddr 4 (.tmp (pth 4))) (pth 5)::
.go (.move (.tmp (pth 0))) (pth 6)::
.go (.nilCheck (.tmp (pth 6))) (pth 7)::
.go (.fieldAddr 0 (.tmp (pth 7))) (pth 8)::
.go (.fieldAddr 3 (.tmp (pth 8))) (pth 9)::
.go (.load1 (.tmp (pth 9))) (pth 10)::
.go (.bin .add 3 (.tmp (pth 10)) (.con (.int .i64 (.ofNat 1)))) (pth 11)::
.go (.sliceSlow 125 (.tmp (pth 5)) none (some (.tmp (pth 11)))) (pth 12)::
.go (.call (.con (.func (.func 86) ⟨[]⟩ ⟨[]⟩)) [(.tmp (pth 12))]) (pth 13)::
.go (.move (.tmp (pth 13))) (pth 2)::
[]) [.ok,.ok,.ok,.ok,.ok,.ok,.ok,.ok,.ok,.ok,.ok,.ok]) .ret))
theorem de82 : @compF Try.prog (Gl.none Try.prog) Try.f82 1 = .mk d82 (mkTT 14) [(pth 0)] [.tmp (pth 2)] := by kernel_rfl
theorem dg82 : Try.prog.funcs[82]? = some Try.f82 := Try.func82
theorem do82 : okF Try.prog Try.f82 = true := by kernel_rfl
noncomputable def d58 : FCode := (.seq (.run (.go (.alloc 98 [.nilFunc]) (pth 0)::
[])) (.seq (.run (.go (.build [.nilFunc] [(0,1,(.con (.func (.func 81) ⟨[]⟩ ⟨[]⟩)))]) (pth 1)::
.un (.store 1 (.tmp (pth 0)) (.tmp (pth 1)))::
[])) .ret))
theorem de58 : @compF Try.prog (Gl.none Try.prog) Try.f58 0 = .mk d58 (mkTT 2) [] [.many (pth 0) 1] := by kernel_rfl
theorem dg58 : Try.prog.funcs[58]? = some Try.f58 := Try.func58
theorem do58 : okF Try.prog Try.f58 = true := by kernel_rfl
noncomputable def d59 : FCode := (.seq (.run (.go (.alloc 98 [.nilFunc]) (pth 0)::
[])) (.seq (.run (.go (.build [.nilFunc] [(0,1,(.con (.func (.func 82) ⟨[]⟩ ⟨[]⟩)))]) (pth 1)::
.un (.store 1 (.tmp (pth 0)) (.tmp (pth 1)))::
[])) .ret))
theorem de59 : @compF Try.prog (Gl.none Try.prog) Try.f59 0 = .mk d59 (mkTT 2) [] [.many (pth 0) 1] := by kernel_rfl
theorem dg59 : Try.prog.funcs[59]? = some Try.f59 := Try.func59
theorem do59 : okF Try.prog Try.f59 = true := by kernel_rfl
noncomputable def d60 : FCode := (.seq (.run (.go (.box 98 (.tmp (pth 0))) (pth 2)::
.go (.alloc 36 [(.int .i64 (.ofNat 0)),(.int .i64 (.ofNat 0))]) (pth 4)::
[])) (.seq (.draw 10 (.go (.fieldAddr 0 (.tmp (pth 2))) (pth 5)::
.go (.load1 (.tmp (pth 5))) (pth 6)::
.go (.move (.tmp (pth 1))) (pth 7)::
.go (.call (.tmp (pth 6)) [(.tmp (pth 7))]) (pth 8)::
.go (.move (.tmp (pth 1))) (pth 9)::
.go (.nilCheck (.tmp (pth 9))) (pth 10)::
.go (.fieldAddr 55 (.tmp (pth 10))) (pth 11)::
.go (.load1 (.tmp (pth 11))) (pth 12)::
.go (.call (.con (.func (.func 80) ⟨[]⟩ ⟨[]⟩)) [(.tmp (pth 8)),(.tmp (pth 12))]) (pth 13)::
.un (.store 2 (.tmp (pth 4)) (.tmp (pth 13)))::
[]) [.ok,.ok,.ok,.ok,.ok,.ok,.ok,.rd none (.load1 (.tmp (pth 11))) (some (pth 12)) [0],.ok,.ok]) .ret))
theorem de60 : @compF Try.prog (Gl.none Try.prog) Try.f60 2 = .mk d60 (mkTT 14) [(pth 0),(pth 1)] [.many (pth 4) 2] := by kernel_rfl
theorem dg60 : Try.prog.funcs[60]? = some Try.f60 := Try.func60
theorem do60 : okF Try.prog Try.f60 = true := by kernel_rfl
theorem sm_shift (p : Nat → Nat) (f : Nat) : ∀ n, sm p (f + n) = sm p f + sm (fun k => p (f + k)) n
  | 0 => rfl
  | n + 1 => by
    rw [show f + (n + 1) = f + n + 1 by omega, sm_s, sm_shift p f n, sm_s]; omega
def psum (a u c f n : Nat) : Nat := sm (fun k => part a u c (f + k)) n
theorem psum_le {a u c f n : Nat} (h : f + n ≤ c + 1) : psum a u c f n ≤ ch (a + u) c := by
  have h1 : sm (fun f => ch a f * ch u (c - f)) (f + n) = sm (fun f => ch a f * ch u (c - f)) f + psum a u c f n := sm_shift (fun f => ch a f * ch u (c - f)) f n
  have h2 := vander a u c
  have h3 := sm_le (p := fun f => ch a f * ch u (c - f)) h
  rw [h2] at h3
  omega
theorem psum_s (a u c f n : Nat) : psum a u c f (n + 1) = psum a u c f n + part a u c (f + n) := rfl
theorem f79_ok (a b c d : Int) (w : Value) (H : Heap) : Gives Try.prog 79 [.agg ⟨[I a, I b, I c, I d, w]⟩] H (.agg ⟨A2 0 b⟩) := by
  refine F.entryL rfl dg79 do79 de79 rfl (by kernel_rfl) ?_
  simp only [sets]
  refine V.re [(0, .agg ⟨[I a, I b, I c, I d, w]⟩)] (N := 7) (by intro i; simp only [full_st, Full.mk]) (by simp only [Kn, gt_st, full_st, Full.mk, ↓reduceIte, reduceEqDiff, reduceLT, decide_true, and_self]) ?_
  intro t hF hA
  simp only [Kn, and_true] at hA
  (repeat first|apply V.seq|apply V.block|apply V.scope|apply V.skip|apply V.close)
  refine V.line' (by simp +contextual (disch := first|omega|simp only [nx];omega) only [D4,reduceNegSucc,reduceEq,reduceLeDiff,reduceSub,reduceAdd,D5,hF,hA,↓reduceIte,reduceEqDiff,reduceLT]; with_reducible rfl) ?_
  (repeat first|apply V.seq|apply V.block|apply V.scope|apply V.skip|apply V.close)
  refine V.line' (by simp +contextual (disch := first|omega|simp only [nx];omega) only [D4,reduceNegSucc,reduceEq,reduceLeDiff,reduceSub,reduceAdd,D5,hF,hA,↓reduceIte,reduceEqDiff,reduceLT]; with_reducible rfl) ?_
  (repeat first|apply V.seq|apply V.block|apply V.scope|apply V.skip|apply V.close)
  refine V.ret (V.rets rfl (Lv.retG (by simp +contextual (disch := first|omega|simp only [nx];omega) only [D1, cells_alloc_at, cells_alloc_ne, cells_set_at, cells_set_ne, yres, yres1, yresL, reduceLeDiff, reduceSub, reduceAdd, D5,hF,hA,↓reduceIte,reduceEqDiff,reduceLT]; rfl) ?_ ?_))
  · (repeat first | assumption | exact Grow.refl _ | refine Grow.alloc ?_ _ | refine Grow.set ?_ (by first|omega|simp only [nx];omega) _)
  · rfl
def rd (a b c d u : Int) : Int := if ¬ ar a b c d then 1 else if ¬ (0 ≤ u ∧ u ≤ b) then 2 else 0
theorem rd_ok {a b c d u : Int} (h : rd a b c d u = 0) : ar a b c d ∧ 0 ≤ u ∧ u ≤ b := by
  unfold rd at h
  split at h
  · omega
  · rename_i h1
    split at h
    · omega
    · rename_i h2; exact ⟨Decidable.not_not.1 h1, Decidable.not_not.1 h2⟩
theorem f56_ok (a b c d u : Int) (H : Heap) : F Try.prog 56 ⟨[.agg ⟨A4 a b c d⟩, I u]⟩ H (fun v H' => Grow H H' ∧ ((rd a b c d u ≠ 0 ∧ v = .tuple ⟨[.agg ⟨[I 0, I 0, I 0, I 0, .nilFunc]⟩, I (rd a b c d u)]⟩) ∨
    (rd a b c d u = 0 ∧ ∃ i j x, v = .tuple ⟨[.agg ⟨[I a, I b, I c, I d, cw i j]⟩, I 0]⟩ ∧ H.next ≤ i ∧ H.next ≤ j ∧ H.next ≤ x ∧ Wy H' i j x))) := by
  refine F.entryL rfl dg56 do56 de56 rfl (by kernel_rfl) ?_
  simp only [sets]
  refine V.re [(0, .agg ⟨A4 a b c d⟩), (1, I u)] (N := 24) (by intro i; simp only [full_st, Full.mk]) (by simp only [Kn, gt_st, full_st, Full.mk, ↓reduceIte, reduceEqDiff, reduceLT, decide_true, and_self]) ?_
  intro t hF hA
  simp only [Kn, and_true] at hA
  (repeat first|apply V.seq|apply V.block|apply V.scope|apply V.skip|apply V.close)
  refine V.line' (by simp +contextual (disch := first|omega|simp only [nx];omega) only [D4,reduceNegSucc,reduceEq,reduceLeDiff,reduceSub,reduceAdd,D5,hF,hA,↓reduceIte,reduceEqDiff,reduceLT]; with_reducible rfl) ?_
  refine V.heap (fun X => Grow H X ∧ Bx X H.next (A4 a b c d) 28 ∧ Bx X (H.next + 1) [I 0, I 0, I 0, I 0, .nilFunc] 92) ⟨?_, ?_, ?_⟩ ?_
  · (repeat first | assumption | exact Grow.refl _ | refine Grow.alloc ?_ _ | refine Grow.set ?_ (by first|omega|simp only [nx];omega) _)
  · (repeat first | assumption | exact Bx.new _ _ _ | exact Bx.newAt (by first|omega|simp only [nx];omega) | refine Bx.put (by first|omega|simp only [nx];omega) _ _ | refine Bx.alloc ?_ _ | refine Bx.set ?_ (by first|omega|simp only [nx];omega) _)
  · (repeat first | assumption | exact Bx.new _ _ _ | exact Bx.newAt (by first|omega|simp only [nx];omega) | refine Bx.put (by first|omega|simp only [nx];omega) _ _ | refine Bx.alloc ?_ _ | refine Bx.set ?_ (by first|omega|simp only [nx];omega) _)
  rintro H1 ⟨g1, b1, c1⟩
  (repeat first|apply V.seq|apply V.block|apply V.scope|apply V.skip|apply V.close)
  refine V.run ?_
  refine VI.steps' 1 (by simp +contextual (disch := first|omega|simp only [nx];omega) only [D4,reduceNegSucc,reduceEq,reduceLeDiff,reduceSub,reduceAdd,D5,hF,hA,↓reduceIte,reduceEqDiff,reduceLT, b1.2]; with_reducible rfl) ?_
  simp only [ds]
  refine VI.callA rfl (f20_ok a b c d _) (by simp only [D6,D5,hF,hA,↓reduceIte,reduceEqDiff,reduceLT]; try rfl) (fun H2 g2 => ?_)
  have b2 := b1.grow g2
  have c2 := c1.grow g2
  have g2 := g1.trans g2
  have hc2 := c2.1
  refine VI.line' (by simp +contextual (disch := first|omega|simp only [nx];omega) only [D4,reduceNegSucc,reduceEq,reduceLeDiff,reduceSub,reduceAdd,D5,hF,hA,↓reduceIte,reduceEqDiff,reduceLT]; with_reducible rfl) ?_
  (repeat first|apply V.seq|apply V.block|apply V.scope|apply V.skip|apply V.close)
  by_cases hv : ar a b c d
  · rw [if_pos hv]
    refine V.line' (by simp +contextual (disch := first|omega|simp only [nx];omega) only [D4,reduceNegSucc,reduceEq,reduceLeDiff,reduceSub,reduceAdd,D5,hF,hA,↓reduceIte,reduceEqDiff,reduceLT, ne_eq, not_true_eq_false]; with_reducible rfl) ?_
    (repeat first|apply V.seq|apply V.block|apply V.scope|apply V.skip|apply V.close)
    refine V.condF (by simp only [D6,D5,hF,hA,↓reduceIte,reduceEqDiff,reduceLT]) ?_
    (repeat first|apply V.seq|apply V.block|apply V.scope|apply V.skip|apply V.close)
    refine V.draw ?_
    refine VD.dins 1 (by simp +contextual (disch := first|omega|simp only [nx];omega) only [D4,reduceNegSucc,reduceEq,reduceLeDiff,reduceSub,reduceAdd,D5,hF,hA,↓reduceIte,reduceEqDiff,reduceLT, b2.2]; with_reducible rfl) ?_
    simp only [ds]
    refine VD.callR (by simp only [D6,D5,hF,hA,↓reduceIte,reduceEqDiff,reduceLT]; try rfl) (f53_ok _) (by simp only [D6,D5,hF,hA,↓reduceIte,reduceEqDiff,reduceLT]; try rfl) (fun v3 H3 ⟨i, j, x, q3, hi, hj, hx, g3, w3⟩ => ?_)
    subst q3
    have n3 := g3.1
    have b3 := b2.grow g3
    have c3 := c2.grow g3
    have g23 := g2.trans g3
    refine VD.lineD' (by simp +contextual (disch := first|omega|simp only [nx];omega) only [D4,reduceNegSucc,reduceEq,reduceLeDiff,reduceSub,reduceAdd,D5,hF,hA,↓reduceIte,reduceEqDiff,reduceLT]; with_reducible rfl) ?_ ?_ rfl ?_
    · simp only [monoG, List.cons_append, List.nil_append, Heap.next_set, Heap.next_alloc, Nat.le_refl, true_and, and_true] <;> omega
    · simp only [dcAll, dcOk, wantD, List.cons_append, List.nil_append, true_and, and_true]
      exact ⟨fun _ q hq => by simp only [List.mem_cons, List.not_mem_nil, or_false] at hq; (repeat (rcases hq with rfl | hq; exact ⟨_, _, _, rfl, (by simp +contextual (disch := first|omega|simp only [nx];omega) only [D4,reduceNegSucc,reduceEq,reduceLeDiff,reduceSub,reduceAdd,D5,hF,hA,↓reduceIte,reduceEqDiff,reduceLT, b2.2, b3.2]; with_reducible rfl), fun p hp => by cases hp; simp only [D5,hF,hA,↓reduceIte,reduceEqDiff,reduceLT]; first | exact vEq_An | simp [vEq, vEq0, all2]⟩)); (try (subst hq; exact ⟨_, _, _, rfl, (by simp +contextual (disch := first|omega|simp only [nx];omega) only [D4,reduceNegSucc,reduceEq,reduceLeDiff,reduceSub,reduceAdd,D5,hF,hA,↓reduceIte,reduceEqDiff,reduceLT, b2.2, b3.2]; with_reducible rfl), fun p hp => by cases hp; simp only [D5,hF,hA,↓reduceIte,reduceEqDiff,reduceLT]; first | exact vEq_An | simp [vEq, vEq0, all2]⟩)), fun _ => ⟨_, _, _, rfl, rfl, rfl, (by simp only [D5,hF,hA,↓reduceIte,reduceEqDiff,reduceLT]; simp [inBound]), fun _ => ⟨_, _, _, cells_alloc _ _ _ _, (by first | exact An_inb | rfl)⟩⟩⟩
    refine V.heap (fun X => Grow H3 X ∧ Bx X H3.next [I a, I b, I c, I d, cw i j] 92) ⟨?_, ?_⟩ ?_
    · (repeat first | assumption | exact Grow.refl _ | refine Grow.alloc ?_ _ | refine Grow.set ?_ (by first|omega|simp only [nx];omega) _)
    · (repeat first | assumption | exact Bx.new _ _ _ | exact Bx.newAt (by first|omega|simp only [nx];omega) | refine Bx.put (by first|omega|simp only [nx];omega) _ _ | refine Bx.alloc ?_ _ | refine Bx.set ?_ (by first|omega|simp only [nx];omega) _)
    rintro H4 ⟨g4, e4⟩
    have w4 := w3.grow g4
    have c4 := c3.grow g4
    have g34 := g23.trans g4
    (repeat first|apply V.seq|apply V.block|apply V.scope|apply V.skip|apply V.close)
    refine V.run ?_
    refine VI.steps' 1 (by simp +contextual (disch := first|omega|simp only [nx];omega) only [D4,reduceNegSucc,reduceEq,reduceLeDiff,reduceSub,reduceAdd,D5,hF,hA,↓reduceIte,reduceEqDiff,reduceLT, e4.2]; with_reducible rfl) ?_
    simp only [ds]
    refine VI.callA rfl (f79_ok a b c d (cw i j) _) (by simp only [D6,D5,hF,hA,↓reduceIte,reduceEqDiff,reduceLT]; try rfl) (fun H5 g5 => ?_)
    refine VI.steps' 1 (by simp +contextual (disch := first|omega|simp only [nx];omega) only [D4,reduceNegSucc,reduceEq,reduceLeDiff,reduceSub,reduceAdd,D5,hF,hA,↓reduceIte,reduceEqDiff,reduceLT]; with_reducible rfl) ?_
    simp only [ds]
    refine VI.callA rfl (f52_ok 0 b u _) (by simp only [D6,D5,hF,hA,↓reduceIte,reduceEqDiff,reduceLT]; try rfl) (fun H6 g6 => ?_)
    have e6 := (e4.grow g5).grow g6
    have w6 := (w4.grow g5).grow g6
    have c6 := (c4.grow g5).grow g6
    have g46 := (g34.trans g5).trans g6
    have n6 := g2.1
    refine VI.line' (by simp +contextual (disch := first|omega|simp only [nx];omega) only [D4,reduceNegSucc,reduceEq,reduceLeDiff,reduceSub,reduceAdd,D5,hF,hA,↓reduceIte,reduceEqDiff,reduceLT]; with_reducible rfl) ?_
    (repeat first|apply V.seq|apply V.block|apply V.scope|apply V.skip|apply V.close)
    have hc6 := c6.1
    refine V.condP (by simp only [D6,D5,hF,hA,↓reduceIte,reduceEqDiff,reduceLT]; rfl) (fun h => ?_) (fun h => ?_)
    · have hr : rd a b c d u = 2 := by unfold rd; rw [if_neg (not_not_intro hv), if_pos h]
      (repeat first|apply V.seq|apply V.block|apply V.scope|apply V.skip|apply V.close)
      refine V.line' (by simp +contextual (disch := first|omega|simp only [nx];omega) only [D4,reduceNegSucc,reduceEq,reduceLeDiff,reduceSub,reduceAdd,D5,hF,hA,↓reduceIte,reduceEqDiff,reduceLT, c6.2]; with_reducible rfl) ?_
      (repeat first|apply V.seq|apply V.block|apply V.scope|apply V.skip|apply V.close)
      refine V.ret (V.rets rfl (Lv.retF (by simp +contextual (disch := first|omega|simp only [nx];omega) only [D1, cells_alloc_at, cells_alloc_ne, cells_set_at, cells_set_ne, yres, yres1, yresL, reduceLeDiff, reduceSub, reduceAdd, D5,hF,hA,↓reduceIte,reduceEqDiff,reduceLT, cells_set]; rfl) ?_))
      refine ⟨?_, .inl ⟨by omega, by rw [hr]⟩⟩
      (repeat first | assumption | exact Grow.refl _ | refine Grow.alloc ?_ _ | refine Grow.set ?_ (by first|omega|simp only [nx];omega) _)
    · have hr : rd a b c d u = 0 := by unfold rd; rw [if_neg (not_not_intro hv), if_neg h]
      (repeat first|apply V.seq|apply V.block|apply V.scope|apply V.skip|apply V.close)
      refine V.line' (by simp +contextual (disch := first|omega|simp only [nx];omega) only [D4,reduceNegSucc,reduceEq,reduceLeDiff,reduceSub,reduceAdd,D5,hF,hA,↓reduceIte,reduceEqDiff,reduceLT, c6.2, e6.2]; with_reducible rfl) ?_
      (repeat first|apply V.seq|apply V.block|apply V.scope|apply V.skip|apply V.close)
      refine V.ret (V.rets rfl (Lv.retF (by simp +contextual (disch := first|omega|simp only [nx];omega) only [D1, cells_alloc_at, cells_alloc_ne, cells_set_at, cells_set_ne, yres, yres1, yresL, reduceLeDiff, reduceSub, reduceAdd, D5,hF,hA,↓reduceIte,reduceEqDiff,reduceLT, cells_set]; rfl) ?_))
      refine ⟨?_, .inr ⟨hr, i, j, x, rfl, by omega, by omega, by omega, w6.growS (U := (· = H.next + 1)) (GrowS.x (((Grow.refl H6).x _).set _) rfl) (by omega) (by omega) (by omega)⟩⟩
      (repeat first | assumption | exact Grow.refl _ | refine Grow.alloc ?_ _ | refine Grow.set ?_ (by first|omega|simp only [nx];omega) _)
  · rw [if_neg hv]
    have hr : rd a b c d u = 1 := by unfold rd; rw [if_pos hv]
    refine V.line' (by simp +contextual (disch := first|omega|simp only [nx];omega) only [D4,reduceNegSucc,reduceEq,reduceLeDiff,reduceSub,reduceAdd,D5,hF,hA,↓reduceIte,reduceEqDiff,reduceLT]; with_reducible rfl) ?_
    (repeat first|apply V.seq|apply V.block|apply V.scope|apply V.skip|apply V.close)
    refine V.condT (by simp only [D6,D5,hF,hA,↓reduceIte,reduceEqDiff,reduceLT]) ?_
    (repeat first|apply V.seq|apply V.block|apply V.scope|apply V.skip|apply V.close)
    refine V.line' (by simp +contextual (disch := first|omega|simp only [nx];omega) only [D4,reduceNegSucc,reduceEq,reduceLeDiff,reduceSub,reduceAdd,D5,hF,hA,↓reduceIte,reduceEqDiff,reduceLT, c2.2]; with_reducible rfl) ?_
    (repeat first|apply V.seq|apply V.block|apply V.scope|apply V.skip|apply V.close)
    refine V.ret (V.rets rfl (Lv.retF (by simp +contextual (disch := first|omega|simp only [nx];omega) only [D1, cells_alloc_at, cells_alloc_ne, cells_set_at, cells_set_ne, yres, yres1, yresL, reduceLeDiff, reduceSub, reduceAdd, D5,hF,hA,↓reduceIte,reduceEqDiff,reduceLT, cells_set]; rfl) ?_))
    refine ⟨?_, .inl ⟨by omega, by rw [hr]⟩⟩
    (repeat first | assumption | exact Grow.refl _ | refine Grow.alloc ?_ _ | refine Grow.set ?_ (by first|omega|simp only [nx];omega) _)
theorem xb {n y : Nat} (h : n ≤ y) (d : Nat) : xbound (some (I n)) d y = some n := by
  unfold xbound
  simp only
  rw [if_pos ⟨by omega, by omega⟩, Int.toNat_natCast]
theorem info3 : ∃ inf, Try.prog.info? 3 = some inf ∧ inf.size = 1 := by
  have c3 : Try.prog.cellsOf 3 = 1 := by kernel_rfl
  cases h3 : Try.prog.info? 3 with
  | none => simp [Program.cellsOf, h3] at c3
  | some inf => exact ⟨inf, rfl, by simpa [Program.cellsOf, h3] using c3⟩
theorem slice_arr {p o l h : Nat} (hl : l ≤ h) (hh : h ≤ 51) (hl2 : l < 51) : xslice Try.prog 125 (.pointer (some ⟨p, o, none⟩)) (some (I l)) (some (I h)) none = some (.slice (some ⟨p, o + l, none⟩) (h - l) (51 - l)) := by
  obtain ⟨inf, h3, hs⟩ := info3
  unfold xslice
  simp only [Try.underlying125, h3, xb hh, xb hl]
  rw [if_neg (by omega), hs, Nat.mul_one]
theorem slice_arr0 {p o h : Nat} (hh : h ≤ 51) : xslice Try.prog 125 (.pointer (some ⟨p, o, none⟩)) none (some (I h)) none = some (.slice (some ⟨p, o, none⟩) h 51) := by
  obtain ⟨inf, h3, hs⟩ := info3
  have e : ∀ y : Nat, xbound none 0 y = some 0 := fun _ => rfl
  unfold xslice
  simp only [Try.underlying125, h3, xb hh, e]
  rw [if_neg (by omega), Nat.zero_mul, Nat.add_zero, Nat.sub_zero, Nat.sub_zero]
abbrev SP (a b c d u : Nat) : List Value := SPk a b c d (ch (a + u) c : Nat) (fun f => I (if f < c + 1 then ((part a u c f : Nat) : Int) else 0))
def psL (a u c f n : Nat) : List Int := (List.range n).map fun k => ((part a u c (f + k) : Nat) : Int)
theorem psL_sum (a u c f : Nat) : ∀ n, (psL a u c f n).sum = ((psum a u c f n : Nat) : Int)
  | 0 => rfl
  | n + 1 => by
    have ih := psL_sum a u c f n
    unfold psL at ih ⊢
    rw [List.range_succ, List.map_append, List.sum_append, ih, psum_s]
    simp
theorem SP_sl {H : Heap} {p a b c d u f n : Nat} (h : Bx H p (SP a b c d u) 127) (hc : c ≤ 50) (hf : f + n ≤ c + 1) : Sl H (.slice (some ⟨p, 4 + f, none⟩) n (51 - f)) ((psL a u c f n).map I) := by
  refine .at h.1 h.2 (by omega) (by simp [psL]) (by rw [arr_size, SPk_len]; omega) ?_
  intro k x hx
  have hk : k < n := by
    have := (List.getElem?_eq_some_iff.1 hx).1
    simpa [psL] using this
  rw [arr_get, show 4 + f + k = 4 + (f + k) by omega, SPk_s (by omega), ← hx, if_pos (by omega)]
  simp [psL, hk]
theorem f81_ok {a b c d u p : Nat} (hau : a + u ≤ 60) (hc : c ≤ 50) (hd : d ≤ c) {H : Heap} (hb : Bx H p (SP a b c d u) 127) : Gives Try.prog 81 [PT p] H (I (psum a u c d (c + 1 - d) : Nat)) := by
  have hs := slice_arr (p := p) (o := 4) (l := d) (h := c + 1) (by omega) (by omega) (by omega)
  have e1 : (c : Int) + 1 = ((c + 1 : Nat) : Int) := rfl
  have hq := psum_le (a := a) (u := u) (c := c) (f := d) (n := c + 1 - d) (by omega)
  have hcb := ch_bound (n := a + u) c hau
  refine F.entryL rfl dg81 do81 de81 rfl (by kernel_rfl) ?_
  simp only [sets]
  refine V.re [(0, PT p)] (N := 19) (by intro i; simp only [full_st, Full.mk]) (by simp only [Kn, gt_st, full_st, Full.mk, ↓reduceIte, reduceEqDiff, reduceLT, decide_true, and_self]) ?_
  intro t hF hA
  simp only [Kn, and_true] at hA
  (repeat first|apply V.seq|apply V.block|apply V.scope|apply V.skip|apply V.close)
  refine V.line' (by simp +contextual (disch := first|omega|simp only [nx];omega) only [D4,reduceNegSucc,reduceEq,reduceLeDiff,reduceSub,reduceAdd,D5,hF,hA,↓reduceIte,reduceEqDiff,reduceLT]; with_reducible rfl) ?_
  (repeat first|apply V.seq|apply V.block|apply V.scope|apply V.skip|apply V.close)
  refine V.draw ?_
  refine VD.dins 9 (by simp +contextual (disch := first|omega|simp only [nx];omega) only [D4,reduceNegSucc,reduceEq,reduceLeDiff,reduceSub,reduceAdd,D5,hF,hA,↓reduceIte,reduceEqDiff,reduceLT, hb.2, SPk_2, SPk_3, e1, hs]; with_reducible rfl) ?_
  simp only [ds]
  refine VD.dins 6 (by simp +contextual (disch := first|omega|simp only [nx];omega) only [D4,reduceNegSucc,reduceEq,reduceLeDiff,reduceSub,reduceAdd,D5,hF,hA,↓reduceIte,reduceEqDiff,reduceLT, hb.2, SPk_2, SPk_3, e1, hs]; with_reducible rfl) ?_
  simp only [ds]
  refine VD.callA (by simp only [D6,D5,hF,hA,↓reduceIte,reduceEqDiff,reduceLT]; try rfl) (f86_ok (SP_sl hb hc (n := c + 1 - d) (f := d) (by omega)) (by simp [psL]; omega) (fun x hx => by obtain ⟨q, _, rfl⟩ := List.mem_map.1 hx; exact Int.natCast_nonneg _) (by rw [psL_sum]; omega)) (by simp only [D6,D5,hF,hA,↓reduceIte,reduceEqDiff,reduceLT]; try rfl) (fun H2 g2 => ?_)
  rw [psL_sum]
  refine VD.lineD' (by simp +contextual (disch := first|omega|simp only [nx];omega) only [D4,reduceNegSucc,reduceEq,reduceLeDiff,reduceSub,reduceAdd,D5,hF,hA,↓reduceIte,reduceEqDiff,reduceLT]; with_reducible rfl) ?_ ?_ rfl ?_
  · have n2 := g2.1
    simp only [monoG, List.cons_append, List.nil_append, Heap.next_set, Heap.next_alloc, Nat.le_refl, true_and, and_true] <;> omega
  · simp only [dcAll, dcOk, wantD, List.cons_append, List.nil_append, true_and, and_true]
  (repeat first|apply V.seq|apply V.block|apply V.scope|apply V.skip|apply V.close)
  refine V.ret (V.rets rfl (Lv.retG (by simp +contextual (disch := first|omega|simp only [nx];omega) only [D1, cells_alloc_at, cells_alloc_ne, cells_set_at, cells_set_ne, yres, yres1, yresL, reduceLeDiff, reduceSub, reduceAdd, D5,hF,hA,↓reduceIte,reduceEqDiff,reduceLT]; rfl) ?_ ?_))
  · exact g2
  · rfl
theorem f82_ok {a b c d u p : Nat} (hau : a + u ≤ 60) (hc : c ≤ 50) (hd : d ≤ c) {H : Heap} (hb : Bx H p (SP a b c d u) 127) : Gives Try.prog 82 [PT p] H (I (psum a u c 0 (d + 1) : Nat)) := by
  have hs := slice_arr0 (p := p) (o := 4) (h := d + 1) (by omega)
  have e1 : (d : Int) + 1 = ((d + 1 : Nat) : Int) := rfl
  have hq := psum_le (a := a) (u := u) (c := c) (f := 0) (n := d + 1) (by omega)
  have hcb := ch_bound (n := a + u) c hau
  refine F.entryL rfl dg82 do82 de82 rfl (by kernel_rfl) ?_
  simp only [sets]
  refine V.re [(0, PT p)] (N := 14) (by intro i; simp only [full_st, Full.mk]) (by simp only [Kn, gt_st, full_st, Full.mk, ↓reduceIte, reduceEqDiff, reduceLT, decide_true, and_self]) ?_
  intro t hF hA
  simp only [Kn, and_true] at hA
  (repeat first|apply V.seq|apply V.block|apply V.scope|apply V.skip|apply V.close)
  refine V.line' (by simp +contextual (disch := first|omega|simp only [nx];omega) only [D4,reduceNegSucc,reduceEq,reduceLeDiff,reduceSub,reduceAdd,D5,hF,hA,↓reduceIte,reduceEqDiff,reduceLT]; with_reducible rfl) ?_
  (repeat first|apply V.seq|apply V.block|apply V.scope|apply V.skip|apply V.close)
  refine V.draw ?_
  refine VD.dins 9 (by simp +contextual (disch := first|omega|simp only [nx];omega) only [D4,reduceNegSucc,reduceEq,reduceLeDiff,reduceSub,reduceAdd,D5,hF,hA,↓reduceIte,reduceEqDiff,reduceLT, hb.2, SPk_3, e1, hs]; with_reducible rfl) ?_
  simp only [ds]
  refine VD.dins 1 (by simp +contextual (disch := first|omega|simp only [nx];omega) only [D4,reduceNegSucc,reduceEq,reduceLeDiff,reduceSub,reduceAdd,D5,hF,hA,↓reduceIte,reduceEqDiff,reduceLT, hb.2, SPk_3, e1, hs]; with_reducible rfl) ?_
  simp only [ds]
  refine VD.callA (by simp only [D6,D5,hF,hA,↓reduceIte,reduceEqDiff,reduceLT]; try rfl) (f86_ok (SP_sl hb hc (n := d + 1) (f := 0) (by omega)) (by simp [psL]; omega) (fun x hx => by obtain ⟨q, _, rfl⟩ := List.mem_map.1 hx; exact Int.natCast_nonneg _) (by rw [psL_sum]; omega)) (by simp only [D6,D5,hF,hA,↓reduceIte,reduceEqDiff,reduceLT]; try rfl) (fun H2 g2 => ?_)
  rw [psL_sum]
  refine VD.lineD' (by simp +contextual (disch := first|omega|simp only [nx];omega) only [D4,reduceNegSucc,reduceEq,reduceLeDiff,reduceSub,reduceAdd,D5,hF,hA,↓reduceIte,reduceEqDiff,reduceLT]; with_reducible rfl) ?_ ?_ rfl ?_
  · have n2 := g2.1
    simp only [monoG, List.cons_append, List.nil_append, Heap.next_set, Heap.next_alloc, Nat.le_refl, true_and, and_true] <;> omega
  · simp only [dcAll, dcOk, wantD, List.cons_append, List.nil_append, true_and, and_true]
  (repeat first|apply V.seq|apply V.block|apply V.scope|apply V.skip|apply V.close)
  refine V.ret (V.rets rfl (Lv.retG (by simp +contextual (disch := first|omega|simp only [nx];omega) only [D1, cells_alloc_at, cells_alloc_ne, cells_set_at, cells_set_ne, yres, yres1, yresL, reduceLeDiff, reduceSub, reduceAdd, D5,hF,hA,↓reduceIte,reduceEqDiff,reduceLT]; rfl) ?_ ?_))
  · exact g2
  · rfl
theorem f58_ok (H : Heap) : Gives Try.prog 58 [] H (.agg ⟨[.func (.func 81) ⟨[]⟩ ⟨[]⟩]⟩) := by
  refine F.entryL rfl dg58 do58 de58 rfl (by kernel_rfl) ?_
  simp only [sets]
  refine V.re [] (N := 2) (by intro i; simp only [full_st, Full.mk]) (by simp only [Kn, gt_st, full_st, Full.mk, ↓reduceIte, reduceEqDiff, reduceLT, decide_true, and_self]) ?_
  intro t hF hA
  (repeat first|apply V.seq|apply V.block|apply V.scope|apply V.skip|apply V.close)
  refine V.line' (by simp +contextual (disch := first|omega|simp only [nx];omega) only [D4,reduceNegSucc,reduceEq,reduceLeDiff,reduceSub,reduceAdd,D5,hF,hA,↓reduceIte,reduceEqDiff,reduceLT]; with_reducible rfl) ?_
  (repeat first|apply V.seq|apply V.block|apply V.scope|apply V.skip|apply V.close)
  refine V.line' (by simp +contextual (disch := first|omega|simp only [nx];omega) only [D4,reduceNegSucc,reduceEq,reduceLeDiff,reduceSub,reduceAdd,D5,hF,hA,↓reduceIte,reduceEqDiff,reduceLT]; with_reducible rfl) ?_
  (repeat first|apply V.seq|apply V.block|apply V.scope|apply V.skip|apply V.close)
  refine V.ret (V.rets rfl (Lv.retG (by simp +contextual (disch := first|omega|simp only [nx];omega) only [D1, cells_alloc_at, cells_alloc_ne, cells_set_at, cells_set_ne, yres, yres1, yresL, reduceLeDiff, reduceSub, reduceAdd, D5,hF,hA,↓reduceIte,reduceEqDiff,reduceLT]; rfl) ?_ ?_))
  · (repeat first | assumption | exact Grow.refl _ | refine Grow.alloc ?_ _ | refine Grow.set ?_ (by first|omega|simp only [nx];omega) _)
  · rfl
theorem f59_ok (H : Heap) : Gives Try.prog 59 [] H (.agg ⟨[.func (.func 82) ⟨[]⟩ ⟨[]⟩]⟩) := by
  refine F.entryL rfl dg59 do59 de59 rfl (by kernel_rfl) ?_
  simp only [sets]
  refine V.re [] (N := 2) (by intro i; simp only [full_st, Full.mk]) (by simp only [Kn, gt_st, full_st, Full.mk, ↓reduceIte, reduceEqDiff, reduceLT, decide_true, and_self]) ?_
  intro t hF hA
  (repeat first|apply V.seq|apply V.block|apply V.scope|apply V.skip|apply V.close)
  refine V.line' (by simp +contextual (disch := first|omega|simp only [nx];omega) only [D4,reduceNegSucc,reduceEq,reduceLeDiff,reduceSub,reduceAdd,D5,hF,hA,↓reduceIte,reduceEqDiff,reduceLT]; with_reducible rfl) ?_
  (repeat first|apply V.seq|apply V.block|apply V.scope|apply V.skip|apply V.close)
  refine V.line' (by simp +contextual (disch := first|omega|simp only [nx];omega) only [D4,reduceNegSucc,reduceEq,reduceLeDiff,reduceSub,reduceAdd,D5,hF,hA,↓reduceIte,reduceEqDiff,reduceLT]; with_reducible rfl) ?_
  (repeat first|apply V.seq|apply V.block|apply V.scope|apply V.skip|apply V.close)
  refine V.ret (V.rets rfl (Lv.retG (by simp +contextual (disch := first|omega|simp only [nx];omega) only [D1, cells_alloc_at, cells_alloc_ne, cells_set_at, cells_set_ne, yres, yres1, yresL, reduceLeDiff, reduceSub, reduceAdd, D5,hF,hA,↓reduceIte,reduceEqDiff,reduceLT]; rfl) ?_ ?_))
  · (repeat first | assumption | exact Grow.refl _ | refine Grow.alloc ?_ _ | refine Grow.set ?_ (by first|omega|simp only [nx];omega) _)
  · rfl
theorem f60_ok {a b c d u p n : Nat} {g : FuncId} (hau : a + u ≤ 60) (hc : c ≤ a) {H : Heap} (hb : Bx H p (SP a b c d u) 127) (hn : n ≤ ch (a + u) c) (hg : ∀ H', Grow H H' → Gives Try.prog g [PT p] H' (I n)) :
    Gives Try.prog 60 [.agg ⟨[.func (.func g) ⟨[]⟩ ⟨[]⟩]⟩, PT p] H (.agg ⟨fr n (ch (a + u) c)⟩) := by
  have hcb := ch_bound (n := a + u) c hau
  have hp := ch_pos (n := a + u) (k := c) (by omega)
  have hpn := hb.1
  refine F.entryL rfl dg60 do60 de60 rfl (by kernel_rfl) ?_
  simp only [sets]
  refine V.re [(0, .agg ⟨[.func (.func g) ⟨[]⟩ ⟨[]⟩]⟩), (1, PT p)] (N := 14) (by intro i; simp only [full_st, Full.mk]) (by simp only [Kn, gt_st, full_st, Full.mk, ↓reduceIte, reduceEqDiff, reduceLT, decide_true, and_self]) ?_
  intro t hF hA
  simp only [Kn, and_true] at hA
  (repeat first|apply V.seq|apply V.block|apply V.scope|apply V.skip|apply V.close)
  refine V.line' (by simp +contextual (disch := first|omega|simp only [nx];omega) only [D4,reduceNegSucc,reduceEq,reduceLeDiff,reduceSub,reduceAdd,D5,hF,hA,↓reduceIte,reduceEqDiff,reduceLT]; with_reducible rfl) ?_
  refine V.heap (fun X => Grow H X ∧ Bx X H.next [.func (.func g) ⟨[]⟩ ⟨[]⟩] 98 ∧ Bx X (H.next + 1) (A2 0 0) 36) ⟨?_, ?_, ?_⟩ ?_
  · (repeat first | assumption | exact Grow.refl _ | refine Grow.alloc ?_ _ | refine Grow.set ?_ (by first|omega|simp only [nx];omega) _)
  · (repeat first | assumption | exact Bx.new _ _ _ | exact Bx.newAt (by first|omega|simp only [nx];omega) | refine Bx.put (by first|omega|simp only [nx];omega) _ _ | refine Bx.alloc ?_ _ | refine Bx.set ?_ (by first|omega|simp only [nx];omega) _)
  · (repeat first | assumption | exact Bx.new _ _ _ | exact Bx.newAt (by first|omega|simp only [nx];omega) | refine Bx.put (by first|omega|simp only [nx];omega) _ _ | refine Bx.alloc ?_ _ | refine Bx.set ?_ (by first|omega|simp only [nx];omega) _)
  rintro H1 ⟨g1, b1, c1⟩
  have s1 := hb.grow g1
  (repeat first|apply V.seq|apply V.block|apply V.scope|apply V.skip|apply V.close)
  refine V.draw ?_
  refine VD.dins 3 (by simp +contextual (disch := first|omega|simp only [nx];omega) only [D4,reduceNegSucc,reduceEq,reduceLeDiff,reduceSub,reduceAdd,D5,hF,hA,↓reduceIte,reduceEqDiff,reduceLT, b1.2]; with_reducible rfl) ?_
  simp only [ds]
  refine VD.callA (by simp only [D6,D5,hF,hA,↓reduceIte,reduceEqDiff,reduceLT]; try rfl) (hg _ g1) (by simp only [D6,D5,hF,hA,↓reduceIte,reduceEqDiff,reduceLT]; try rfl) (fun H2 g2 => ?_)
  have s2 := s1.grow g2
  have c2 := c1.grow g2
  refine VD.dins 4 (by simp +contextual (disch := first|omega|simp only [nx];omega) only [D4,reduceNegSucc,reduceEq,reduceLeDiff,reduceSub,reduceAdd,D5,hF,hA,↓reduceIte,reduceEqDiff,reduceLT, s2.2, SPk_all]; with_reducible rfl) ?_
  simp only [ds]
  refine VD.callA (by simp only [D6,D5,hF,hA,↓reduceIte,reduceEqDiff,reduceLT]; try rfl) (f80_ok n (ch (a + u) c) (by omega) hp (by omega) _) (by simp only [D6,D5,hF,hA,↓reduceIte,reduceEqDiff,reduceLT]; try rfl) (fun H3 g3 => ?_)
  have s3 := s2.grow g3
  have c3 := c2.grow g3
  have hc3 := c3.1
  refine VD.lineD' (by simp +contextual (disch := first|omega|simp only [nx];omega) only [D4,reduceNegSucc,reduceEq,reduceLeDiff,reduceSub,reduceAdd,D5,hF,hA,↓reduceIte,reduceEqDiff,reduceLT, c3.2]; with_reducible rfl) ?_ ?_ rfl ?_
  · have n2 := g2.1
    have n3 := g3.1
    simp only [monoG, List.cons_append, List.nil_append, Heap.next_set, Heap.next_alloc, Nat.le_refl, true_and, and_true] <;> omega
  · simp only [dcAll, dcOk, wantD, List.cons_append, List.nil_append, true_and, and_true]
    exact fun _ q hq => by simp only [List.mem_cons, List.not_mem_nil, or_false] at hq; (repeat (rcases hq with rfl | hq; exact ⟨_, _, _, rfl, (by simp +contextual (disch := first|omega|simp only [nx];omega) only [D4,reduceNegSucc,reduceEq,reduceLeDiff,reduceSub,reduceAdd,D5,hF,hA,↓reduceIte,reduceEqDiff,reduceLT, s1.2, s2.2, s3.2, SPk_all]; with_reducible rfl), fun p hp => by cases hp; simp only [D5,hF,hA,↓reduceIte,reduceEqDiff,reduceLT]; first | exact vEq_An | simp [vEq, vEq0, all2]⟩)); (try (subst hq; exact ⟨_, _, _, rfl, (by simp +contextual (disch := first|omega|simp only [nx];omega) only [D4,reduceNegSucc,reduceEq,reduceLeDiff,reduceSub,reduceAdd,D5,hF,hA,↓reduceIte,reduceEqDiff,reduceLT, s1.2, s2.2, s3.2, SPk_all]; with_reducible rfl), fun p hp => by cases hp; simp only [D5,hF,hA,↓reduceIte,reduceEqDiff,reduceLT]; first | exact vEq_An | simp [vEq, vEq0, all2]⟩))
  (repeat first|apply V.seq|apply V.block|apply V.scope|apply V.skip|apply V.close)
  refine V.ret (V.rets rfl (Lv.retG (by simp +contextual (disch := first|omega|simp only [nx];omega) only [D1, cells_alloc_at, cells_alloc_ne, cells_set_at, cells_set_ne, yres, yres1, yresL, reduceLeDiff, reduceSub, reduceAdd, D5,hF,hA,↓reduceIte,reduceEqDiff,reduceLT, cells_set]; rfl) ?_ ?_))
  · have gg := (g1.trans g2).trans g3
    (repeat first | assumption | exact Grow.refl _ | refine Grow.alloc ?_ _ | refine Grow.set ?_ (by first|omega|simp only [nx];omega) _)
  · rfl
end Go.Xe.TMX
