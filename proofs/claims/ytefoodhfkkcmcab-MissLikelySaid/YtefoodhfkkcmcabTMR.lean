/- What the functions of the layer miss come to: chances. Conditions: none. -/
import Derived.Test.YtefoodhfkkcmcabTMQ
-- MOD TM
namespace Go.Xe.TMX
open Go Go.Xe Go.Proofs Go.Xe.Mth
open Nat (reduceLeDiff reduceSub reduceAdd reduceEqDiff reduceLT)
open Int (reduceNegSucc reduceEq)
set_option maxRecDepth 100000
set_option maxHeartbeats 3200000
set_option linter.unusedSimpArgs false
noncomputable def d62 : FCode := (.seq (.run (.go (.box 23 (.tmp (pth 0))) (pth 3)::
.go (.move (.con (.int .i64 (.ofNat 0)))) (pth 6)::
[])) (.seq (.draw 12 (.go (.fieldAddr 0 (.tmp (pth 3))) (pth 7)::
.go (.load1 (.tmp (pth 7))) (pth 8)::
.go (.move (.tmp (pth 2))) (pth 9)::
.go (.call (.con (.func (.func 25) ⟨[]⟩ ⟨[]⟩)) [(.tmp (pth 8)),(.tmp (pth 9))]) (pth 10)::
.go (.move (.tmp (pth 1))) (pth 11)::
.go (.fieldAddr 2 (.tmp (pth 3))) (pth 12)::
.go (.load1 (.tmp (pth 12))) (pth 13)::
.go (.move (.tmp (pth 2))) (pth 14)::
.go (.bin .sub 3 (.tmp (pth 13)) (.tmp (pth 14))) (pth 15)::
.go (.call (.con (.func (.func 25) ⟨[]⟩ ⟨[]⟩)) [(.tmp (pth 11)),(.tmp (pth 15))]) (pth 16)::
.go (.bin .mul 3 (.tmp (pth 10)) (.tmp (pth 16))) (pth 17)::
.go (.move (.tmp (pth 17))) (pth 6)::
[]) [.ok,.ok,.ok,.ok,.ok,.ok,.rd none (.load1 (.tmp (pth 12))) (some (pth 13)) [0],.ok,.ok,.ok,.ok,.ok]) .ret))
theorem de62 : @compF Try.prog (Gl.none Try.prog) Try.f62 3 = .mk d62 (mkTT 18) [(pth 0),(pth 1),(pth 2)] [.tmp (pth 6)] := by kernel_rfl
theorem dg62 : Try.prog.funcs[62]? = some Try.f62 := Try.func62
theorem do62 : okF Try.prog Try.f62 = true := by kernel_rfl
noncomputable def d49 : FCode := (.seq (.run (.go (.box 23 (.tmp (pth 0))) (pth 2)::
.go (.move (.con (.int .i64 (.ofNat 0)))) (pth 4)::
[])) (.seq (.run (.go (.fieldAddr 0 (.tmp (pth 2))) (pth 5)::
.go (.load1 (.tmp (pth 5))) (pth 6)::
.go (.move (.tmp (pth 1))) (pth 7)::
.go (.bin .add 3 (.tmp (pth 6)) (.tmp (pth 7))) (pth 8)::
.go (.fieldAddr 2 (.tmp (pth 2))) (pth 9)::
.go (.load1 (.tmp (pth 9))) (pth 10)::
.go (.call (.con (.func (.func 25) ⟨[]⟩ ⟨[]⟩)) [(.tmp (pth 8)),(.tmp (pth 10))]) (pth 11)::
.go (.move (.tmp (pth 11))) (pth 4)::
[])) .ret))
theorem de49 : @compF Try.prog (Gl.none Try.prog) Try.f49 2 = .mk d49 (mkTT 12) [(pth 0),(pth 1)] [.tmp (pth 4)] := by kernel_rfl
theorem dg49 : Try.prog.funcs[49]? = some Try.f49 := Try.func49
theorem do49 : okF Try.prog Try.f49 = true := by kernel_rfl
noncomputable def d30 : FCode := (.seq (.run (.go (.box 23 (.tmp (pth 0))) (pth 4)::
.go (.alloc 41 [(.int .i64 (.ofNat 0)),(.int .i64 (.ofNat 0))]) (pth 8)::
[])) (.seq (.run (.go (.move (.con (.int .i64 (.ofNat 0)))) (pth 9)::
[])) (.seq (.seq (.run (.go (.move (.tmp (pth 2))) (pth 11)::
.go (.move (.tmp (pth 11))) (pth 10)::
[])) (.block 0 (.loop (.seq (.seq (.run (.go (.move (.tmp (pth 10))) (pth 12)::
.go (.move (.tmp (pth 3))) (pth 13)::
.go (.bin .leq 3 (.tmp (pth 12)) (.tmp (pth 13))) (pth 14)::
[])) (.cond (.tmp (pth 14)) .skip (.exit 0))) (.seq (.block 1 (.run (.go (.move (.tmp (pth 9))) (pth 17)::
.go (.loadN 4 (.tmp (pth 4))) (pth 18)::
.go (.move (.tmp (pth 1))) (pth 19)::
.go (.move (.tmp (pth 10))) (pth 20)::
.go (.call (.con (.func (.func 62) ⟨[]⟩ ⟨[]⟩)) [(.tmp (pth 18)),(.tmp (pth 19)),(.tmp (pth 20))]) (pth 21)::
.go (.bin .add 3 (.tmp (pth 17)) (.tmp (pth 21))) (pth 22)::
.go (.move (.tmp (pth 22))) (pth 9)::
[]))) (.run (.go (.move (.tmp (pth 10))) (pth 15)::
.go (.bin .add 3 (.tmp (pth 15)) (.con (.int .i64 (.ofNat 1)))) (pth 16)::
.go (.move (.tmp (pth 16))) (pth 10)::
[]))))))) (.seq (.run (.go (.move (.tmp (pth 9))) (pth 23)::
.go (.loadN 4 (.tmp (pth 4))) (pth 24)::
.go (.move (.tmp (pth 1))) (pth 25)::
.go (.call (.con (.func (.func 49) ⟨[]⟩ ⟨[]⟩)) [(.tmp (pth 24)),(.tmp (pth 25))]) (pth 26)::
.go (.build [(.int .i64 (.ofNat 0)),(.int .i64 (.ofNat 0))] [(0,1,(.tmp (pth 23))),(1,1,(.tmp (pth 26)))]) (pth 27)::
.un (.store 2 (.tmp (pth 8)) (.tmp (pth 27)))::
[])) .ret))))
theorem de30 : @compF Try.prog (Gl.none Try.prog) Try.f30 4 = .mk d30 (mkTT 28) [(pth 0),(pth 1),(pth 2),(pth 3)] [.many (pth 8) 2] := by kernel_rfl
theorem dg30 : Try.prog.funcs[30]? = some Try.f30 := Try.func30
theorem do30 : okF Try.prog Try.f30 = true := by kernel_rfl
noncomputable def d79 : FCode := (.seq (.run (.go (.box 92 (.tmp (pth 0))) (pth 1)::
.go (.alloc 53 [(.int .i64 (.ofNat 0)),(.int .i64 (.ofNat 0))]) (pth 2)::
[])) (.seq (.run (.go (.fieldAddr 0 (.tmp (pth 1))) (pth 3)::
.go (.fieldAddr 1 (.tmp (pth 3))) (pth 4)::
.go (.load1 (.tmp (pth 4))) (pth 5)::
.go (.build [(.int .i64 (.ofNat 0)),(.int .i64 (.ofNat 0))] [(0,1,(.con (.int .i64 (.ofNat 0)))),(1,1,(.tmp (pth 5)))]) (pth 6)::
.un (.store 2 (.tmp (pth 2)) (.tmp (pth 6)))::
[])) .ret))
theorem de79 : @compF Try.prog (Gl.none Try.prog) Try.f79 1 = .mk d79 (mkTT 7) [(pth 0)] [.many (pth 2) 2] := by kernel_rfl
theorem dg79 : Try.prog.funcs[79]? = some Try.f79 := Try.func79
theorem do79 : okF Try.prog Try.f79 = true := by kernel_rfl
noncomputable def d57 : FCode := (.seq (.run (.go (.box 92 (.tmp (pth 0))) (pth 2)::
.go (.alloc 36 [(.int .i64 (.ofNat 0)),(.int .i64 (.ofNat 0))]) (pth 4)::
[])) (.seq (.run (.go (.loadN 5 (.tmp (pth 2))) (pth 6)::
.go (.move (.tmp (pth 1))) (pth 7)::
.go (.call (.con (.func (.func 61) ⟨[]⟩ ⟨[]⟩)) [(.tmp (pth 6)),(.tmp (pth 7))]) (pth 8)::
.go (.move (.tmp (pth 8))) (pth 5)::
[])) (.seq (.draw 14 (.go (.move (.tmp (pth 5))) (pth 9)::
.go (.fieldAddr 0 (.tmp (pth 2))) (pth 10)::
.go (.fieldAddr 3 (.tmp (pth 10))) (pth 11)::
.go (.load1 (.tmp (pth 11))) (pth 12)::
.go (.nilCheck (.tmp (pth 9))) (pth 13)::
.go (.fieldAddr 4 (.tmp (pth 13))) (pth 14)::
.go (.indexAddr (some 51) 1 (.tmp (pth 14)) (.tmp (pth 12))) (pth 15)::
.go (.load1 (.tmp (pth 15))) (pth 16)::
.go (.move (.tmp (pth 5))) (pth 17)::
.go (.nilCheck (.tmp (pth 17))) (pth 18)::
.go (.fieldAddr 55 (.tmp (pth 18))) (pth 19)::
.go (.load1 (.tmp (pth 19))) (pth 20)::
.go (.call (.con (.func (.func 80) ⟨[]⟩ ⟨[]⟩)) [(.tmp (pth 16)),(.tmp (pth 20))]) (pth 21)::
.un (.store 2 (.tmp (pth 4)) (.tmp (pth 21)))::
[]) [.ok,.ok,.ok,.ok,.ok,.ok,.ok,.ok,.ok,.ok,.ok,.ok,.ok,.ok]) .ret)))
theorem de57 : @compF Try.prog (Gl.none Try.prog) Try.f57 2 = .mk d57 (mkTT 22) [(pth 0),(pth 1)] [.many (pth 4) 2] := by kernel_rfl
theorem dg57 : Try.prog.funcs[57]? = some Try.f57 := Try.func57
theorem do57 : okF Try.prog Try.f57 = true := by kernel_rfl
theorem sm_shift (p : Nat → Nat) (f : Nat) : ∀ n, sm p (f + n) = sm p f + sm (fun k => p (f + k)) n
  | 0 => rfl
  | n + 1 => by
    rw [show f + (n + 1) = f + n + 1 by omega, sm_s, sm_shift p f n, sm_s]; omega
def psum (a u c f n : Nat) : Nat := sm (fun k => part a u c (f + k)) n
theorem psum_le {a u c f n : Nat} (h : f + n ≤ c + 1) : psum a u c f n ≤ ch (a + u) c := by
  have h1 : sm (fun f => ch a f * ch u (c - f)) (f + n) = sm (fun f => ch a f * ch u (c - f)) f + psum a u c f n := sm_shift (fun f => ch a f * ch u (c - f)) f n
  have h2 := vander a u c
  have h3 := sm_le (p := fun f => ch a f * ch u (c - f)) h
  rw [h2] at h3
  omega
theorem psum_s (a u c f n : Nat) : psum a u c f (n + 1) = psum a u c f n + part a u c (f + n) := rfl
theorem f62_ok {a b c d u f : Nat} (ha : a ≤ 60) (hu : u ≤ 60) (hau : a + u ≤ 60) (hf : f ≤ c) (hc : c ≤ 60) (H : Heap) : Gives Try.prog 62 [.agg ⟨A4 a b c d⟩, I u, I f] H (I (part a u c f : Nat)) := by
  have e1 : (c : Int) - f = ((c - f : Nat) : Int) := by omega
  have hpl := part_le (a := a) (u := u) hf
  have hcb := ch_bound (n := a + u) c hau
  have ep : ((ch a f : Nat) : Int) * ((ch u (c - f) : Nat) : Int) = ((part a u c f : Nat) : Int) := by unfold part; push_cast; rfl
  refine F.entryL rfl dg62 do62 de62 rfl (by kernel_rfl) ?_
  simp only [sets]
  refine V.re [(0, .agg ⟨A4 a b c d⟩), (1, I u), (2, I f)] (N := 18) (by intro i; simp only [full_st, Full.mk]) (by simp only [Kn, gt_st, full_st, Full.mk, ↓reduceIte, reduceEqDiff, reduceLT, decide_true, and_self]) ?_
  intro t hF hA
  simp only [Kn, and_true] at hA
  (repeat first|apply V.seq|apply V.block|apply V.scope|apply V.skip|apply V.close)
  refine V.line' (by simp +contextual (disch := first|omega|simp only [nx];omega) only [D4,reduceNegSucc,reduceEq,reduceLeDiff,reduceSub,reduceAdd,D5,hF,hA,↓reduceIte,reduceEqDiff,reduceLT]; with_reducible rfl) ?_
  refine V.heap (fun X => Grow H X ∧ Bx X H.next (A4 a b c d) 23) ⟨?_, ?_⟩ ?_
  · (repeat first | assumption | exact Grow.refl _ | refine Grow.alloc ?_ _ | refine Grow.set ?_ (by first|omega|simp only [nx];omega) _)
  · (repeat first | assumption | exact Bx.new _ _ _ | exact Bx.newAt (by first|omega|simp only [nx];omega) | refine Bx.put (by first|omega|simp only [nx];omega) _ _ | refine Bx.alloc ?_ _ | refine Bx.set ?_ (by first|omega|simp only [nx];omega) _)
  rintro H1 ⟨g1, b1⟩
  (repeat first|apply V.seq|apply V.block|apply V.scope|apply V.skip|apply V.close)
  refine V.draw ?_
  refine VD.dins 3 (by simp +contextual (disch := first|omega|simp only [nx];omega) only [D4,reduceNegSucc,reduceEq,reduceLeDiff,reduceSub,reduceAdd,D5,hF,hA,↓reduceIte,reduceEqDiff,reduceLT, b1.2]; with_reducible rfl) ?_
  simp only [ds]
  refine VD.callA (by simp only [D6,D5,hF,hA,↓reduceIte,reduceEqDiff,reduceLT]; try rfl) (f25_ok a f ha (by omega) _) (by simp only [D6,D5,hF,hA,↓reduceIte,reduceEqDiff,reduceLT]; try rfl) (fun H2 g2 => ?_)
  have b2 := b1.grow g2
  refine VD.dins 5 (by simp +contextual (disch := first|omega|simp only [nx];omega) only [D4,reduceNegSucc,reduceEq,reduceLeDiff,reduceSub,reduceAdd,D5,hF,hA,↓reduceIte,reduceEqDiff,reduceLT, b2.2, e1]; with_reducible rfl) ?_
  simp only [ds]
  refine VD.callA (by simp only [D6,D5,hF,hA,↓reduceIte,reduceEqDiff,reduceLT]; try rfl) (f25_ok u (c - f) hu (by omega) _) (by simp only [D6,D5,hF,hA,↓reduceIte,reduceEqDiff,reduceLT]; try rfl) (fun H3 g3 => ?_)
  have b3 := b2.grow g3
  refine VD.lineD' (by simp +contextual (disch := first|omega|simp only [nx];omega) only [D4,reduceNegSucc,reduceEq,reduceLeDiff,reduceSub,reduceAdd,D5,hF,hA,↓reduceIte,reduceEqDiff,reduceLT, ep]; with_reducible rfl) ?_ ?_ rfl ?_
  · have n2 := g2.1
    have n3 := g3.1
    simp only [monoG, List.cons_append, List.nil_append, Heap.next_set, Heap.next_alloc, Nat.le_refl, true_and, and_true] <;> omega
  · simp only [dcAll, dcOk, wantD, List.cons_append, List.nil_append, true_and, and_true]
    exact fun _ q hq => by simp only [List.mem_cons, List.not_mem_nil, or_false] at hq; (repeat (rcases hq with rfl | hq; exact ⟨_, _, _, rfl, (by simp +contextual (disch := first|omega|simp only [nx];omega) only [D4,reduceNegSucc,reduceEq,reduceLeDiff,reduceSub,reduceAdd,D5,hF,hA,↓reduceIte,reduceEqDiff,reduceLT, b1.2, b2.2, b3.2]; with_reducible rfl), fun p hp => by cases hp; simp only [D5,hF,hA,↓reduceIte,reduceEqDiff,reduceLT]; first | exact vEq_An | simp [vEq, vEq0, all2]⟩)); (try (subst hq; exact ⟨_, _, _, rfl, (by simp +contextual (disch := first|omega|simp only [nx];omega) only [D4,reduceNegSucc,reduceEq,reduceLeDiff,reduceSub,reduceAdd,D5,hF,hA,↓reduceIte,reduceEqDiff,reduceLT, b1.2, b2.2, b3.2]; with_reducible rfl), fun p hp => by cases hp; simp only [D5,hF,hA,↓reduceIte,reduceEqDiff,reduceLT]; first | exact vEq_An | simp [vEq, vEq0, all2]⟩))
  (repeat first|apply V.seq|apply V.block|apply V.scope|apply V.skip|apply V.close)
  refine V.ret (V.rets rfl (Lv.retG (by simp +contextual (disch := first|omega|simp only [nx];omega) only [D1, cells_alloc_at, cells_alloc_ne, cells_set_at, cells_set_ne, yres, yres1, yresL, reduceLeDiff, reduceSub, reduceAdd, D5,hF,hA,↓reduceIte,reduceEqDiff,reduceLT]; rfl) ?_ ?_))
  · exact (g1.trans g2).trans g3
  · rfl
theorem f49_ok {a b c d u : Nat} (hau : a + u ≤ 60) (hc : c ≤ 60) (H : Heap) : Gives Try.prog 49 [.agg ⟨A4 a b c d⟩, I u] H (I (ch (a + u) c : Nat)) := by
  have e1 : (a : Int) + u = ((a + u : Nat) : Int) := rfl
  refine F.entryL rfl dg49 do49 de49 rfl (by kernel_rfl) ?_
  simp only [sets]
  refine V.re [(0, .agg ⟨A4 a b c d⟩), (1, I u)] (N := 12) (by intro i; simp only [full_st, Full.mk]) (by simp only [Kn, gt_st, full_st, Full.mk, ↓reduceIte, reduceEqDiff, reduceLT, decide_true, and_self]) ?_
  intro t hF hA
  simp only [Kn, and_true] at hA
  (repeat first|apply V.seq|apply V.block|apply V.scope|apply V.skip|apply V.close)
  refine V.line' (by simp +contextual (disch := first|omega|simp only [nx];omega) only [D4,reduceNegSucc,reduceEq,reduceLeDiff,reduceSub,reduceAdd,D5,hF,hA,↓reduceIte,reduceEqDiff,reduceLT]; with_reducible rfl) ?_
  (repeat first|apply V.seq|apply V.block|apply V.scope|apply V.skip|apply V.close)
  refine V.run ?_
  refine VI.steps' 6 (by simp +contextual (disch := first|omega|simp only [nx];omega) only [D4,reduceNegSucc,reduceEq,reduceLeDiff,reduceSub,reduceAdd,D5,hF,hA,↓reduceIte,reduceEqDiff,reduceLT, e1]; with_reducible rfl) ?_
  simp only [ds]
  refine VI.callA rfl (f25_ok (a + u) c hau hc _) (by simp only [D6,D5,hF,hA,↓reduceIte,reduceEqDiff,reduceLT]; try rfl) (fun H2 g2 => ?_)
  refine VI.line' (by simp +contextual (disch := first|omega|simp only [nx];omega) only [D4,reduceNegSucc,reduceEq,reduceLeDiff,reduceSub,reduceAdd,D5,hF,hA,↓reduceIte,reduceEqDiff,reduceLT]; with_reducible rfl) ?_
  (repeat first|apply V.seq|apply V.block|apply V.scope|apply V.skip|apply V.close)
  refine V.ret (V.rets rfl (Lv.retG (by simp +contextual (disch := first|omega|simp only [nx];omega) only [D1, cells_alloc_at, cells_alloc_ne, cells_set_at, cells_set_ne, yres, yres1, yresL, reduceLeDiff, reduceSub, reduceAdd, D5,hF,hA,↓reduceIte,reduceEqDiff,reduceLT]; rfl) ?_ ?_))
  · exact ((Grow.refl H).alloc _).trans g2
  · rfl
theorem f30_ok {a b c d u f n : Nat} {z : Int} (hz : z = (f : Int) + n - 1) (ha : a ≤ 60) (hu : u ≤ 60) (hau : a + u ≤ 60) (hf : f + n ≤ c + 1) (hc : c ≤ 60) (H : Heap) : Gives Try.prog 30 [.agg ⟨A4 a b c d⟩, I u, I f, I z] H (.agg ⟨A2 (psum a u c f n : Nat) (ch (a + u) c : Nat)⟩) := by
  refine F.entryL rfl dg30 do30 de30 rfl (by kernel_rfl) ?_
  simp only [sets]
  refine V.re [(0, .agg ⟨A4 a b c d⟩), (1, I u), (2, I f), (3, I z)] (N := 28) (by intro i; simp only [full_st, Full.mk]) (by simp only [Kn, gt_st, full_st, Full.mk, ↓reduceIte, reduceEqDiff, reduceLT, decide_true, and_self]) ?_
  intro t hF hA
  simp only [Kn, and_true] at hA
  (repeat first|apply V.seq|apply V.block|apply V.scope|apply V.skip|apply V.close)
  refine V.line' (by simp +contextual (disch := first|omega|simp only [nx];omega) only [D4,reduceNegSucc,reduceEq,reduceLeDiff,reduceSub,reduceAdd,D5,hF,hA,↓reduceIte,reduceEqDiff,reduceLT]; with_reducible rfl) ?_
  refine V.heap (fun X => Grow H X ∧ Bx X H.next (A4 a b c d) 23 ∧ Bx X (H.next + 1) (A2 0 0) 41) ⟨?_, ?_, ?_⟩ ?_
  · (repeat first | assumption | exact Grow.refl _ | refine Grow.alloc ?_ _ | refine Grow.set ?_ (by first|omega|simp only [nx];omega) _)
  · (repeat first | assumption | exact Bx.new _ _ _ | exact Bx.newAt (by first|omega|simp only [nx];omega) | refine Bx.put (by first|omega|simp only [nx];omega) _ _ | refine Bx.alloc ?_ _ | refine Bx.set ?_ (by first|omega|simp only [nx];omega) _)
  · (repeat first | assumption | exact Bx.new _ _ _ | exact Bx.newAt (by first|omega|simp only [nx];omega) | refine Bx.put (by first|omega|simp only [nx];omega) _ _ | refine Bx.alloc ?_ _ | refine Bx.set ?_ (by first|omega|simp only [nx];omega) _)
  rintro H1 ⟨g1, b1, c1⟩
  (repeat first|apply V.seq|apply V.block|apply V.scope|apply V.skip|apply V.close)
  refine V.line' (by simp +contextual (disch := first|omega|simp only [nx];omega) only [D4,reduceNegSucc,reduceEq,reduceLeDiff,reduceSub,reduceAdd,D5,hF,hA,↓reduceIte,reduceEqDiff,reduceLT]; with_reducible rfl) ?_
  (repeat first|apply V.seq|apply V.block|apply V.scope|apply V.skip|apply V.close)
  refine V.line' (by simp +contextual (disch := first|omega|simp only [nx];omega) only [D4,reduceNegSucc,reduceEq,reduceLeDiff,reduceSub,reduceAdd,D5,hF,hA,↓reduceIte,reduceEqDiff,reduceLT]; with_reducible rfl) ?_
  (repeat first|apply V.seq|apply V.block|apply V.scope|apply V.skip|apply V.close)
  refine V.loop (fun r t m X => ∃ (k : Nat), k ≤ n ∧ r = n - k ∧ m = [] ∧ Grow H1 X ∧ Full 28 t ∧ Kn [(1, I u), (3, I z), (4, PT H.next), (8, PT (H.next + 1)), (9, I ((psum a u c f k : Nat) : Int)), (10, I ((f + k : Nat) : Int))] t) n ?_ ?_
  · exact ⟨0, by omega, by omega, rfl, .refl _, (by intro i; simp only [full_st, hF]), (by simp only [Kn, D5,hF,hA,↓reduceIte,reduceEqDiff,reduceLT, and_self, and_true, true_and]; try (repeat' constructor))⟩
  clear hF hA
  rintro r t m X ⟨k, hk, rfl, rfl, hg, hF, hA⟩
  simp only [Kn, and_true] at hA
  have bx := b1.grow hg
  (repeat first|apply V.seq|apply V.block|apply V.scope|apply V.skip|apply V.close)
  refine V.line' (by simp +contextual (disch := first|omega|simp only [nx];omega) only [D4,reduceNegSucc,reduceEq,reduceLeDiff,reduceSub,reduceAdd,D5,hF,hA,↓reduceIte,reduceEqDiff,reduceLT]; with_reducible rfl) ?_
  (repeat first|apply V.seq|apply V.block|apply V.scope|apply V.skip|apply V.close)
  refine V.condP (by simp only [D6,D5,hF,hA,↓reduceIte,reduceEqDiff,reduceLT]; rfl) (fun hlt => ?_) (fun hlt => ?_)
  · have hk' : k < n := by omega
    have e1 : ((f + k : Nat) : Int) + 1 = ((f + (k + 1) : Nat) : Int) := by omega
    have e2 : ((psum a u c f k : Nat) : Int) + ((part a u c (f + k) : Nat) : Int) = ((psum a u c f (k + 1) : Nat) : Int) := by rw [psum_s]; push_cast; rfl
    have q1 := psum_le (a := a) (u := u) (c := c) (f := f) (n := k + 1) (by omega)
    have q2 := ch_bound (n := a + u) c hau
    (repeat first|apply V.seq|apply V.block|apply V.scope|apply V.skip|apply V.close)
    refine V.run ?_
    refine VI.steps' 4 (by simp +contextual (disch := first|omega|simp only [nx];omega) only [D4,reduceNegSucc,reduceEq,reduceLeDiff,reduceSub,reduceAdd,D5,hF,hA,↓reduceIte,reduceEqDiff,reduceLT, bx.2]; with_reducible rfl) ?_
    simp only [ds]
    refine VI.callA rfl (f62_ok (f := f + k) ha hu hau (by omega) hc _) (by simp only [D6,D5,hF,hA,↓reduceIte,reduceEqDiff,reduceLT]; try rfl) (fun H2 g2 => ?_)
    refine VI.line' (by simp +contextual (disch := first|omega|simp only [nx];omega) only [D4,reduceNegSucc,reduceEq,reduceLeDiff,reduceSub,reduceAdd,D5,hF,hA,↓reduceIte,reduceEqDiff,reduceLT, e2]; with_reducible rfl) ?_
    (repeat first|apply V.seq|apply V.block|apply V.scope|apply V.skip|apply V.close)
    refine V.line' (by simp +contextual (disch := first|omega|simp only [nx];omega) only [D4,reduceNegSucc,reduceEq,reduceLeDiff,reduceSub,reduceAdd,D5,hF,hA,↓reduceIte,reduceEqDiff,reduceLT, e1]; with_reducible rfl) ?_
    refine V.nil (Or.inl ⟨rfl, n - (k + 1), by omega, ?_⟩)
    exact ⟨k + 1, hk', rfl, rfl, hg.trans g2, (by intro i; simp only [full_st, hF]), (by simp only [Kn, D5,hF,hA,↓reduceIte,reduceEqDiff,reduceLT, and_self, and_true, true_and]; try (repeat' constructor))⟩
  · obtain rfl : k = n := by omega
    have cx := c1.grow hg
    refine V.exit ?_
    (repeat first | refine V.pass ?_ | refine V.here ?_ | refine V.out (by decide) ?_)
    refine V.nil (Or.inr ⟨by simp, ?_⟩)
    (repeat first | refine V.pass ?_ | refine V.here ?_ | refine V.out (by decide) ?_)
    (repeat first|apply V.seq|apply V.block|apply V.scope|apply V.skip|apply V.close)
    refine V.run ?_
    refine VI.steps' 3 (by simp +contextual (disch := first|omega|simp only [nx];omega) only [D4,reduceNegSucc,reduceEq,reduceLeDiff,reduceSub,reduceAdd,D5,hF,hA,↓reduceIte,reduceEqDiff,reduceLT, bx.2]; with_reducible rfl) ?_
    simp only [ds]
    refine VI.callA rfl (f49_ok hau hc _) (by simp only [D6,D5,hF,hA,↓reduceIte,reduceEqDiff,reduceLT]; try rfl) (fun H2 g2 => ?_)
    have c2 := cx.grow g2
    have hc2 := c2.1
    have gg := (g1.trans hg).trans g2
    refine VI.line' (by simp +contextual (disch := first|omega|simp only [nx];omega) only [D4,reduceNegSucc,reduceEq,reduceLeDiff,reduceSub,reduceAdd,D5,hF,hA,↓reduceIte,reduceEqDiff,reduceLT, c2.2]; with_reducible rfl) ?_
    (repeat first|apply V.seq|apply V.block|apply V.scope|apply V.skip|apply V.close)
    refine V.ret (V.rets rfl (Lv.retG (by simp +contextual (disch := first|omega|simp only [nx];omega) only [D1, cells_alloc_at, cells_alloc_ne, cells_set_at, cells_set_ne, yres, yres1, yresL, reduceLeDiff, reduceSub, reduceAdd, D5,hF,hA,↓reduceIte,reduceEqDiff,reduceLT, c2.2]; rfl) ?_ ?_))
    · (repeat first | assumption | exact Grow.refl _ | refine Grow.alloc ?_ _ | refine Grow.set ?_ (by first|omega|simp only [nx];omega) _)
    · rfl
theorem f79_ok (a b c d : Int) (w : Value) (H : Heap) : Gives Try.prog 79 [.agg ⟨[I a, I b, I c, I d, w]⟩] H (.agg ⟨A2 0 b⟩) := by
  refine F.entryL rfl dg79 do79 de79 rfl (by kernel_rfl) ?_
  simp only [sets]
  refine V.re [(0, .agg ⟨[I a, I b, I c, I d, w]⟩)] (N := 7) (by intro i; simp only [full_st, Full.mk]) (by simp only [Kn, gt_st, full_st, Full.mk, ↓reduceIte, reduceEqDiff, reduceLT, decide_true, and_self]) ?_
  intro t hF hA
  simp only [Kn, and_true] at hA
  (repeat first|apply V.seq|apply V.block|apply V.scope|apply V.skip|apply V.close)
  refine V.line' (by simp +contextual (disch := first|omega|simp only [nx];omega) only [D4,reduceNegSucc,reduceEq,reduceLeDiff,reduceSub,reduceAdd,D5,hF,hA,↓reduceIte,reduceEqDiff,reduceLT]; with_reducible rfl) ?_
  (repeat first|apply V.seq|apply V.block|apply V.scope|apply V.skip|apply V.close)
  refine V.line' (by simp +contextual (disch := first|omega|simp only [nx];omega) only [D4,reduceNegSucc,reduceEq,reduceLeDiff,reduceSub,reduceAdd,D5,hF,hA,↓reduceIte,reduceEqDiff,reduceLT]; with_reducible rfl) ?_
  (repeat first|apply V.seq|apply V.block|apply V.scope|apply V.skip|apply V.close)
  refine V.ret (V.rets rfl (Lv.retG (by simp +contextual (disch := first|omega|simp only [nx];omega) only [D1, cells_alloc_at, cells_alloc_ne, cells_set_at, cells_set_ne, yres, yres1, yresL, reduceLeDiff, reduceSub, reduceAdd, D5,hF,hA,↓reduceIte,reduceEqDiff,reduceLT]; rfl) ?_ ?_))
  · (repeat first | assumption | exact Grow.refl _ | refine Grow.alloc ?_ _ | refine Grow.set ?_ (by first|omega|simp only [nx];omega) _)
  · rfl
def rd (a b c d u : Int) : Int := if ¬ ar a b c d then 1 else if ¬ (0 ≤ u ∧ u ≤ b) then 2 else 0
theorem f57_ok {a b c d u : Nat} (hu : a + u ≤ 50) (hc : c ≤ a) (hd : d ≤ c) {H : Heap} {i j x : Nat} (hw : Wy H i j x) :
    F Try.prog 57 ⟨[.agg ⟨[I a, I b, I c, I d, cw i j]⟩, I u]⟩ H (fun v H' => v = .agg ⟨fr (part a u c d) (ch (a + u) c)⟩ ∧ GrowX x H H' ∧ Wy H' i j x) := by
  have hi := hw.1.1
  have hj := hw.2.1.1
  obtain ⟨es, hm, _⟩ := hw.2.2.2.2
  have hx := hm.1
  clear hm
  have hcb := ch_bound (n := a + u) c (by omega)
  have hp := ch_pos (n := a + u) (k := c) (by omega)
  have hpl := part_le (a := a) (u := u) hd
  refine F.entryL rfl dg57 do57 de57 rfl (by kernel_rfl) ?_
  simp only [sets]
  refine V.re [(0, .agg ⟨[I a, I b, I c, I d, cw i j]⟩), (1, I u)] (N := 22) (by intro i; simp only [full_st, Full.mk]) (by simp only [Kn, gt_st, full_st, Full.mk, ↓reduceIte, reduceEqDiff, reduceLT, decide_true, and_self]) ?_
  intro t hF hA
  simp only [Kn, and_true] at hA
  (repeat first|apply V.seq|apply V.block|apply V.scope|apply V.skip|apply V.close)
  refine V.line' (by simp +contextual (disch := first|omega|simp only [nx];omega) only [D4,reduceNegSucc,reduceEq,reduceLeDiff,reduceSub,reduceAdd,D5,hF,hA,↓reduceIte,reduceEqDiff,reduceLT]; with_reducible rfl) ?_
  refine V.heap (fun X => Grow H X ∧ Bx X H.next [I a, I b, I c, I d, cw i j] 92 ∧ Bx X (H.next + 1) (A2 0 0) 36) ⟨?_, ?_, ?_⟩ ?_
  · (repeat first | assumption | exact Grow.refl _ | refine Grow.alloc ?_ _ | refine Grow.set ?_ (by first|omega|simp only [nx];omega) _)
  · (repeat first | assumption | exact Bx.new _ _ _ | exact Bx.newAt (by first|omega|simp only [nx];omega) | refine Bx.put (by first|omega|simp only [nx];omega) _ _ | refine Bx.alloc ?_ _ | refine Bx.set ?_ (by first|omega|simp only [nx];omega) _)
  · (repeat first | assumption | exact Bx.new _ _ _ | exact Bx.newAt (by first|omega|simp only [nx];omega) | refine Bx.put (by first|omega|simp only [nx];omega) _ _ | refine Bx.alloc ?_ _ | refine Bx.set ?_ (by first|omega|simp only [nx];omega) _)
  rintro H1 ⟨g1, b1, c1⟩
  have w1 := hw.grow g1
  have nb1 := b1.1
  have nc1 := c1.1
  (repeat first|apply V.seq|apply V.block|apply V.scope|apply V.skip|apply V.close)
  refine V.run ?_
  refine VI.steps' 2 (by simp +contextual (disch := first|omega|simp only [nx];omega) only [D4,reduceNegSucc,reduceEq,reduceLeDiff,reduceSub,reduceAdd,D5,hF,hA,↓reduceIte,reduceEqDiff,reduceLT, b1.2]; with_reducible rfl) ?_
  simp only [ds]
  refine VI.callR (by simp only [D6,D5,hF,hA,↓reduceIte,reduceEqDiff,reduceLT]; try rfl) (f61_ok (b := b) (d := d) hu hc w1) (by simp only [D6,D5,hF,hA,↓reduceIte,reduceEqDiff,reduceLT]; try rfl) (fun v2 H2 ⟨p, q2, hp2, g2, w2, s2⟩ => ?_)
  subst q2
  have b2 := b1.growX g2 (by omega)
  have c2 := c1.growX g2 (by omega)
  refine VI.line' (by simp +contextual (disch := first|omega|simp only [nx];omega) only [D4,reduceNegSucc,reduceEq,reduceLeDiff,reduceSub,reduceAdd,D5,hF,hA,↓reduceIte,reduceEqDiff,reduceLT]; with_reducible rfl) ?_
  (repeat first|apply V.seq|apply V.block|apply V.scope|apply V.skip|apply V.close)
  have hix := idx_arr (len := 51) (o := 4) (i := p) (k := d) (kd := .i64) (by omega)
  have hs := SPk_s (a := (a : Int)) (b := b) (c := c) (d := d) (z := (ch (a + u) c : Nat)) (q := fun f => I (if f < c + 1 then ((part a u c f : Nat) : Int) else 0)) (f := d) (by omega)
  have hdc : d < c + 1 := by omega
  refine V.draw ?_
  refine VD.dins 9 (by simp +contextual (disch := first|omega|simp only [nx];omega) only [D4,reduceNegSucc,reduceEq,reduceLeDiff,reduceSub,reduceAdd,D5,hF,hA,↓reduceIte,reduceEqDiff,reduceLT, b2.2, s2.2, hix, hs, SPk_all, hdc]; with_reducible rfl) ?_
  simp only [ds]
  refine VD.dins 3 (by simp +contextual (disch := first|omega|simp only [nx];omega) only [D4,reduceNegSucc,reduceEq,reduceLeDiff,reduceSub,reduceAdd,D5,hF,hA,↓reduceIte,reduceEqDiff,reduceLT, b2.2, s2.2, hix, hs, SPk_all, hdc]; with_reducible rfl) ?_
  simp only [ds]
  refine VD.callA (by simp only [D6,D5,hF,hA,↓reduceIte,reduceEqDiff,reduceLT]; try rfl) (f80_ok (part a u c d) (ch (a + u) c) (by omega) hp (by omega) _) (by simp only [D6,D5,hF,hA,↓reduceIte,reduceEqDiff,reduceLT]; try rfl) (fun H3 g3 => ?_)
  have c3 := c2.grow g3
  have hc3 := c3.1
  refine VD.lineD' (by simp +contextual (disch := first|omega|simp only [nx];omega) only [D4,reduceNegSucc,reduceEq,reduceLeDiff,reduceSub,reduceAdd,D5,hF,hA,↓reduceIte,reduceEqDiff,reduceLT, c3.2]; with_reducible rfl) ?_ ?_ rfl ?_
  · have n3 := g3.1
    simp only [monoG, List.cons_append, List.nil_append, Heap.next_set, Heap.next_alloc, Nat.le_refl, true_and, and_true] <;> omega
  · simp only [dcAll, dcOk, wantD, List.cons_append, List.nil_append, true_and, and_true]
  (repeat first|apply V.seq|apply V.block|apply V.scope|apply V.skip|apply V.close)
  refine V.ret (V.rets rfl (Lv.retF (by simp +contextual (disch := first|omega|simp only [nx];omega) only [D1, cells_alloc_at, cells_alloc_ne, cells_set_at, cells_set_ne, yres, yres1, yresL, reduceLeDiff, reduceSub, reduceAdd, D5,hF,hA,↓reduceIte,reduceEqDiff,reduceLT, cells_set]; rfl) ?_))
  have gs : GrowX (H.next + 1) H3 (H3.set (H.next + 1) (.cells ⟨fr (part a u c d) (ch (a + u) c)⟩ 36 true)) := ((Grow.refl H3).x _).set _
  refine ⟨rfl, ?_, (w2.grow g3).growS (U := (· = H.next + 1)) (GrowS.x gs rfl) (by omega) (by omega) (by omega)⟩
  have t1 : GrowX x H H3 := ((g1.x x).trans g2).trans (g3.x x)
  exact t1.set' (by omega) _
end Go.Xe.TMX
