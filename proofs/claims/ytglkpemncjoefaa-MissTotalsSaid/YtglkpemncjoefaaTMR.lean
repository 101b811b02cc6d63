/- What the functions of the layer miss come to: chances. Conditions: none. -/
import Derived.Test.YtglkpemncjoefaaTMQ
-- MOD TM
namespace Go.Xe.TMX
open Go Go.Xe Go.Proofs Go.Xe.Mth
open Nat renaming reduceLeDiff → qA, reduceSub → qB, reduceAdd → qC, reduceEqDiff → qD, reduceLT → qE
open Int renaming reduceNegSucc → qF, reduceEq → qG
open Go.Xe.V renaming seq → sA, block → sB, scope → sC, skip → sD, close → sE
open Go.Xe renaming pth → P
set_option maxRecDepth 100000
set_option maxHeartbeats 3200000
set_option linter.unusedSimpArgs false
noncomputable def d62 : FCode := (.seq (.run (.go (.box 23 (.tmp (P 0))) (P 3)::
.go (.move (.con (.int .i64 (.ofNat 0)))) (P 6)::
[])) (.seq (.draw 12 (.go (.fieldAddr 0 (.tmp (P 3))) (P 7)::
.go (.load1 (.tmp (P 7))) (P 8)::
.go (.move (.tmp (P 2))) (P 9)::
.go (.call (.con (.func (.func 25) ⟨[]⟩ ⟨[]⟩)) [(.tmp (P 8)),(.tmp (P 9))]) (P 10)::
.go (.move (.tmp (P 1))) (P 11)::
.go (.fieldAddr 2 (.tmp (P 3))) (P 12)::
.go (.load1 (.tmp (P 12))) (P 13)::
.go (.move (.tmp (P 2))) (P 14)::
.go (.bin .sub 3 (.tmp (P 13)) (.tmp (P 14))) (P 15)::
.go (.call (.con (.func (.func 25) ⟨[]⟩ ⟨[]⟩)) [(.tmp (P 11)),(.tmp (P 15))]) (P 16)::
.go (.bin .mul 3 (.tmp (P 10)) (.tmp (P 16))) (P 17)::
.go (.move (.tmp (P 17))) (P 6)::
[]) [.ok,.ok,.ok,.ok,.ok,.ok,.rd none (.load1 (.tmp (P 12))) (some (P 13)) [0],.ok,.ok,.ok,.ok,.ok]) .ret))
theorem de62 : @compF Try.prog (Gl.none Try.prog) Try.f62 3 = .mk d62 (mkTT 18) [(P 0),(P 1),(P 2)] [.tmp (P 6)] := by kernel_rfl
theorem dg62 : Try.prog.funcs[62]? = some Try.f62 := Try.func62
theorem do62 : okF Try.prog Try.f62 = true := by kernel_rfl
noncomputable def d49 : FCode := (.seq (.run (.go (.box 23 (.tmp (P 0))) (P 2)::
.go (.move (.con (.int .i64 (.ofNat 0)))) (P 4)::
[])) (.seq (.run (.go (.fieldAddr 0 (.tmp (P 2))) (P 5)::
.go (.load1 (.tmp (P 5))) (P 6)::
.go (.move (.tmp (P 1))) (P 7)::
.go (.bin .add 3 (.tmp (P 6)) (.tmp (P 7))) (P 8)::
.go (.fieldAddr 2 (.tmp (P 2))) (P 9)::
.go (.load1 (.tmp (P 9))) (P 10)::
.go (.call (.con (.func (.func 25) ⟨[]⟩ ⟨[]⟩)) [(.tmp (P 8)),(.tmp (P 10))]) (P 11)::
.go (.move (.tmp (P 11))) (P 4)::
[])) .ret))
theorem de49 : @compF Try.prog (Gl.none Try.prog) Try.f49 2 = .mk d49 (mkTT 12) [(P 0),(P 1)] [.tmp (P 4)] := by kernel_rfl
theorem dg49 : Try.prog.funcs[49]? = some Try.f49 := Try.func49
theorem do49 : okF Try.prog Try.f49 = true := by kernel_rfl
noncomputable def d30 : FCode := (.seq (.run (.go (.box 23 (.tmp (P 0))) (P 4)::
.go (.alloc 41 [(.int .i64 (.ofNat 0)),(.int .i64 (.ofNat 0))]) (P 8)::
[])) (.seq (.run (.go (.move (.con (.int .i64 (.ofNat 0)))) (P 9)::
[])) (.seq (.seq (.run (.go (.move (.tmp (P 2))) (P 11)::
.go (.move (.tmp (P 11))) (P 10)::
[])) (.block 0 (.loop (.seq (.seq (.run (.go (.move (.tmp (P 10))) (P 12)::
.go (.move (.tmp (P 3))) (P 13)::
.go (.bin .leq 3 (.tmp (P 12)) (.tmp (P 13))) (P 14)::
[])) (.cond (.tmp (P 14)) .skip (.exit 0))) (.seq (.block 1 (.run (.go (.move (.tmp (P 9))) (P 17)::
.go (.loadN 4 (.tmp (P 4))) (P 18)::
.go (.move (.tmp (P 1))) (P 19)::
.go (.move (.tmp (P 10))) (P 20)::
.go (.call (.con (.func (.func 62) ⟨[]⟩ ⟨[]⟩)) [(.tmp (P 18)),(.tmp (P 19)),(.tmp (P 20))]) (P 21)::
.go (.bin .add 3 (.tmp (P 17)) (.tmp (P 21))) (P 22)::
.go (.move (.tmp (P 22))) (P 9)::
[]))) (.run (.go (.move (.tmp (P 10))) (P 15)::
.go (.bin .add 3 (.tmp (P 15)) (.con (.int .i64 (.ofNat 1)))) (P 16)::
.go (.move (.tmp (P 16))) (P 10)::
[]))))))) (.seq (.run (.go (.move (.tmp (P 9))) (P 23)::
.go (.loadN 4 (.tmp (P 4))) (P 24)::
.go (.move (.tmp (P 1))) (P 25)::
.go (.call (.con (.func (.func 49) ⟨[]⟩ ⟨[]⟩)) [(.tmp (P 24)),(.tmp (P 25))]) (P 26)::
.go (.build [(.int .i64 (.ofNat 0)),(.int .i64 (.ofNat 0))] [(0,1,(.tmp (P 23))),(1,1,(.tmp (P 26)))]) (P 27)::
.un (.store 2 (.tmp (P 8)) (.tmp (P 27)))::
[])) .ret))))
theorem de30 : @compF Try.prog (Gl.none Try.prog) Try.f30 4 = .mk d30 (mkTT 28) [(P 0),(P 1),(P 2),(P 3)] [.many (P 8) 2] := by kernel_rfl
theorem dg30 : Try.prog.funcs[30]? = some Try.f30 := Try.func30
theorem do30 : okF Try.prog Try.f30 = true := by kernel_rfl
noncomputable def d79 : FCode := (.seq (.run (.go (.box 92 (.tmp (P 0))) (P 1)::
.go (.alloc 53 [(.int .i64 (.ofNat 0)),(.int .i64 (.ofNat 0))]) (P 2)::
[])) (.seq (.run (.go (.fieldAddr 0 (.tmp (P 1))) (P 3)::
.go (.fieldAddr 1 (.tmp (P 3))) (P 4)::
.go (.load1 (.tmp (P 4))) (P 5)::
.go (.build [(.int .i64 (.ofNat 0)),(.int .i64 (.ofNat 0))] [(0,1,(.con (.int .i64 (.ofNat 0)))),(1,1,(.tmp (P 5)))]) (P 6)::
.un (.store 2 (.tmp (P 2)) (.tmp (P 6)))::
[])) .ret))
theorem de79 : @compF Try.prog (Gl.none Try.prog) Try.f79 1 = .mk d79 (mkTT 7) [(P 0)] [.many (P 2) 2] := by kernel_rfl
theorem dg79 : Try.prog.funcs[79]? = some Try.f79 := Try.func79
theorem do79 : okF Try.prog Try.f79 = true := by kernel_rfl
noncomputable def d81 : FCode := (.seq (.run (.go (.move (.con (.int .i64 (.ofNat 0)))) (P 2)::
[])) (.seq (.draw 17 (.go (.move (.tmp (P 0))) (P 3)::
.go (.nilCheck (.tmp (P 3))) (P 4)::
.go (.fieldAddr 4 (.tmp (P 4))) (P 5)::
.go (.move (.tmp (P 0))) (P 6)::
.go (.nilCheck (.tmp (P 6))) (P 7)::
.go (.fieldAddr 0 (.tmp (P 7))) (P 8)::
.go (.fieldAddr 3 (.tmp (P 8))) (P 9)::
.go (.load1 (.tmp (P 9))) (P 10)::
.go (.move (.tmp (P 0))) (P 11)::
.go (.nilCheck (.tmp (P 11))) (P 12)::
.go (.fieldAddr 0 (.tmp (P 12))) (P 13)::
.go (.fieldAddr 2 (.tmp (P 13))) (P 14)::
.go (.load1 (.tmp (P 14))) (P 15)::
.go (.bin .add 3 (.tmp (P 15)) (.con (.int .i64 (.ofNat 1)))) (P 16)::
.go (.sliceSlow 125 (.tmp (P 5)) (some (.tmp (P 10))) (some (.tmp (P 16)))) (P 17)::
.go (.call (.con (.func (.func 86) ⟨[]⟩ ⟨[]⟩)) [(.tmp (P 17))]) (P 18)::
.go (.move (.tmp (P 18))) (P 2)::
[]) [.ok,.ok,.ok,.ok,.ok,.ok,.ok,.ok,.ok,.ok,.ok,.ok,.ok,.ok,.ok,.ok,.ok]) .ret))
theorem de81 : @compF Try.prog (Gl.none Try.prog) Try.f81 1 = .mk d81 (mkTT 19) [(P 0)] [.tmp (P 2)] := by kernel_rfl
theorem dg81 : Try.prog.funcs[81]? = some Try.f81 := Try.func81
theorem do81 : okF Try.prog Try.f81 = true := by kernel_rfl
noncomputable def d82 : FCode := (.seq (.run (.go (.move (.con (.int .i64 (.ofNat 0)))) (P 2)::
[])) (.seq (.draw 12 (.go (.move (.tmp (P 0))) (P 3)::
.go (.nilCheck (.tmp (P 3))) (P 4)::
.go (.fieldAddr 4 (.tmp (P 4))) (P 5)::
.go (.move (.tmp (P 0))) (P 6)::
.go (.nilCheck (.tmp (P 6))) (P 7)::
.go (.fieldAddr 0 (.tmp (P 7))) (P 8)::
.go (.fieldAddr 3 (.tmp (P 8))) (P 9)::
.go (.load1 (.tmp (P 9))) (P 10)::
.go (.bin .add 3 (.tmp (P 10)) (.con (.int .i64 (.ofNat 1)))) (P 11)::
.go (.sliceSlow 125 (.tmp (P 5)) none (some (.tmp (P 11)))) (P 12)::
.go (.call (.con (.func (.func 86) ⟨[]⟩ ⟨[]⟩)) [(.tmp (P 12))]) (P 13)::
.go (.move (.tmp (P 13))) (P 2)::
[]) [.ok,.ok,.ok,.ok,.ok,.ok,.ok,.ok,.ok,.ok,.ok,.ok]) .ret))
theorem de82 : @compF Try.prog (Gl.none Try.prog) Try.f82 1 = .mk d82 (mkTT 14) [(P 0)] [.tmp (P 2)] := by kernel_rfl
theorem dg82 : Try.prog.funcs[82]? = some Try.f82 := Try.func82
theorem do82 : okF Try.prog Try.f82 = true := by kernel_rfl
noncomputable def d58 : FCode := (.seq (.run (.go (.alloc 98 [.nilFunc]) (P 0)::
[])) (.seq (.run (.go (.build [.nilFunc] [(0,1,(.con (.func (.func 81) ⟨[]⟩ ⟨[]⟩)))]) (P 1)::
.un (.store 1 (.tmp (P 0)) (.tmp (P 1)))::
[])) .ret))
theorem de58 : @compF Try.prog (Gl.none Try.prog) Try.f58 0 = .mk d58 (mkTT 2) [] [.many (P 0) 1] := by kernel_rfl
theorem dg58 : Try.prog.funcs[58]? = some Try.f58 := Try.func58
theorem do58 : okF Try.prog Try.f58 = true := by kernel_rfl
noncomputable def d59 : FCode := (.seq (.run (.go (.alloc 98 [.nilFunc]) (P 0)::
[])) (.seq (.run (.go (.build [.nilFunc] [(0,1,(.con (.func (.func 82) ⟨[]⟩ ⟨[]⟩)))]) (P 1)::
.un (.store 1 (.tmp (P 0)) (.tmp (P 1)))::
[])) .ret))
theorem de59 : @compF Try.prog (Gl.none Try.prog) Try.f59 0 = .mk d59 (mkTT 2) [] [.many (P 0) 1] := by kernel_rfl
theorem dg59 : Try.prog.funcs[59]? = some Try.f59 := Try.func59
theorem do59 : okF Try.prog Try.f59 = true := by kernel_rfl
noncomputable def d60 : FCode := (.seq (.run (.go (.box 98 (.tmp (P 0))) (P 2)::
.go (.alloc 36 [(.int .i64 (.ofNat 0)),(.int .i64 (.ofNat 0))]) (P 4)::
[])) (.seq (.draw 10 (.go (.fieldAddr 0 (.tmp (P 2))) (P 5)::
.go (.load1 (.tmp (P 5))) (P 6)::
.go (.move (.tmp (P 1))) (P 7)::
.go (.call (.tmp (P 6)) [(.tmp (P 7))]) (P 8)::
.go (.move (.tmp (P 1))) (P 9)::
.go (.nilCheck (.tmp (P 9))) (P 10)::
.go (.fieldAddr 55 (.tmp (P 10))) (P 11)::
.go (.load1 (.tmp (P 11))) (P 12)::
.go (.call (.con (.func (.func 80) ⟨[]⟩ ⟨[]⟩)) [(.tmp (P 8)),(.tmp (P 12))]) (P 13)::
.un (.store 2 (.tmp (P 4)) (.tmp (P 13)))::
[]) [.ok,.ok,.ok,.ok,.ok,.ok,.ok,.rd none (.load1 (.tmp (P 11))) (some (P 12)) [0],.ok,.ok]) .ret))
theorem de60 : @compF Try.prog (Gl.none Try.prog) Try.f60 2 = .mk d60 (mkTT 14) [(P 0),(P 1)] [.many (P 4) 2] := by kernel_rfl
theorem dg60 : Try.prog.funcs[60]? = some Try.f60 := Try.func60
theorem do60 : okF Try.prog Try.f60 = true := by kernel_rfl
theorem sm_shift (p : Nat → Nat) (f : Nat) : ∀ n, sm p (f + n) = sm p f + sm (fun k => p (f + k)) n
  | 0 => rfl
  | n + 1 => by
    rw [show f + (n + 1) = f + n + 1 by omega, sm_s, sm_shift p f n, sm_s]; omega
def psum (a u c f n : Nat) : Nat := sm (fun k => part a u c (f + k)) n
theorem psum_le {a u c f n : Nat} (h : f + n ≤ c + 1) : psum a u c f n ≤ ch (a + u) c := by
  have h1 : sm (fun f => ch a f * ch u (c - f)) (f + n) = sm (fun f => ch a f * ch u (c - f)) f + psum a u c f n := sm_shift (fun f => ch a f * ch u (c - f)) f n
  have h2 := vander a u c
  have h3 := sm_le (p := fun f => ch a f * ch u (c - f)) h
  rw [h2] at h3
  omega
theorem psum_s (a u c f n : Nat) : psum a u c f (n + 1) = psum a u c f n + part a u c (f + n) := rfl
theorem f62_ok {a b c d u f : Nat} (ha : a ≤ 60) (hu : u ≤ 60) (hau : a + u ≤ 60) (hf : f ≤ c) (hc : c ≤ 60) (H : Heap) : Gives Try.prog 62 [.agg ⟨A4 a b c d⟩, I u, I f] H (I (part a u c f : Nat)) := by
  have e1 : (c : Int) - f = ((c - f : Nat) : Int) := by omega
  have hpl := part_le (a := a) (u := u) hf
  have hcb := ch_bound (n := a + u) c hau
  have ep : ((ch a f : Nat) : Int) * ((ch u (c - f) : Nat) : Int) = ((part a u c f : Nat) : Int) := by unfold part; push_cast; rfl
  refine F.entryL rfl dg62 do62 de62 rfl (by kernel_rfl) ?_
  simp only[sets]
  refine V.re [(0, .agg ⟨A4 a b c d⟩), (1, I u), (2, I f)] (N := 18) (by intro i; simp only[full_st, Full.mk]) (by simp only[Kn, gt_st, full_st, Full.mk, ↓reduceIte, qD, qE, decide_true, and_self]) ?_
  intro t hF hA
  simp only[Kn, and_true] at hA
  (repeat first|apply sA|apply sB|apply sC|apply sD|apply sE)
  refine V.line' (by simp +contextual (disch := first|omega|simp only[nx];omega) only[D4,qF,qG,qA,qB,qC,D5,hF,hA,↓reduceIte,qD,qE]; with_reducible rfl) ?_
  refine V.heap (fun X => Grow H X ∧ Bx X H.next (A4 a b c d) 23) ⟨?_, ?_⟩ ?_
  · (repeat first | assumption | exact Grow.refl _ | refine Grow.alloc ?_ _ | refine Grow.set ?_ (by first|omega|simp only[nx];omega) _)
  · (repeat first | assumption | exact Bx.new _ _ _ | exact Bx.newAt (by first|omega|simp only[nx];omega) | refine Bx.put (by first|omega|simp only[nx];omega) _ _ | refine Bx.alloc ?_ _ | refine Bx.set ?_ (by first|omega|simp only[nx];omega) _)
  rintro H1 ⟨g1, b1⟩
  (repeat first|apply sA|apply sB|apply sC|apply sD|apply sE)
  refine V.draw ?_
  refine VD.dins 3 (by simp +contextual (disch := first|omega|simp only[nx];omega) only[D4,qF,qG,qA,qB,qC,D5,hF,hA,↓reduceIte,qD,qE, b1.2]; with_reducible rfl) ?_
  simp only[ds]
  refine VD.callA (by simp only[D6,D5,hF,hA,↓reduceIte,qD,qE]; try rfl) (f25_ok a f ha (by omega) _) (by simp only[D6,D5,hF,hA,↓reduceIte,qD,qE]; try rfl) (fun H2 g2 => ?_)
  have b2 := b1.grow g2
  refine VD.dins 5 (by simp +contextual (disch := first|omega|simp only[nx];omega) only[D4,qF,qG,qA,qB,qC,D5,hF,hA,↓reduceIte,qD,qE, b2.2, e1]; with_reducible rfl) ?_
  simp only[ds]
  refine VD.callA (by simp only[D6,D5,hF,hA,↓reduceIte,qD,qE]; try rfl) (f25_ok u (c - f) hu (by omega) _) (by simp only[D6,D5,hF,hA,↓reduceIte,qD,qE]; try rfl) (fun H3 g3 => ?_)
  have b3 := b2.grow g3
  refine VD.lineD' (by simp +contextual (disch := first|omega|simp only[nx];omega) only[D4,qF,qG,qA,qB,qC,D5,hF,hA,↓reduceIte,qD,qE, ep]; with_reducible rfl) ?_ ?_ rfl ?_
  · have n2 := g2.1
    have n3 := g3.1
    simp only[monoG, List.cons_append, List.nil_append, Heap.next_set, Heap.next_alloc, Nat.le_refl, true_and, and_true] <;> omega
  · simp only[dcAll, dcOk, wantD, List.cons_append, List.nil_append, true_and, and_true]
    exact fun _ q hq => by simp only[List.mem_cons, List.not_mem_nil, or_false] at hq; (repeat (rcases hq with rfl | hq; exact ⟨_, _, _, rfl, (by simp +contextual (disch := first|omega|simp only[nx];omega) only[D4,qF,qG,qA,qB,qC,D5,hF,hA,↓reduceIte,qD,qE, b1.2, b2.2, b3.2]; with_reducible rfl), fun p hp => by cases hp; simp only[D5,hF,hA,↓reduceIte,qD,qE]; first | exact vEq_An | (simp [vEq, vEq0, all2]; done) | assumption⟩)); (try (subst hq; exact ⟨_, _, _, rfl, (by simp +contextual (disch := first|omega|simp only[nx];omega) only[D4,qF,qG,qA,qB,qC,D5,hF,hA,↓reduceIte,qD,qE, b1.2, b2.2, b3.2]; with_reducible rfl), fun p hp => by cases hp; simp only[D5,hF,hA,↓reduceIte,qD,qE]; first | exact vEq_An | (simp [vEq, vEq0, all2]; done) | assumption⟩))
  (repeat first|apply sA|apply sB|apply sC|apply sD|apply sE)
  refine V.ret (V.rets rfl (Lv.retG (by simp +contextual (disch := first|omega|simp only[nx];omega) only[D1, cells_alloc_at, cells_alloc_ne, cells_set_at, cells_set_ne, yres, yres1, yresL, qA, qB, qC, D5,hF,hA,↓reduceIte,qD,qE]; rfl) ?_ ?_))
  · exact (g1.trans g2).trans g3
  · rfl
theorem f49_ok {a b c d u : Nat} (hau : a + u ≤ 60) (hc : c ≤ 60) (H : Heap) : Gives Try.prog 49 [.agg ⟨A4 a b c d⟩, I u] H (I (ch (a + u) c : Nat)) := by
  have e1 : (a : Int) + u = ((a + u : Nat) : Int) := rfl
  refine F.entryL rfl dg49 do49 de49 rfl (by kernel_rfl) ?_
  simp only[sets]
  refine V.re [(0, .agg ⟨A4 a b c d⟩), (1, I u)] (N := 12) (by intro i; simp only[full_st, Full.mk]) (by simp only[Kn, gt_st, full_st, Full.mk, ↓reduceIte, qD, qE, decide_true, and_self]) ?_
  intro t hF hA
  simp only[Kn, and_true] at hA
  (repeat first|apply sA|apply sB|apply sC|apply sD|apply sE)
  refine V.line' (by simp +contextual (disch := first|omega|simp only[nx];omega) only[D4,qF,qG,qA,qB,qC,D5,hF,hA,↓reduceIte,qD,qE]; with_reducible rfl) ?_
  (repeat first|apply sA|apply sB|apply sC|apply sD|apply sE)
  refine V.run ?_
  refine VI.steps' 6 (by simp +contextual (disch := first|omega|simp only[nx];omega) only[D4,qF,qG,qA,qB,qC,D5,hF,hA,↓reduceIte,qD,qE, e1]; with_reducible rfl) ?_
  simp only[ds]
  refine VI.callA rfl (f25_ok (a + u) c hau hc _) (by simp only[D6,D5,hF,hA,↓reduceIte,qD,qE]; try rfl) (fun H2 g2 => ?_)
  refine VI.line' (by simp +contextual (disch := first|omega|simp only[nx];omega) only[D4,qF,qG,qA,qB,qC,D5,hF,hA,↓reduceIte,qD,qE]; with_reducible rfl) ?_
  (repeat first|apply sA|apply sB|apply sC|apply sD|apply sE)
  refine V.ret (V.rets rfl (Lv.retG (by simp +contextual (disch := first|omega|simp only[nx];omega) only[D1, cells_alloc_at, cells_alloc_ne, cells_set_at, cells_set_ne, yres, yres1, yresL, qA, qB, qC, D5,hF,hA,↓reduceIte,qD,qE]; rfl) ?_ ?_))
  · exact ((Grow.refl H).alloc _).trans g2
  · rfl
theorem f30_ok {a b c d u f n : Nat} {z : Int} (hz : z = (f : Int) + n - 1) (ha : a ≤ 60) (hu : u ≤ 60) (hau : a + u ≤ 60) (hf : f + n ≤ c + 1) (hc : c ≤ 60) (H : Heap) : Gives Try.prog 30 [.agg ⟨A4 a b c d⟩, I u, I f, I z] H (.agg ⟨A2 (psum a u c f n : Nat) (ch (a + u) c : Nat)⟩) := by
  refine F.entryL rfl dg30 do30 de30 rfl (by kernel_rfl) ?_
  simp only[sets]
  refine V.re [(0, .agg ⟨A4 a b c d⟩), (1, I u), (2, I f), (3, I z)] (N := 28) (by intro i; simp only[full_st, Full.mk]) (by simp only[Kn, gt_st, full_st, Full.mk, ↓reduceIte, qD, qE, decide_true, and_self]) ?_
  intro t hF hA
  simp only[Kn, and_true] at hA
  (repeat first|apply sA|apply sB|apply sC|apply sD|apply sE)
  refine V.line' (by simp +contextual (disch := first|omega|simp only[nx];omega) only[D4,qF,qG,qA,qB,qC,D5,hF,hA,↓reduceIte,qD,qE]; with_reducible rfl) ?_
  refine V.heap (fun X => Grow H X ∧ Bx X H.next (A4 a b c d) 23 ∧ Bx X (H.next + 1) (A2 0 0) 41) ⟨?_, ?_, ?_⟩ ?_
  · (repeat first | assumption | exact Grow.refl _ | refine Grow.alloc ?_ _ | refine Grow.set ?_ (by first|omega|simp only[nx];omega) _)
  · (repeat first | assumption | exact Bx.new _ _ _ | exact Bx.newAt (by first|omega|simp only[nx];omega) | refine Bx.put (by first|omega|simp only[nx];omega) _ _ | refine Bx.alloc ?_ _ | refine Bx.set ?_ (by first|omega|simp only[nx];omega) _)
  · (repeat first | assumption | exact Bx.new _ _ _ | exact Bx.newAt (by first|omega|simp only[nx];omega) | refine Bx.put (by first|omega|simp only[nx];omega) _ _ | refine Bx.alloc ?_ _ | refine Bx.set ?_ (by first|omega|simp only[nx];omega) _)
  rintro H1 ⟨g1, b1, c1⟩
  (repeat first|apply sA|apply sB|apply sC|apply sD|apply sE)
  refine V.line' (by simp +contextual (disch := first|omega|simp only[nx];omega) only[D4,qF,qG,qA,qB,qC,D5,hF,hA,↓reduceIte,qD,qE]; with_reducible rfl) ?_
  (repeat first|apply sA|apply sB|apply sC|apply sD|apply sE)
  refine V.line' (by simp +contextual (disch := first|omega|simp only[nx];omega) only[D4,qF,qG,qA,qB,qC,D5,hF,hA,↓reduceIte,qD,qE]; with_reducible rfl) ?_
  (repeat first|apply sA|apply sB|apply sC|apply sD|apply sE)
  refine V.loop (fun r t m X => ∃ (k : Nat), k ≤ n ∧ r = n - k ∧ m = [] ∧ Grow H1 X ∧ Full 28 t ∧ Kn [(1, I u), (3, I z), (4, PT H.next), (8, PT (H.next + 1)), (9, I ((psum a u c f k : Nat) : Int)), (10, I ((f + k : Nat) : Int))] t) n ?_ ?_
  · exact ⟨0, by omega, by omega, rfl, .refl _, (by intro;simp only[full_st,hF]), (by simp only[Kn, D5,hF,hA,↓reduceIte,qD,qE,and_self,and_true,true_and];try (repeat' constructor))⟩
  clear hF hA
  rintro r t m X ⟨k, hk, rfl, rfl, hg, hF, hA⟩
  simp only[Kn, and_true] at hA
  have bx := b1.grow hg
  (repeat first|apply sA|apply sB|apply sC|apply sD|apply sE)
  refine V.line' (by simp +contextual (disch := first|omega|simp only[nx];omega) only[D4,qF,qG,qA,qB,qC,D5,hF,hA,↓reduceIte,qD,qE]; with_reducible rfl) ?_
  (repeat first|apply sA|apply sB|apply sC|apply sD|apply sE)
  refine V.condP (by simp only[D6,D5,hF,hA,↓reduceIte,qD,qE]; rfl) (fun hlt => ?_) (fun hlt => ?_)
  · have hk' : k < n := by omega
    have e1 : ((f + k : Nat) : Int) + 1 = ((f + (k + 1) : Nat) : Int) := by omega
    have e2 : ((psum a u c f k : Nat) : Int) + ((part a u c (f + k) : Nat) : Int) = ((psum a u c f (k + 1) : Nat) : Int) := by rw [psum_s]; push_cast; rfl
    have q1 := psum_le (a := a) (u := u) (c := c) (f := f) (n := k + 1) (by omega)
    have q2 := ch_bound (n := a + u) c hau
    (repeat first|apply sA|apply sB|apply sC|apply sD|apply sE)
    refine V.run ?_
    refine VI.steps' 4 (by simp +contextual (disch := first|omega|simp only[nx];omega) only[D4,qF,qG,qA,qB,qC,D5,hF,hA,↓reduceIte,qD,qE, bx.2]; with_reducible rfl) ?_
    simp only[ds]
    refine VI.callA rfl (f62_ok (f := f + k) ha hu hau (by omega) hc _) (by simp only[D6,D5,hF,hA,↓reduceIte,qD,qE]; try rfl) (fun H2 g2 => ?_)
    refine VI.line' (by simp +contextual (disch := first|omega|simp only[nx];omega) only[D4,qF,qG,qA,qB,qC,D5,hF,hA,↓reduceIte,qD,qE, e2]; with_reducible rfl) ?_
    (repeat first|apply sA|apply sB|apply sC|apply sD|apply sE)
    refine V.line' (by simp +contextual (disch := first|omega|simp only[nx];omega) only[D4,qF,qG,qA,qB,qC,D5,hF,hA,↓reduceIte,qD,qE, e1]; with_reducible rfl) ?_
    refine V.nil (Or.inl ⟨rfl, n - (k + 1), by omega, ?_⟩)
    exact ⟨k + 1, hk', rfl, rfl, hg.trans g2, (by intro;simp only[full_st,hF]), (by simp only[Kn, D5,hF,hA,↓reduceIte,qD,qE,and_self,and_true,true_and];try (repeat' constructor))⟩
  · obtain rfl : k = n := by omega
    have cx := c1.grow hg
    refine V.exit ?_
    (repeat first | refine V.pass ?_ | refine V.here ?_ | refine V.out (by decide) ?_)
    refine V.nil (Or.inr ⟨by simp, ?_⟩)
    (repeat first | refine V.pass ?_ | refine V.here ?_ | refine V.out (by decide) ?_)
    (repeat first|apply sA|apply sB|apply sC|apply sD|apply sE)
    refine V.run ?_
    refine VI.steps' 3 (by simp +contextual (disch := first|omega|simp only[nx];omega) only[D4,qF,qG,qA,qB,qC,D5,hF,hA,↓reduceIte,qD,qE, bx.2]; with_reducible rfl) ?_
    simp only[ds]
    refine VI.callA rfl (f49_ok hau hc _) (by simp only[D6,D5,hF,hA,↓reduceIte,qD,qE]; try rfl) (fun H2 g2 => ?_)
    have c2 := cx.grow g2
    have hc2 := c2.1
    have gg := (g1.trans hg).trans g2
    refine VI.line' (by simp +contextual (disch := first|omega|simp only[nx];omega) only[D4,qF,qG,qA,qB,qC,D5,hF,hA,↓reduceIte,qD,qE, c2.2]; with_reducible rfl) ?_
    (repeat first|apply sA|apply sB|apply sC|apply sD|apply sE)
    refine V.ret (V.rets rfl (Lv.retG (by simp +contextual (disch := first|omega|simp only[nx];omega) only[D1, cells_alloc_at, cells_alloc_ne, cells_set_at, cells_set_ne, yres, yres1, yresL, qA, qB, qC, D5,hF,hA,↓reduceIte,qD,qE, c2.2]; rfl) ?_ ?_))
    · (repeat first | assumption | exact Grow.refl _ | refine Grow.alloc ?_ _ | refine Grow.set ?_ (by first|omega|simp only[nx];omega) _)
    · rfl
theorem f79_ok (a b c d : Int) (w : Value) (H : Heap) : Gives Try.prog 79 [.agg ⟨[I a, I b, I c, I d, w]⟩] H (.agg ⟨A2 0 b⟩) := by
  refine F.entryL rfl dg79 do79 de79 rfl (by kernel_rfl) ?_
  simp only[sets]
  refine V.re [(0, .agg ⟨[I a, I b, I c, I d, w]⟩)] (N := 7) (by intro i; simp only[full_st, Full.mk]) (by simp only[Kn, gt_st, full_st, Full.mk, ↓reduceIte, qD, qE, decide_true, and_self]) ?_
  intro t hF hA
  simp only[Kn, and_true] at hA
  (repeat first|apply sA|apply sB|apply sC|apply sD|apply sE)
  refine V.line' (by simp +contextual (disch := first|omega|simp only[nx];omega) only[D4,qF,qG,qA,qB,qC,D5,hF,hA,↓reduceIte,qD,qE]; with_reducible rfl) ?_
  (repeat first|apply sA|apply sB|apply sC|apply sD|apply sE)
  refine V.line' (by simp +contextual (disch := first|omega|simp only[nx];omega) only[D4,qF,qG,qA,qB,qC,D5,hF,hA,↓reduceIte,qD,qE]; with_reducible rfl) ?_
  (repeat first|apply sA|apply sB|apply sC|apply sD|apply sE)
  refine V.ret (V.rets rfl (Lv.retG (by simp +contextual (disch := first|omega|simp only[nx];omega) only[D1, cells_alloc_at, cells_alloc_ne, cells_set_at, cells_set_ne, yres, yres1, yresL, qA, qB, qC, D5,hF,hA,↓reduceIte,qD,qE]; rfl) ?_ ?_))
  · (repeat first | assumption | exact Grow.refl _ | refine Grow.alloc ?_ _ | refine Grow.set ?_ (by first|omega|simp only[nx];omega) _)
  · rfl
def rd (a b c d u : Int) : Int := if ¬ ar a b c d then 1 else if ¬ (0 ≤ u ∧ u ≤ b) then 2 else 0
theorem xb {n y : Nat} (h : n ≤ y) (d : Nat) : xbound (some (I n)) d y = some n := by
  unfold xbound
  simp only
  rw [if_pos ⟨by omega, by omega⟩, Int.toNat_natCast]
theorem info3 : ∃ inf, Try.prog.info? 3 = some inf ∧ inf.size = 1 := by
  have c3 : Try.prog.cellsOf 3 = 1 := by kernel_rfl
  cases h3 : Try.prog.info? 3 with
  | none => simp [Program.cellsOf, h3] at c3
  | some inf => exact ⟨inf, rfl, by simpa [Program.cellsOf, h3] using c3⟩
theorem slice_arr {p o l h : Nat} (hl : l ≤ h) (hh : h ≤ 51) (hl2 : l < 51) : xslice Try.prog 125 (.pointer (some ⟨p, o, none⟩)) (some (I l)) (some (I h)) none = some (.slice (some ⟨p, o + l, none⟩) (h - l) (51 - l)) := by
  obtain ⟨inf, h3, hs⟩ := info3
  unfold xslice
  simp only[Try.underlying125, h3, xb hh, xb hl]
  rw [if_neg (by omega), hs, Nat.mul_one]
theorem slice_arr0 {p o h : Nat} (hh : h ≤ 51) : xslice Try.prog 125 (.pointer (some ⟨p, o, none⟩)) none (some (I h)) none = some (.slice (some ⟨p, o, none⟩) h 51) := by
  obtain ⟨inf, h3, hs⟩ := info3
  have e : ∀ y : Nat, xbound none 0 y = some 0 := fun _ => rfl
  unfold xslice
  simp only[Try.underlying125, h3, xb hh, e]
  rw [if_neg (by omega), Nat.zero_mul, Nat.add_zero, Nat.sub_zero, Nat.sub_zero]
abbrev SP (a b c d u : Nat) : List Value := SPk a b c d (ch (a + u) c : Nat) (fun f => I (if f < c + 1 then ((part a u c f : Nat) : Int) else 0))
def psL (a u c f n : Nat) : List Int := (List.range n).map fun k => ((part a u c (f + k) : Nat) : Int)
theorem psL_sum (a u c f : Nat) : ∀ n, (psL a u c f n).sum = ((psum a u c f n : Nat) : Int)
  | 0 => rfl
  | n + 1 => by
    have ih := psL_sum a u c f n
    unfold psL at ih ⊢
    rw [List.range_succ, List.map_append, List.sum_append, ih, psum_s]
    simp
theorem SP_sl {H : Heap} {p a b c d u f n : Nat} (h : Bx H p (SP a b c d u) 127) (hc : c ≤ 50) (hf : f + n ≤ c + 1) : Sl H (.slice (some ⟨p, 4 + f, none⟩) n (51 - f)) ((psL a u c f n).map I) := by
  refine .at h.1 h.2 (by omega) (by simp [psL]) (by rw [arr_size, SPk_len]; omega) ?_
  intro k x hx
  have hk : k < n := by
    have := (List.getElem?_eq_some_iff.1 hx).1
    simpa [psL] using this
  rw [arr_get, show 4 + f + k = 4 + (f + k) by omega, SPk_s (by omega), ← hx, if_pos (by omega)]
  simp [psL, hk]
theorem f81_ok {a b c d u p : Nat} (hau : a + u ≤ 60) (hc : c ≤ 50) (hd : d ≤ c) {H : Heap} (hb : Bx H p (SP a b c d u) 127) : Gives Try.prog 81 [PT p] H (I (psum a u c d (c + 1 - d) : Nat)) := by
  have hs := slice_arr (p := p) (o := 4) (l := d) (h := c + 1) (by omega) (by omega) (by omega)
  have e1 : (c : Int) + 1 = ((c + 1 : Nat) : Int) := rfl
  have hq := psum_le (a := a) (u := u) (c := c) (f := d) (n := c + 1 - d) (by omega)
  have hcb := ch_bound (n := a + u) c hau
  refine F.entryL rfl dg81 do81 de81 rfl (by kernel_rfl) ?_
  simp only[sets]
  refine V.re [(0, PT p)] (N := 19) (by intro i; simp only[full_st, Full.mk]) (by simp only[Kn, gt_st, full_st, Full.mk, ↓reduceIte, qD, qE, decide_true, and_self]) ?_
  intro t hF hA
  simp only[Kn, and_true] at hA
  (repeat first|apply sA|apply sB|apply sC|apply sD|apply sE)
  refine V.line' (by simp +contextual (disch := first|omega|simp only[nx];omega) only[D4,qF,qG,qA,qB,qC,D5,hF,hA,↓reduceIte,qD,qE]; with_reducible rfl) ?_
  (repeat first|apply sA|apply sB|apply sC|apply sD|apply sE)
  refine V.draw ?_
  refine VD.dins 9 (by simp +contextual (disch := first|omega|simp only[nx];omega) only[D4,qF,qG,qA,qB,qC,D5,hF,hA,↓reduceIte,qD,qE, hb.2, SPk_2, SPk_3, e1, hs]; with_reducible rfl) ?_
  simp only[ds]
  refine VD.dins 6 (by simp +contextual (disch := first|omega|simp only[nx];omega) only[D4,qF,qG,qA,qB,qC,D5,hF,hA,↓reduceIte,qD,qE, hb.2, SPk_2, SPk_3, e1, hs]; with_reducible rfl) ?_
  simp only[ds]
  refine VD.callA (by simp only[D6,D5,hF,hA,↓reduceIte,qD,qE]; try rfl) (f86_ok (SP_sl hb hc (n := c + 1 - d) (f := d) (by omega)) (by simp [psL]; omega) (fun x hx => by obtain ⟨q, _, rfl⟩ := List.mem_map.1 hx; exact Int.natCast_nonneg _) (by rw [psL_sum]; omega)) (by simp only[D6,D5,hF,hA,↓reduceIte,qD,qE]; try rfl) (fun H2 g2 => ?_)
  rw [psL_sum]
  refine VD.lineD' (by simp +contextual (disch := first|omega|simp only[nx];omega) only[D4,qF,qG,qA,qB,qC,D5,hF,hA,↓reduceIte,qD,qE]; with_reducible rfl) ?_ ?_ rfl ?_
  · have n2 := g2.1
    simp only[monoG, List.cons_append, List.nil_append, Heap.next_set, Heap.next_alloc, Nat.le_refl, true_and, and_true] <;> omega
  · simp only[dcAll, dcOk, wantD, List.cons_append, List.nil_append, true_and, and_true]
  (repeat first|apply sA|apply sB|apply sC|apply sD|apply sE)
  refine V.ret (V.rets rfl (Lv.retG (by simp +contextual (disch := first|omega|simp only[nx];omega) only[D1, cells_alloc_at, cells_alloc_ne, cells_set_at, cells_set_ne, yres, yres1, yresL, qA, qB, qC, D5,hF,hA,↓reduceIte,qD,qE]; rfl) ?_ ?_))
  · exact g2
  · rfl
theorem f82_ok {a b c d u p : Nat} (hau : a + u ≤ 60) (hc : c ≤ 50) (hd : d ≤ c) {H : Heap} (hb : Bx H p (SP a b c d u) 127) : Gives Try.prog 82 [PT p] H (I (psum a u c 0 (d + 1) : Nat)) := by
  have hs := slice_arr0 (p := p) (o := 4) (h := d + 1) (by omega)
  have e1 : (d : Int) + 1 = ((d + 1 : Nat) : Int) := rfl
  have hq := psum_le (a := a) (u := u) (c := c) (f := 0) (n := d + 1) (by omega)
  have hcb := ch_bound (n := a + u) c hau
  refine F.entryL rfl dg82 do82 de82 rfl (by kernel_rfl) ?_
  simp only[sets]
  refine V.re [(0, PT p)] (N := 14) (by intro i; simp only[full_st, Full.mk]) (by simp only[Kn, gt_st, full_st, Full.mk, ↓reduceIte, qD, qE, decide_true, and_self]) ?_
  intro t hF hA
  simp only[Kn, and_true] at hA
  (repeat first|apply sA|apply sB|apply sC|apply sD|apply sE)
  refine V.line' (by simp +contextual (disch := first|omega|simp only[nx];omega) only[D4,qF,qG,qA,qB,qC,D5,hF,hA,↓reduceIte,qD,qE]; with_reducible rfl) ?_
  (repeat first|apply sA|apply sB|apply sC|apply sD|apply sE)
  refine V.draw ?_
  refine VD.dins 9 (by simp +contextual (disch := first|omega|simp only[nx];omega) only[D4,qF,qG,qA,qB,qC,D5,hF,hA,↓reduceIte,qD,qE, hb.2, SPk_3, e1, hs]; with_reducible rfl) ?_
  simp only[ds]
  refine VD.dins 1 (by simp +contextual (disch := first|omega|simp only[nx];omega) only[D4,qF,qG,qA,qB,qC,D5,hF,hA,↓reduceIte,qD,qE, hb.2, SPk_3, e1, hs]; with_reducible rfl) ?_
  simp only[ds]
  refine VD.callA (by simp only[D6,D5,hF,hA,↓reduceIte,qD,qE]; try rfl) (f86_ok (SP_sl hb hc (n := d + 1) (f := 0) (by omega)) (by simp [psL]; omega) (fun x hx => by obtain ⟨q, _, rfl⟩ := List.mem_map.1 hx; exact Int.natCast_nonneg _) (by rw [psL_sum]; omega)) (by simp only[D6,D5,hF,hA,↓reduceIte,qD,qE]; try rfl) (fun H2 g2 => ?_)
  rw [psL_sum]
  refine VD.lineD' (by simp +contextual (disch := first|omega|simp only[nx];omega) only[D4,qF,qG,qA,qB,qC,D5,hF,hA,↓reduceIte,qD,qE]; with_reducible rfl) ?_ ?_ rfl ?_
  · have n2 := g2.1
    simp only[monoG, List.cons_append, List.nil_append, Heap.next_set, Heap.next_alloc, Nat.le_refl, true_and, and_true] <;> omega
  · simp only[dcAll, dcOk, wantD, List.cons_append, List.nil_append, true_and, and_true]
  (repeat first|apply sA|apply sB|apply sC|apply sD|apply sE)
  refine V.ret (V.rets rfl (Lv.retG (by simp +contextual (disch := first|omega|simp only[nx];omega) only[D1, cells_alloc_at, cells_alloc_ne, cells_set_at, cells_set_ne, yres, yres1, yresL, qA, qB, qC, D5,hF,hA,↓reduceIte,qD,qE]; rfl) ?_ ?_))
  · exact g2
  · rfl
theorem f58_ok (H : Heap) : Gives Try.prog 58 [] H (.agg ⟨[.func (.func 81) ⟨[]⟩ ⟨[]⟩]⟩) := by
  refine F.entryL rfl dg58 do58 de58 rfl (by kernel_rfl) ?_
  simp only[sets]
  refine V.re [] (N := 2) (by intro i; simp only[full_st, Full.mk]) (by simp only[Kn, gt_st, full_st, Full.mk, ↓reduceIte, qD, qE, decide_true, and_self]) ?_
  intro t hF hA
  (repeat first|apply sA|apply sB|apply sC|apply sD|apply sE)
  refine V.line' (by simp +contextual (disch := first|omega|simp only[nx];omega) only[D4,qF,qG,qA,qB,qC,D5,hF,hA,↓reduceIte,qD,qE]; with_reducible rfl) ?_
  (repeat first|apply sA|apply sB|apply sC|apply sD|apply sE)
  refine V.line' (by simp +contextual (disch := first|omega|simp only[nx];omega) only[D4,qF,qG,qA,qB,qC,D5,hF,hA,↓reduceIte,qD,qE]; with_reducible rfl) ?_
  (repeat first|apply sA|apply sB|apply sC|apply sD|apply sE)
  refine V.ret (V.rets rfl (Lv.retG (by simp +contextual (disch := first|omega|simp only[nx];omega) only[D1, cells_alloc_at, cells_alloc_ne, cells_set_at, cells_set_ne, yres, yres1, yresL, qA, qB, qC, D5,hF,hA,↓reduceIte,qD,qE]; rfl) ?_ ?_))
  · (repeat first | assumption | exact Grow.refl _ | refine Grow.alloc ?_ _ | refine Grow.set ?_ (by first|omega|simp only[nx];omega) _)
  · rfl
theorem f59_ok (H : Heap) : Gives Try.prog 59 [] H (.agg ⟨[.func (.func 82) ⟨[]⟩ ⟨[]⟩]⟩) := by
  refine F.entryL rfl dg59 do59 de59 rfl (by kernel_rfl) ?_
  simp only[sets]
  refine V.re [] (N := 2) (by intro i; simp only[full_st, Full.mk]) (by simp only[Kn, gt_st, full_st, Full.mk, ↓reduceIte, qD, qE, decide_true, and_self]) ?_
  intro t hF hA
  (repeat first|apply sA|apply sB|apply sC|apply sD|apply sE)
  refine V.line' (by simp +contextual (disch := first|omega|simp only[nx];omega) only[D4,qF,qG,qA,qB,qC,D5,hF,hA,↓reduceIte,qD,qE]; with_reducible rfl) ?_
  (repeat first|apply sA|apply sB|apply sC|apply sD|apply sE)
  refine V.line' (by simp +contextual (disch := first|omega|simp only[nx];omega) only[D4,qF,qG,qA,qB,qC,D5,hF,hA,↓reduceIte,qD,qE]; with_reducible rfl) ?_
  (repeat first|apply sA|apply sB|apply sC|apply sD|apply sE)
  refine V.ret (V.rets rfl (Lv.retG (by simp +contextual (disch := first|omega|simp only[nx];omega) only[D1, cells_alloc_at, cells_alloc_ne, cells_set_at, cells_set_ne, yres, yres1, yresL, qA, qB, qC, D5,hF,hA,↓reduceIte,qD,qE]; rfl) ?_ ?_))
  · (repeat first | assumption | exact Grow.refl _ | refine Grow.alloc ?_ _ | refine Grow.set ?_ (by first|omega|simp only[nx];omega) _)
  · rfl
theorem f60_ok {a b c d u p n : Nat} {g : FuncId} (hau : a + u ≤ 60) (hc : c ≤ a) {H : Heap} (hb : Bx H p (SP a b c d u) 127) (hn : n ≤ ch (a + u) c) (hg : ∀ H', Grow H H' → Gives Try.prog g [PT p] H' (I n)) :
    Gives Try.prog 60 [.agg ⟨[.func (.func g) ⟨[]⟩ ⟨[]⟩]⟩, PT p] H (.agg ⟨fr n (ch (a + u) c)⟩) := by
  have hcb := ch_bound (n := a + u) c hau
  have hp := ch_pos (n := a + u) (k := c) (by omega)
  have hpn := hb.1
  refine F.entryL rfl dg60 do60 de60 rfl (by kernel_rfl) ?_
  simp only[sets]
  refine V.re [(0, .agg ⟨[.func (.func g) ⟨[]⟩ ⟨[]⟩]⟩), (1, PT p)] (N := 14) (by intro i; simp only[full_st, Full.mk]) (by simp only[Kn, gt_st, full_st, Full.mk, ↓reduceIte, qD, qE, decide_true, and_self]) ?_
  intro t hF hA
  simp only[Kn, and_true] at hA
  (repeat first|apply sA|apply sB|apply sC|apply sD|apply sE)
  refine V.line' (by simp +contextual (disch := first|omega|simp only[nx];omega) only[D4,qF,qG,qA,qB,qC,D5,hF,hA,↓reduceIte,qD,qE]; with_reducible rfl) ?_
  refine V.heap (fun X => Grow H X ∧ Bx X H.next [.func (.func g) ⟨[]⟩ ⟨[]⟩] 98 ∧ Bx X (H.next + 1) (A2 0 0) 36) ⟨?_, ?_, ?_⟩ ?_
  · (repeat first | assumption | exact Grow.refl _ | refine Grow.alloc ?_ _ | refine Grow.set ?_ (by first|omega|simp only[nx];omega) _)
  · (repeat first | assumption | exact Bx.new _ _ _ | exact Bx.newAt (by first|omega|simp only[nx];omega) | refine Bx.put (by first|omega|simp only[nx];omega) _ _ | refine Bx.alloc ?_ _ | refine Bx.set ?_ (by first|omega|simp only[nx];omega) _)
  · (repeat first | assumption | exact Bx.new _ _ _ | exact Bx.newAt (by first|omega|simp only[nx];omega) | refine Bx.put (by first|omega|simp only[nx];omega) _ _ | refine Bx.alloc ?_ _ | refine Bx.set ?_ (by first|omega|simp only[nx];omega) _)
  rintro H1 ⟨g1, b1, c1⟩
  have s1 := hb.grow g1
  (repeat first|apply sA|apply sB|apply sC|apply sD|apply sE)
  refine V.draw ?_
  refine VD.dins 3 (by simp +contextual (disch := first|omega|simp only[nx];omega) only[D4,qF,qG,qA,qB,qC,D5,hF,hA,↓reduceIte,qD,qE, b1.2]; with_reducible rfl) ?_
  simp only[ds]
  refine VD.callA (by simp only[D6,D5,hF,hA,↓reduceIte,qD,qE]; try rfl) (hg _ g1) (by simp only[D6,D5,hF,hA,↓reduceIte,qD,qE]; try rfl) (fun H2 g2 => ?_)
  have s2 := s1.grow g2
  have c2 := c1.grow g2
  refine VD.dins 4 (by simp +contextual (disch := first|omega|simp only[nx];omega) only[D4,qF,qG,qA,qB,qC,D5,hF,hA,↓reduceIte,qD,qE, s2.2, SPk_all]; with_reducible rfl) ?_
  simp only[ds]
  refine VD.callA (by simp only[D6,D5,hF,hA,↓reduceIte,qD,qE]; try rfl) (f80_ok n (ch (a + u) c) (by omega) hp (by omega) _) (by simp only[D6,D5,hF,hA,↓reduceIte,qD,qE]; try rfl) (fun H3 g3 => ?_)
  have s3 := s2.grow g3
  have c3 := c2.grow g3
  have hc3 := c3.1
  refine VD.lineD' (by simp +contextual (disch := first|omega|simp only[nx];omega) only[D4,qF,qG,qA,qB,qC,D5,hF,hA,↓reduceIte,qD,qE, c3.2]; with_reducible rfl) ?_ ?_ rfl ?_
  · have n2 := g2.1
    have n3 := g3.1
    simp only[monoG, List.cons_append, List.nil_append, Heap.next_set, Heap.next_alloc, Nat.le_refl, true_and, and_true] <;> omega
  · simp only[dcAll, dcOk, wantD, List.cons_append, List.nil_append, true_and, and_true]
    exact fun _ q hq => by simp only[List.mem_cons, List.not_mem_nil, or_false] at hq; (repeat (rcases hq with rfl | hq; exact ⟨_, _, _, rfl, (by simp +contextual (disch := first|omega|simp only[nx];omega) only[D4,qF,qG,qA,qB,qC,D5,hF,hA,↓reduceIte,qD,qE, s1.2, s2.2, s3.2, SPk_all]; with_reducible rfl), fun p hp => by cases hp; simp only[D5,hF,hA,↓reduceIte,qD,qE]; first | exact vEq_An | (simp [vEq, vEq0, all2]; done) | assumption⟩)); (try (subst hq; exact ⟨_, _, _, rfl, (by simp +contextual (disch := first|omega|simp only[nx];omega) only[D4,qF,qG,qA,qB,qC,D5,hF,hA,↓reduceIte,qD,qE, s1.2, s2.2, s3.2, SPk_all]; with_reducible rfl), fun p hp => by cases hp; simp only[D5,hF,hA,↓reduceIte,qD,qE]; first | exact vEq_An | (simp [vEq, vEq0, all2]; done) | assumption⟩))
  (repeat first|apply sA|apply sB|apply sC|apply sD|apply sE)
  refine V.ret (V.rets rfl (Lv.retG (by simp +contextual (disch := first|omega|simp only[nx];omega) only[D1, cells_alloc_at, cells_alloc_ne, cells_set_at, cells_set_ne, yres, yres1, yresL, qA, qB, qC, D5,hF,hA,↓reduceIte,qD,qE, cells_set]; rfl) ?_ ?_))
  · have gg := (g1.trans g2).trans g3
    (repeat first | assumption | exact Grow.refl _ | refine Grow.alloc ?_ _ | refine Grow.set ?_ (by first|omega|simp only[nx];omega) _)
  · rfl
end Go.Xe.TMX
