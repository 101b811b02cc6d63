/- The states between the pieces of function 24: its temporaries, and what its memory holds. Conditions: none. -/
import Derived.Test.YtefoodhfkkcmcabTM
import Derived.Test.YtefoodhfkkcmcabYk
import Derived.Test.YtefoodhfkkcmcabMM
namespace Go.Xe.TMS24
open Go Go.Xe Go.Proofs
set_option maxRecDepth 1000000
abbrev U : Value := .tuple ⟨[]⟩
end Go.Xe.TMS24
/- Piece 0 of function 24, the last, by the kernel. Conditions: none. -/
namespace Go.Xe.TMP24x0
open Go Go.Xe Go.Proofs
set_option maxRecDepth 1000000
theorem run : startL [] .e (pd 17) (fun T => afterF (execF Try.prog TM.F0 5000 (fsdrop 0 TM.c24) none [] (mkTT 95) (.mk 0 T)) [.tmp .o] endT) = .rt .e [] (.mk 0 .e) := by kernel_rfl
end Go.Xe.TMP24x0
/- Function 24, called in any world, returns true and leaves the world as it was: its pieces put together. Conditions: none. -/
namespace Go.Xe.TMB24
open Go Go.Xe Go.Proofs
set_option maxRecDepth 1000000
theorem mixed : Try.prog.follows .mixedOrders = true := by kernel_rfl
noncomputable def body : Code := match Try.f24.body with | some c => c | none => .skip
theorem hb : Try.f24.body = some body := by kernel_rfl
theorem hn : Try.f24.ntmps = 95 := by kernel_rfl
theorem call : (∀ (w : World) (r : Option Nat) (n : Nat), CallsIn (FW r) n Try.prog 24 #[] w (Quiet (.bool true) w)) ∧ ∃ fn, Try.prog.funcs[(24 : Nat)]? = some fn ∧ fn.body.isSome = true ∧ (fn.name == "runtime.NumGoroutine") = false := by
  letI := (Gl.none Try.prog)
  letI := (Orc.none Try.prog)
  have hF := TM.ok0 (Orc.none Try.prog) rfl
  obtain ⟨hc, hres⟩ := of_entry hb TM.e24
  obtain ⟨e, a, Hz, y1, y2, y3, y4⟩ := piece_last hF hc 0 5000 TM.o24 hres TMP24x0.run stOk_start
  have hx : exec Try.prog 5000 none body ⟨Array.replicate Try.f24.ntmps undef, [], Heap.empty⟩ = some (e, a) := by rw [hn]; exact y1
  obtain ⟨z1, z2⟩ := xcall_of rfl TM.g24 hb TM.o24 hx y2 y3 y4
  obtain ⟨k1, k2⟩ := closed_x (Orc.none Try.prog) mixed (start_x (Orc.none Try.prog) rfl) z1 z2
  exact ⟨fun w r n => k1 w r n (Nat.zero_le _) trivial, k2⟩
end Go.Xe.TMB24
/- What is known of function 24 may be taken at its word. Conditions: none. -/
namespace Go.Xe.TMO
open Go Go.Xe Go.Proofs
set_option maxRecDepth 1000000
@[reducible] def orc : Orc Try.prog := ⟨0, fun _ => True, fun _ _ _ _ => trivial, TM.orcs1, fun g b h => by
  unfold TM.orcs1 at h
  split at h
  · rename_i hg
    cases h
    subst hg
    exact ⟨fun w r n _ _ => TMB24.call.1 w r n, TMB24.call.2⟩
  · cases h⟩
end Go.Xe.TMO
/- What the functions of the layer miss come to: what is valid. Conditions: none. -/
-- MOD TM
namespace Go.Xe.TMX
open Go Go.Xe Go.Proofs
set_option maxRecDepth 100000
set_option maxHeartbeats 1600000
set_option linter.unusedSimpArgs false
noncomputable def d52 : FCode := (.seq (.run (.go (.box 53 (.tmp (pth 0))) (pth 2) ::
.go (.move (.con (.bool false))) (pth 4) ::
[])) (.seq (.run (.go (.fieldAddr 0 (.tmp (pth 2))) (pth 5) ::
.go (.load1 (.tmp (pth 5))) (pth 6) ::
.go (.move (.tmp (pth 1))) (pth 7) ::
.go (.bin .leq 3 (.tmp (pth 6)) (.tmp (pth 7))) (pth 8) ::
.go (.move (.tmp (pth 8))) (pth 9) ::
.gd (pth 9) true (.move (.tmp (pth 1))) (pth 10) ::
.gd (pth 9) true (.fieldAddr 1 (.tmp (pth 2))) (pth 11) ::
.gd (pth 9) true (.load1 (.tmp (pth 11))) (pth 12) ::
.gd (pth 9) true (.bin .leq 3 (.tmp (pth 10)) (.tmp (pth 12))) (pth 13) ::
.go (.pick (.tmp (pth 9)) (.tmp (pth 13)) (.con (.bool false))) (pth 14) ::
.go (.move (.tmp (pth 14))) (pth 4) ::
[])) .ret))
theorem de52 : @compF Try.prog (Gl.none Try.prog) Try.f52 2 = .mk d52 (mkTT 15) [(pth 0),(pth 1)] [.tmp (pth 4)] := by kernel_rfl
theorem dg52 : Try.prog.funcs[52]? = some Try.f52 := Try.func52
theorem do52 : okF Try.prog Try.f52 = true := by kernel_rfl
@[reducible] instance gl : Gl Try.prog := Gl.none Try.prog
@[reducible] instance orc : Orc Try.prog := TMO.orc
abbrev I (n : Int) : Value := .int .i64 n
abbrev U : Value := undef
abbrev A2 (a b : Int) : List Value := [I a, I b]
theorem f24_ok (H : Heap) : Gives Try.prog 24 [] H (.bool true) := .orc rfl
theorem f52_ok (a b n : Int) (H : Heap) : Gives Try.prog 52 [.agg ⟨A2 a b⟩, I n] H (.bool (decide (a ≤ n ∧ n ≤ b))) := by
  refine F.entryL rfl dg52 do52 de52 rfl (by kernel_rfl) ?_
  simp only [sets]
  refine V.re [(0, .agg ⟨A2 a b⟩), (1, I n)] (N := 15) (by intro i; simp only [full_st, Full.mk]) (by simp only [Kn, gt_st, full_st, Full.mk, ↓reduceIte, Nat.reduceEqDiff, Nat.reduceLT, decide_true, and_self]) ?_
  intro t hF hA
  simp only [Kn, and_true] at hA
  (repeat first | refine V.seq ?_ | refine V.block ?_ | refine V.scope ?_ | refine V.skip ?_ | refine V.close ?_)
  refine V.line' (by simp +contextual (maxSteps := 1000000) (disch := (first | omega | (simp only [Heap.next_alloc, Heap.next_set]; omega))) only [D3, mm_max, mm_min, cells_alloc_at, cells_alloc_ne, cells_set_at, cells_set_ne, dop, dA, sets, yfield1, yfieldN, yfieldAddr, Int.reduceNegSucc, Int.reduceEq, Nat.reduceLeDiff, Nat.reduceSub, Nat.reduceAdd, gt_st, full_st, hF, hA, ↓reduceIte, Nat.reduceEqDiff, Nat.reduceLT, decide_true, decide_false, Bool.false_eq_true]; with_reducible rfl) ?_
  (repeat first | refine V.seq ?_ | refine V.block ?_ | refine V.scope ?_ | refine V.skip ?_ | refine V.close ?_)
  refine V.line' (by simp +contextual (maxSteps := 1000000) (disch := (first | omega | (simp only [Heap.next_alloc, Heap.next_set]; omega))) only [D3, mm_max, mm_min, cells_alloc_at, cells_alloc_ne, cells_set_at, cells_set_ne, dop, dA, sets, yfield1, yfieldN, yfieldAddr, Int.reduceNegSucc, Int.reduceEq, Nat.reduceLeDiff, Nat.reduceSub, Nat.reduceAdd, gt_st, full_st, hF, hA, ↓reduceIte, Nat.reduceEqDiff, Nat.reduceLT, decide_true, decide_false, Bool.false_eq_true]; with_reducible rfl) ?_
  (repeat first | refine V.seq ?_ | refine V.block ?_ | refine V.scope ?_ | refine V.skip ?_ | refine V.close ?_)
  refine V.ret (V.rets rfl (Lv.retG (by simp +contextual (disch := (first | omega | (simp only [Heap.next_alloc, Heap.next_set]; omega))) only [D1, cells_alloc_at, cells_alloc_ne, cells_set_at, cells_set_ne, yres, yres1, yresL, Nat.reduceLeDiff, Nat.reduceSub, Nat.reduceAdd, gt_st, full_st, hF, hA, ↓reduceIte, Nat.reduceEqDiff, Nat.reduceLT, decide_true, decide_false, Bool.false_eq_true]; rfl) ?_ ?_))
  · (repeat first | assumption | exact Grow.refl _ | refine Grow.alloc ?_ _ | refine Grow.set ?_ (by first | omega | (simp only [Heap.next_alloc, Heap.next_set]; omega)) _)
  · rfl
/-- Can there be so many persons on lists, and others? -/
def pr (a b : Int) : Prop := (0 ≤ a ∧ a ≤ 50) ∧ (0 ≤ b ∧ b ≤ 50) ∧ a + b ≤ 50
instance (a b : Int) : Decidable (pr a b) := by unfold pr; infer_instance
/-- Is the area valid? -/
def ar (a b c d : Int) : Prop := pr a b ∧ (0 ≤ c ∧ c ≤ a) ∧ (0 ≤ d ∧ d ≤ c)
instance (a b c d : Int) : Decidable (ar a b c d) := by unfold ar; infer_instance
/-- Is it a level? -/
def lv (n d : Int) : Prop := (1 ≤ d ∧ d ≤ 1000) ∧ (0 ≤ n ∧ n ≤ d)
instance (n d : Int) : Decidable (lv n d) := by unfold lv; infer_instance
end Go.Xe.TMX
/- What the functions of the layer miss come to: persons, fractions, ways to choose. Conditions: none. -/
-- MOD TM
namespace Go.Xe.TMX
open Go Go.Xe Go.Proofs Go.Xe.Mth
set_option maxRecDepth 100000
set_option maxHeartbeats 1600000
set_option linter.unusedSimpArgs false
/-- Are all of these numbers of persons, and their sum? -/
def ap (l : List Int) : Prop := (l.all fun x => decide (0 ≤ x ∧ x ≤ 50)) = true ∧ 0 ≤ l.sum ∧ l.sum ≤ 50
instance (l : List Int) : Decidable (ap l) := by unfold ap; infer_instance
end Go.Xe.TMX
