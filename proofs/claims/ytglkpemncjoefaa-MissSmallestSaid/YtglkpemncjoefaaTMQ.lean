/- What the statements MissWays and MissPascal come to. Conditions: none. -/
import Derived.Test.YtglkpemncjoefaaTMZ
-- MOD TM
namespace Go.Xe.TMX
open Go Go.Xe Go.Proofs Go.Xe.Mth
open Nat renaming reduceLeDiff → qA, reduceSub → qB, reduceAdd → qC, reduceEqDiff → qD, reduceLT → qE
open Int renaming reduceNegSucc → qF, reduceEq → qG
set_option maxRecDepth 100000
set_option maxHeartbeats 3200000
set_option linter.unusedSimpArgs false
noncomputable def d3 : FCode := (.seq (.run (.go (.box 23 (.tmp (pth 2))) (pth 5)::
.go (.move (.con (.bool false))) (pth 6)::
[])) (.seq (.run (.go (.move (.tmp (pth 0))) (pth 10)::
.go (.move (.tmp (pth 1))) (pth 11)::
.go (.call (.con (.func (.func 19) ⟨[]⟩ ⟨[]⟩)) [(.tmp (pth 10)),(.tmp (pth 11))]) (pth 12)::
.go (.move (.tmp (pth 12))) (pth 9)::
.go (.extract (.tmp (pth 9)) 0) (pth 13)::
.go (.extract (.tmp (pth 9)) 1) (pth 14)::
.go (.move (.tmp (pth 13))) (pth 7)::
.go (.move (.tmp (pth 14))) (pth 8)::
[])) (.seq (.seq (.draw 6 (.go (.loadN 4 (.tmp (pth 5))) (pth 15)::
.go (.call (.con (.func (.func 21) ⟨[]⟩ ⟨[]⟩)) [(.tmp (pth 15))]) (pth 16)::
.go (.call (.con (.func (.func 20) ⟨[]⟩ ⟨[]⟩)) [(.tmp (pth 16))]) (pth 17)::
.go (.loadN 4 (.tmp (pth 5))) (pth 18)::
.go (.call (.con (.func (.func 22) ⟨[]⟩ ⟨[]⟩)) [(.tmp (pth 18))]) (pth 19)::
.go (.bin .neq 24 (.tmp (pth 17)) (.tmp (pth 19))) (pth 20)::
[]) [.ok,.ok,.ok,.rd none (.loadN 4 (.tmp (pth 5))) (some (pth 18)) [0,2],.ok,.ok]) (.cond (.tmp (pth 20)) (.seq (.run (.go (.move (.con (.bool false))) (pth 6)::
[])) .ret) .skip)) (.seq (.seq (.run (.go (.move (.tmp (pth 0))) (pth 21)::
.go (.call (.con (.func (.func 23) ⟨[]⟩ ⟨[]⟩)) [(.tmp (pth 21)),(.con (.int .i64 (.ofNat 0))),(.con (.int .i64 (.ofNat 60)))]) (pth 22)::
.go (.un .not (.tmp (pth 22))) (pth 23)::
.go (.move (.tmp (pth 23))) (pth 24)::
.gd (pth 24) false (.move (.tmp (pth 1))) (pth 25)::
.gd (pth 24) false (.call (.con (.func (.func 23) ⟨[]⟩ ⟨[]⟩)) [(.tmp (pth 25)),(.con (.int .i64 (.ofNat 0))),(.con (.int .i64 (.ofNat 60)))]) (pth 26)::
.gd (pth 24) false (.un .not (.tmp (pth 26))) (pth 27)::
.go (.pick (.tmp (pth 24)) (.con (.bool true)) (.tmp (pth 27))) (pth 28)::
[])) (.cond (.tmp (pth 28)) (.seq (.run (.go (.move (.tmp (pth 8))) (pth 29)::
.go (.bin .eql 24 (.tmp (pth 29)) (.con (.int .i64 (.ofNat 2)))) (pth 30)::
.go (.move (.tmp (pth 30))) (pth 31)::
.gd (pth 31) true (.move (.tmp (pth 7))) (pth 32)::
.gd (pth 31) true (.bin .eql 3 (.tmp (pth 32)) (.con (.int .i64 (.ofNat 0)))) (pth 33)::
.go (.pick (.tmp (pth 31)) (.tmp (pth 33)) (.con (.bool false))) (pth 34)::
.go (.move (.tmp (pth 34))) (pth 35)::
.gd (pth 35) true (.call (.con (.func (.func 24) ⟨[]⟩ ⟨[]⟩)) []) (pth 36)::
.go (.pick (.tmp (pth 35)) (.tmp (pth 36)) (.con (.bool false))) (pth 37)::
.go (.move (.tmp (pth 37))) (pth 6)::
[])) .ret) .skip)) (.seq (.run (.go (.move (.tmp (pth 8))) (pth 38)::
.go (.bin .eql 24 (.tmp (pth 38)) (.con (.int .i64 (.ofNat 0)))) (pth 39)::
.go (.move (.tmp (pth 39))) (pth 40)::
.gd (pth 40) true (.move (.tmp (pth 7))) (pth 41)::
.gd (pth 40) true (.move (.tmp (pth 0))) (pth 42)::
.gd (pth 40) true (.move (.tmp (pth 1))) (pth 43)::
.gd (pth 40) true (.call (.con (.func (.func 25) ⟨[]⟩ ⟨[]⟩)) [(.tmp (pth 42)),(.tmp (pth 43))]) (pth 44)::
.gd (pth 40) true (.bin .eql 3 (.tmp (pth 41)) (.tmp (pth 44))) (pth 45)::
.go (.pick (.tmp (pth 40)) (.tmp (pth 45)) (.con (.bool false))) (pth 46)::
.go (.move (.tmp (pth 46))) (pth 47)::
.gd (pth 47) true (.call (.con (.func (.func 24) ⟨[]⟩ ⟨[]⟩)) []) (pth 48)::
.go (.pick (.tmp (pth 47)) (.tmp (pth 48)) (.con (.bool false))) (pth 49)::
.go (.move (.tmp (pth 49))) (pth 6)::
[])) .ret)))))
def wv (n k : Int) : Prop := (0 ≤ n ∧ n ≤ 60) ∧ (0 ≤ k ∧ k ≤ 60)
instance (n k : Int) : Decidable (wv n k) := by unfold wv; infer_instance
abbrev By (n : Int) : Value := .int .u8 n
theorem tm_nat {x b : Int} (hx : 0 ≤ x) (hb : 0 < b) : ∃ q : Nat, x.tmod b = q ∧ (q : Int) < b ∧ (q : Int) ≤ x := by
  rw [Int.tmod_eq_emod_of_nonneg hx]
  refine ⟨(x % b).toNat, ?_, ?_, ?_⟩
  · have := Int.emod_nonneg x (show b ≠ 0 by omega); omega
  · have := Int.emod_nonneg x (show b ≠ 0 by omega); have := Int.emod_lt_of_pos x hb; omega
  · have := Int.emod_nonneg x (show b ≠ 0 by omega)
    have h1 := Int.mul_ediv_add_emod x b
    have h2 : 0 ≤ b * (x / b) := Int.mul_nonneg (by omega) (Int.ediv_nonneg hx (by omega))
    omega
end Go.Xe.TMX
/- What the functions of the layer miss come to: numbers one by one, and in how many samples so many are found. Conditions: none. -/
-- MOD TM
namespace Go.Xe.TMX
open Go Go.Xe Go.Proofs Go.Xe.Mth
open Nat renaming reduceLeDiff → qA, reduceSub → qB, reduceAdd → qC, reduceEqDiff → qD, reduceLT → qE
open Int renaming reduceNegSucc → qF, reduceEq → qG
set_option maxRecDepth 100000
set_option maxHeartbeats 3200000
set_option linter.unusedSimpArgs false
noncomputable def d75 : FCode := (.seq (.run (.go (.box 53 (.tmp (pth 0))) (pth 1)::
.go (.move (.con .nilFunc)) (pth 2)::
[])) (.seq (.run (.go (.makeFunc 89 [] [(.tmp (pth 1))]) (pth 3)::
.go (.move (.tmp (pth 3))) (pth 2)::
[])) .ret))
theorem de75 : @compF Try.prog (Gl.none Try.prog) Try.f75 1 = .mk d75 (mkTT 4) [(pth 0)] [.tmp (pth 2)] := by kernel_rfl
theorem dg75 : Try.prog.funcs[75]? = some Try.f75 := Try.func75
theorem do75 : okF Try.prog Try.f75 = true := by kernel_rfl
noncomputable def d89 : FCode := (.seq (.run (.go (.fieldAddr 0 (.tmp (pth 1))) (pth 4)::
.go (.load1 (.tmp (pth 4))) (pth 5)::
.go (.move (.tmp (pth 5))) (pth 3)::
[])) (.block 0 (.loop (.seq (.seq (.run (.go (.move (.tmp (pth 3))) (pth 6)::
.go (.fieldAddr 1 (.tmp (pth 1))) (pth 7)::
.go (.load1 (.tmp (pth 7))) (pth 8)::
.go (.bin .leq 3 (.tmp (pth 6)) (.tmp (pth 8))) (pth 9)::
[])) (.cond (.tmp (pth 9)) .skip (.exit 0))) (.seq (.block 1 (.seq (.run (.go (.move (.tmp (pth 0))) (pth 12)::
.go (.move (.tmp (pth 3))) (pth 13)::
.go (.call (.tmp (pth 12)) [(.tmp (pth 13))]) (pth 14)::
.go (.un .not (.tmp (pth 14))) (pth 15)::
[])) (.cond (.tmp (pth 15)) .ret .skip))) (.run (.go (.move (.tmp (pth 3))) (pth 10)::
.go (.bin .add 3 (.tmp (pth 10)) (.con (.int .i64 (.ofNat 1)))) (pth 11)::
.go (.move (.tmp (pth 11))) (pth 3)::
[])))))))
theorem de89 : @compF Try.prog (Gl.none Try.prog) Try.f89 2 = .mk d89 (mkTT 16) [(pth 0),(pth 1)] [] := by kernel_rfl
theorem dg89 : Try.prog.funcs[89]? = some Try.f89 := Try.func89
theorem do89 : okF Try.prog Try.f89 = true := by kernel_rfl
abbrev nf (p : Nat) : Value := .func (.func 89) ⟨[]⟩ ⟨[PT p]⟩
theorem f75_ok (a b : Int) (H : Heap) : F Try.prog 75 ⟨[.agg ⟨A2 a b⟩]⟩ H (fun v H' => ∃ p, v = nf p ∧ H.next ≤ p ∧ Grow H H' ∧ Bx H' p (A2 a b) 53) := by
  refine F.entryL rfl dg75 do75 de75 rfl (by kernel_rfl) ?_
  simp only [sets]
  refine V.re [(0, .agg ⟨A2 a b⟩)] (N := 4) (by intro i; simp only [full_st, Full.mk]) (by simp only [Kn, gt_st, full_st, Full.mk, ↓reduceIte, qD, qE, decide_true, and_self]) ?_
  intro t hF hA
  simp only [Kn, and_true] at hA
  (repeat first|apply V.seq|apply V.block|apply V.scope|apply V.skip|apply V.close)
  refine V.line' (by simp +contextual (disch := first|omega|simp only [nx];omega) only [D4,qF,qG,qA,qB,qC,D5,hF,hA,↓reduceIte,qD,qE]; with_reducible rfl) ?_
  (repeat first|apply V.seq|apply V.block|apply V.scope|apply V.skip|apply V.close)
  refine V.line' (by simp +contextual (disch := first|omega|simp only [nx];omega) only [D4,qF,qG,qA,qB,qC,D5,hF,hA,↓reduceIte,qD,qE]; with_reducible rfl) ?_
  (repeat first|apply V.seq|apply V.block|apply V.scope|apply V.skip|apply V.close)
  refine V.ret (V.rets rfl (Lv.retF (by simp +contextual (disch := first|omega|simp only [nx];omega) only [D1, cells_alloc_at, cells_alloc_ne, cells_set_at, cells_set_ne, yres, yres1, yresL, qA, qB, qC, D5,hF,hA,↓reduceIte,qD,qE]; rfl) ?_))
  refine ⟨H.next, rfl, Nat.le_refl _, ?_, ?_⟩
  · (repeat first | assumption | exact Grow.refl _ | refine Grow.alloc ?_ _ | refine Grow.set ?_ (by first|omega|simp only [nx];omega) _)
  · (repeat first | assumption | exact Bx.new _ _ _ | exact Bx.newAt (by first|omega|simp only [nx];omega) | refine Bx.put (by first|omega|simp only [nx];omega) _ _ | refine Bx.alloc ?_ _ | refine Bx.set ?_ (by first|omega|simp only [nx];omega) _)
def numL (a n : Nat) : List (List Value) := (List.range n).map fun k => [I ((a + k : Nat) : Int)]
theorem numL_len (a n : Nat) : (numL a n).length = n := by simp [numL]
theorem numL_get {a n k : Nat} (h : k < (numL a n).length) : (numL a n)[k] = [I ((a + k : Nat) : Int)] := by simp [numL]
theorem f89_iter (a n : Nat) (ha : a + n ≤ 1048576) {H0 : Heap} {p : Nat} (hb : Bx H0 p (A2 a ((a : Int) + n - 1)) 53) : Iter Try.prog 89 [] [PT p] (· = p) H0 (numL a n) := by
  intro y U I0 J H hH hD sI sJ hY h0
  obtain ⟨_, hU, hp⟩ := hD p rfl
  have bb : Bx H p (A2 a ((a : Int) + n - 1)) 53 := ⟨Nat.lt_of_lt_of_le hb.1 hH, by have := hb.2; unfold Heap.cellsAt at this ⊢; rw [hp]; exact this⟩
  rw [numL_len] at *
  show F Try.prog 89 ⟨[y, PT p]⟩ H _
  refine F.entryL rfl dg89 do89 de89 rfl (by kernel_rfl) ?_
  simp only [sets]
  refine V.re [(0, y), (1, PT p)] (N := 16) (by intro i; simp only [full_st, Full.mk]) (by simp only [Kn, gt_st, full_st, Full.mk, ↓reduceIte, qD, qE, decide_true, and_self]) ?_
  intro t hF hA
  simp only [Kn, and_true] at hA
  (repeat first|apply V.seq|apply V.block|apply V.scope|apply V.skip|apply V.close)
  refine V.line' (by simp +contextual (disch := first|omega|simp only [nx];omega) only [D4,qF,qG,qA,qB,qC,D5,hF,hA,↓reduceIte,qD,qE, bb.2]; with_reducible rfl) ?_
  (repeat first|apply V.seq|apply V.block|apply V.scope|apply V.skip|apply V.close)
  refine V.loop (fun r t m X => ∃ (k : Nat), k ≤ n ∧ r = n - k ∧ m = [] ∧ GrowS U H X ∧ I0 k X ∧ Full 16 t ∧ Kn [(0, y), (1, PT p), (3, I ((a + k : Nat) : Int))] t) n ?_ ?_
  · exact ⟨0, by omega, by omega, rfl, .refl _, h0, (by intro i; simp only [full_st, hF]), (by simp only [Kn, D5,hF,hA,↓reduceIte,qD,qE, and_self, and_true, true_and]; try (repeat' constructor))⟩
  clear hF hA
  rintro r t m X ⟨k, hk, rfl, rfl, hg, hI, hF, hA⟩
  simp only [Kn, and_true] at hA
  have bx := bb.growS hg hU
  (repeat first|apply V.seq|apply V.block|apply V.scope|apply V.skip|apply V.close)
  refine V.line' (by simp +contextual (disch := first|omega|simp only [nx];omega) only [D4,qF,qG,qA,qB,qC,D5,hF,hA,↓reduceIte,qD,qE, bx.2]; with_reducible rfl) ?_
  (repeat first|apply V.seq|apply V.block|apply V.scope|apply V.skip|apply V.close)
  refine V.condP (by simp only [D6,D5,hF,hA,↓reduceIte,qD,qE]; rfl) (fun hlt => ?_) (fun hlt => ?_)
  · have hk' : k < n := by omega
    have hy := hY k (by rw [numL_len]; exact hk') X hI hg
    rw [numL_get] at hy
    (repeat first|apply V.seq|apply V.block|apply V.scope|apply V.skip|apply V.close)
    refine V.run ?_
    refine VI.steps' 2 (by simp +contextual (disch := first|omega|simp only [nx];omega) only [D4,qF,qG,qA,qB,qC,D5,hF,hA,↓reduceIte,qD,qE]; with_reducible rfl) ?_
    simp only [ds]
    refine VI.callV (y := y) (by simp only [D6,D5,hF,hA,↓reduceIte,qD,qE]; try rfl) (by simp only [List.map_cons, List.map_nil, D6,D5,hF,hA,↓reduceIte,qD,qE]; exact hy) (fun v X' hv => ?_)
    obtain ⟨hg', hv⟩ := hv
    rcases hv with ⟨rfl, hI'⟩ | ⟨rfl, hJ⟩
    · refine VI.line' (by simp +contextual (disch := first|omega|simp only [nx];omega) only [D4,qF,qG,qA,qB,qC,D5,hF,hA,↓reduceIte,qD,qE]; with_reducible rfl) ?_
      (repeat first|apply V.seq|apply V.block|apply V.scope|apply V.skip|apply V.close)
      refine V.condF (by simp only [D6,D5,hF,hA,↓reduceIte,qD,qE]) ?_
      (repeat first|apply V.seq|apply V.block|apply V.scope|apply V.skip|apply V.close)
      have e : ((a + k : Nat) : Int) + 1 = ((a + (k + 1) : Nat) : Int) := by omega
      refine V.line' (by simp +contextual (disch := first|omega|simp only [nx];omega) only [D4,qF,qG,qA,qB,qC,D5,hF,hA,↓reduceIte,qD,qE, e]; with_reducible rfl) ?_
      refine V.nil (Or.inl ⟨rfl, n - (k + 1), by omega, ?_⟩)
      exact ⟨k + 1, hk', rfl, rfl, hg.trans hg', hI', (by intro i; simp only [full_st, hF]), (by simp only [Kn, D5,hF,hA,↓reduceIte,qD,qE, and_self, and_true, true_and]; try (repeat' constructor))⟩
    · refine VI.line' (by simp +contextual (disch := first|omega|simp only [nx];omega) only [D4,qF,qG,qA,qB,qC,D5,hF,hA,↓reduceIte,qD,qE]; with_reducible rfl) ?_
      (repeat first|apply V.seq|apply V.block|apply V.scope|apply V.skip|apply V.close)
      refine V.condT (by simp only [D6,D5,hF,hA,↓reduceIte,qD,qE]) ?_
      (repeat first|apply V.seq|apply V.block|apply V.scope|apply V.skip|apply V.close)
      refine V.ret (V.rets rfl (Or.inr ⟨by simp, V.rets rfl (Lv.retF (by simp only [yres, yresL, Option.map_some]; rfl) ?_)⟩))
      exact ⟨hg.trans hg', .inr hJ⟩
  · obtain rfl : k = n := by omega
    refine V.exit ?_
    (repeat first | refine V.pass ?_ | refine V.here ?_ | refine V.out (by decide) ?_)
    refine V.nil (Or.inr ⟨by simp, ?_⟩)
    (repeat first | refine V.pass ?_ | refine V.here ?_ | refine V.out (by decide) ?_)
    (repeat first|apply V.seq|apply V.block|apply V.scope|apply V.skip|apply V.close)
    refine V.nil (Lv.normal (by simp only [yres, yresL, Option.map_some]; rfl) ?_)
    exact ⟨hg, .inl hI⟩
theorem Wy.growS {U : Nat → Prop} {A B : Heap} {i j x : Nat} (h : Wy A i j x) (g : GrowS U A B) (hi : ¬ U i) (hj : ¬ U j) (hx : ¬ U x) : Wy B i j x := by
  obtain ⟨h1, h2, h3, h4, es, h5, h6⟩ := h
  exact ⟨h1.growS g hi, h2.growS g hj, h3, h4, es, h5.growS g hx, h6⟩
section
variable {a b c d z : Int} {q : Nat → Value} {f : Nat} {v : Value}
end
def part (a u c f : Nat) : Nat := ch a f * ch u (c - f)
theorem part_le {a u c f : Nat} (hf : f ≤ c) : part a u c f ≤ ch (a + u) c := by
  rw [← vander]
  exact sm_at (p := fun f => ch a f * ch u (c - f)) (by omega)
end Go.Xe.TMX
