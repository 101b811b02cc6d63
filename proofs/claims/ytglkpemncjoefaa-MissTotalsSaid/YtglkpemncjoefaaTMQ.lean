/- What the statements MissWays and MissPascal come to. Conditions: none. -/
import Derived.Test.YtglkpemncjoefaaTMZ
-- MOD TM
namespace Go.Xe.TMX
open Go Go.Xe Go.Proofs Go.Xe.Mth
open Nat renaming reduceLeDiff → qA, reduceSub → qB, reduceAdd → qC, reduceEqDiff → qD, reduceLT → qE
open Int renaming reduceNegSucc → qF, reduceEq → qG
open Go.Xe.V renaming seq → sA, block → sB, scope → sC, skip → sD, close → sE
open Go.Xe renaming pth → P
set_option maxRecDepth 100000
set_option maxHeartbeats 3200000
set_option linter.unusedSimpArgs false
noncomputable def d3 : FCode := (.seq (.run (.go (.box 23 (.tmp (P 2))) (P 5)::
.go (.move (.con (.bool false))) (P 6)::
[])) (.seq (.run (.go (.move (.tmp (P 0))) (P 10)::
.go (.move (.tmp (P 1))) (P 11)::
.go (.call (.con (.func (.func 19) ⟨[]⟩ ⟨[]⟩)) [(.tmp (P 10)),(.tmp (P 11))]) (P 12)::
.go (.move (.tmp (P 12))) (P 9)::
.go (.extract (.tmp (P 9)) 0) (P 13)::
.go (.extract (.tmp (P 9)) 1) (P 14)::
.go (.move (.tmp (P 13))) (P 7)::
.go (.move (.tmp (P 14))) (P 8)::
[])) (.seq (.seq (.draw 6 (.go (.loadN 4 (.tmp (P 5))) (P 15)::
.go (.call (.con (.func (.func 21) ⟨[]⟩ ⟨[]⟩)) [(.tmp (P 15))]) (P 16)::
.go (.call (.con (.func (.func 20) ⟨[]⟩ ⟨[]⟩)) [(.tmp (P 16))]) (P 17)::
.go (.loadN 4 (.tmp (P 5))) (P 18)::
.go (.call (.con (.func (.func 22) ⟨[]⟩ ⟨[]⟩)) [(.tmp (P 18))]) (P 19)::
.go (.bin .neq 24 (.tmp (P 17)) (.tmp (P 19))) (P 20)::
[]) [.ok,.ok,.ok,.rd none (.loadN 4 (.tmp (P 5))) (some (P 18)) [0,2],.ok,.ok]) (.cond (.tmp (P 20)) (.seq (.run (.go (.move (.con (.bool false))) (P 6)::
[])) .ret) .skip)) (.seq (.seq (.run (.go (.move (.tmp (P 0))) (P 21)::
.go (.call (.con (.func (.func 23) ⟨[]⟩ ⟨[]⟩)) [(.tmp (P 21)),(.con (.int .i64 (.ofNat 0))),(.con (.int .i64 (.ofNat 60)))]) (P 22)::
.go (.un .not (.tmp (P 22))) (P 23)::
.go (.move (.tmp (P 23))) (P 24)::
.gd (P 24) false (.move (.tmp (P 1))) (P 25)::
.gd (P 24) false (.call (.con (.func (.func 23) ⟨[]⟩ ⟨[]⟩)) [(.tmp (P 25)),(.con (.int .i64 (.ofNat 0))),(.con (.int .i64 (.ofNat 60)))]) (P 26)::
.gd (P 24) false (.un .not (.tmp (P 26))) (P 27)::
.go (.pick (.tmp (P 24)) (.con (.bool true)) (.tmp (P 27))) (P 28)::
[])) (.cond (.tmp (P 28)) (.seq (.run (.go (.move (.tmp (P 8))) (P 29)::
.go (.bin .eql 24 (.tmp (P 29)) (.con (.int .i64 (.ofNat 2)))) (P 30)::
.go (.move (.tmp (P 30))) (P 31)::
.gd (P 31) true (.move (.tmp (P 7))) (P 32)::
.gd (P 31) true (.bin .eql 3 (.tmp (P 32)) (.con (.int .i64 (.ofNat 0)))) (P 33)::
.go (.pick (.tmp (P 31)) (.tmp (P 33)) (.con (.bool false))) (P 34)::
.go (.move (.tmp (P 34))) (P 35)::
.gd (P 35) true (.call (.con (.func (.func 24) ⟨[]⟩ ⟨[]⟩)) []) (P 36)::
.go (.pick (.tmp (P 35)) (.tmp (P 36)) (.con (.bool false))) (P 37)::
.go (.move (.tmp (P 37))) (P 6)::
[])) .ret) .skip)) (.seq (.run (.go (.move (.tmp (P 8))) (P 38)::
.go (.bin .eql 24 (.tmp (P 38)) (.con (.int .i64 (.ofNat 0)))) (P 39)::
.go (.move (.tmp (P 39))) (P 40)::
.gd (P 40) true (.move (.tmp (P 7))) (P 41)::
.gd (P 40) true (.move (.tmp (P 0))) (P 42)::
.gd (P 40) true (.move (.tmp (P 1))) (P 43)::
.gd (P 40) true (.call (.con (.func (.func 25) ⟨[]⟩ ⟨[]⟩)) [(.tmp (P 42)),(.tmp (P 43))]) (P 44)::
.gd (P 40) true (.bin .eql 3 (.tmp (P 41)) (.tmp (P 44))) (P 45)::
.go (.pick (.tmp (P 40)) (.tmp (P 45)) (.con (.bool false))) (P 46)::
.go (.move (.tmp (P 46))) (P 47)::
.gd (P 47) true (.call (.con (.func (.func 24) ⟨[]⟩ ⟨[]⟩)) []) (P 48)::
.go (.pick (.tmp (P 47)) (.tmp (P 48)) (.con (.bool false))) (P 49)::
.go (.move (.tmp (P 49))) (P 6)::
[])) .ret)))))
def wv (n k : Int) : Prop := (0 ≤ n ∧ n ≤ 60) ∧ (0 ≤ k ∧ k ≤ 60)
instance (n k : Int) : Decidable (wv n k) := by unfold wv; infer_instance
end Go.Xe.TMX
/- What the functions of the layer miss come to: numbers one by one, and in how many samples so many are found. Conditions: none. -/
-- MOD TM
namespace Go.Xe.TMX
open Go Go.Xe Go.Proofs Go.Xe.Mth
open Nat renaming reduceLeDiff → qA, reduceSub → qB, reduceAdd → qC, reduceEqDiff → qD, reduceLT → qE
open Int renaming reduceNegSucc → qF, reduceEq → qG
open Go.Xe.V renaming seq → sA, block → sB, scope → sC, skip → sD, close → sE
open Go.Xe renaming pth → P
set_option maxRecDepth 100000
set_option maxHeartbeats 3200000
set_option linter.unusedSimpArgs false
noncomputable def d75 : FCode := (.seq (.run (.go (.box 53 (.tmp (P 0))) (P 1)::
.go (.move (.con .nilFunc)) (P 2)::
[])) (.seq (.run (.go (.makeFunc 89 [] [(.tmp (P 1))]) (P 3)::
.go (.move (.tmp (P 3))) (P 2)::
[])) .ret))
theorem de75 : @compF Try.prog (Gl.none Try.prog) Try.f75 1 = .mk d75 (mkTT 4) [(P 0)] [.tmp (P 2)] := by kernel_rfl
theorem dg75 : Try.prog.funcs[75]? = some Try.f75 := Try.func75
theorem do75 : okF Try.prog Try.f75 = true := by kernel_rfl
noncomputable def d89 : FCode := (.seq (.run (.go (.fieldAddr 0 (.tmp (P 1))) (P 4)::
.go (.load1 (.tmp (P 4))) (P 5)::
.go (.move (.tmp (P 5))) (P 3)::
[])) (.block 0 (.loop (.seq (.seq (.run (.go (.move (.tmp (P 3))) (P 6)::
.go (.fieldAddr 1 (.tmp (P 1))) (P 7)::
.go (.load1 (.tmp (P 7))) (P 8)::
.go (.bin .leq 3 (.tmp (P 6)) (.tmp (P 8))) (P 9)::
[])) (.cond (.tmp (P 9)) .skip (.exit 0))) (.seq (.block 1 (.seq (.run (.go (.move (.tmp (P 0))) (P 12)::
.go (.move (.tmp (P 3))) (P 13)::
.go (.call (.tmp (P 12)) [(.tmp (P 13))]) (P 14)::
.go (.un .not (.tmp (P 14))) (P 15)::
[])) (.cond (.tmp (P 15)) .ret .skip))) (.run (.go (.move (.tmp (P 3))) (P 10)::
.go (.bin .add 3 (.tmp (P 10)) (.con (.int .i64 (.ofNat 1)))) (P 11)::
.go (.move (.tmp (P 11))) (P 3)::
[])))))))
theorem de89 : @compF Try.prog (Gl.none Try.prog) Try.f89 2 = .mk d89 (mkTT 16) [(P 0),(P 1)] [] := by kernel_rfl
theorem dg89 : Try.prog.funcs[89]? = some Try.f89 := Try.func89
theorem do89 : okF Try.prog Try.f89 = true := by kernel_rfl
noncomputable def d61 : FCode := (.seq (.run (.go (.box 92 (.tmp (P 0))) (P 2)::
.go (.box 3 (.tmp (P 1))) (P 3)::
.go (.move (.con (.pointer none))) (P 4)::
[])) (.seq (.draw 17 (.go (.fieldAddr 0 (.tmp (P 2))) (P 8)::
.go (.loadN 4 (.tmp (P 8))) (P 9)::
.go (.fieldAddr 4 (.tmp (P 2))) (P 10)::
.go (.load1 (.tmp (P 10))) (P 11)::
.go (.fieldAddr 0 (.tmp (P 2))) (P 12)::
.go (.fieldAddr 0 (.tmp (P 12))) (P 13)::
.go (.load1 (.tmp (P 13))) (P 14)::
.go (.load1 (.tmp (P 3))) (P 15)::
.go (.bin .add 3 (.tmp (P 14)) (.tmp (P 15))) (P 16)::
.go (.fieldAddr 0 (.tmp (P 2))) (P 17)::
.go (.fieldAddr 2 (.tmp (P 17))) (P 18)::
.go (.load1 (.tmp (P 18))) (P 19)::
.go (.call (.tmp (P 11)) [(.tmp (P 16)),(.tmp (P 19))]) (P 20)::
.go (.build [(.int .i64 (.ofNat 0)),(.int .i64 (.ofNat 0)),(.int .i64 (.ofNat 0)),(.int .i64 (.ofNat 0)),(.int .i64 (.ofNat 0)),(.int .i64 (.ofNat 0)),(.int .i64 (.ofNat 0)),(.int .i64 (.ofNat 0)),(.int .i64 (.ofNat 0)),(.int .i64 (.ofNat 0)),(.int .i64 (.ofNat 0)),(.int .i64 (.ofNat 0)),(.int .i64 (.ofNat 0)),(.int .i64 (.ofNat 0)),(.int .i64 (.ofNat 0)),(.int .i64 (.ofNat 0)),(.int .i64 (.ofNat 0)),(.int .i64 (.ofNat 0)),(.int .i64 (.ofNat 0)),(.int .i64 (.ofNat 0)),(.int .i64 (.ofNat 0)),(.int .i64 (.ofNat 0)),(.int .i64 (.ofNat 0)),(.int .i64 (.ofNat 0)),(.int .i64 (.ofNat 0)),(.int .i64 (.ofNat 0)),(.int .i64 (.ofNat 0)),(.int .i64 (.ofNat 0)),(.int .i64 (.ofNat 0)),(.int .i64 (.ofNat 0)),(.int .i64 (.ofNat 0)),(.int .i64 (.ofNat 0)),(.int .i64 (.ofNat 0)),(.int .i64 (.ofNat 0)),(.int .i64 (.ofNat 0)),(.int .i64 (.ofNat 0)),(.int .i64 (.ofNat 0)),(.int .i64 (.ofNat 0)),(.int .i64 (.ofNat 0)),(.int .i64 (.ofNat 0)),(.int .i64 (.ofNat 0)),(.int .i64 (.ofNat 0)),(.int .i64 (.ofNat 0)),(.int .i64 (.ofNat 0)),(.int .i64 (.ofNat 0)),(.int .i64 (.ofNat 0)),(.int .i64 (.ofNat 0)),(.int .i64 (.ofNat 0)),(.int .i64 (.ofNat 0)),(.int .i64 (.ofNat 0)),(.int .i64 (.ofNat 0)),(.int .i64 (.ofNat 0)),(.int .i64 (.ofNat 0)),(.int .i64 (.ofNat 0)),(.int .i64 (.ofNat 0)),(.int .i64 (.ofNat 0))] [(0,4,(.tmp (P 9))),(55,1,(.tmp (P 20)))]) (P 21)::
.go (.box 127 (.tmp (P 21))) (P 22)::
.go (.alloc 101 [(.pointer none)]) (P 5)::
.un (.store 1 (.tmp (P 5)) (.tmp (P 22)))::
[]) [.ok,.rd none (.loadN 4 (.tmp (P 8))) (some (P 9)) [13],.ok,.ok,.ok,.ok,.ok,.ok,.ok,.ok,.ok,.ok,.ok,.ok,.nw none (some (P 22)) 14 true,.nw none (some (P 5)) 15 true,.ok]) (.seq (.run (.go (.fieldAddr 0 (.tmp (P 2))) (P 23)::
.go (.fieldAddr 2 (.tmp (P 23))) (P 24)::
.go (.load1 (.tmp (P 24))) (P 25)::
.go (.build [(.int .i64 (.ofNat 0)),(.int .i64 (.ofNat 0))] [(0,1,(.con (.int .i64 (.ofNat 0)))),(1,1,(.tmp (P 25)))]) (P 26)::
.go (.alloc 53 [(.int .i64 (.ofNat 0)),(.int .i64 (.ofNat 0))]) (P 6)::
.un (.store 2 (.tmp (P 6)) (.tmp (P 26)))::
[])) (.seq (.seq (.run (.go (.loadN 2 (.tmp (P 6))) (P 27)::
.go (.call (.con (.func (.func 75) ⟨[]⟩ ⟨[]⟩)) [(.tmp (P 27))]) (P 28)::
[])) (.block 0 (.rangeFunc (.tmp (P 28)) [(P 29)] (rfA Try.f61 0) (rfB Try.f61 0) (.run (.go (.move (.tmp (P 29))) (P 7)::
[])) (.block 1 (.draw 23 (.go (.load1 (.tmp (P 5))) (P 30)::
.go (.move (.tmp (P 7))) (P 31)::
.go (.fieldAddr 4 (.tmp (P 2))) (P 32)::
.go (.load1 (.tmp (P 32))) (P 33)::
.go (.fieldAddr 0 (.tmp (P 2))) (P 34)::
.go (.fieldAddr 0 (.tmp (P 34))) (P 35)::
.go (.load1 (.tmp (P 35))) (P 36)::
.go (.move (.tmp (P 7))) (P 37)::
.go (.call (.tmp (P 33)) [(.tmp (P 36)),(.tmp (P 37))]) (P 38)::
.go (.fieldAddr 4 (.tmp (P 2))) (P 39)::
.go (.load1 (.tmp (P 39))) (P 40)::
.go (.load1 (.tmp (P 3))) (P 41)::
.go (.fieldAddr 0 (.tmp (P 2))) (P 42)::
.go (.fieldAddr 2 (.tmp (P 42))) (P 43)::
.go (.load1 (.tmp (P 43))) (P 44)::
.go (.move (.tmp (P 7))) (P 45)::
.go (.bin .sub 3 (.tmp (P 44)) (.tmp (P 45))) (P 46)::
.go (.call (.tmp (P 40)) [(.tmp (P 41)),(.tmp (P 46))]) (P 47)::
.go (.bin .mul 3 (.tmp (P 38)) (.tmp (P 47))) (P 48)::
.go (.nilCheck (.tmp (P 30))) (P 49)::
.go (.fieldAddr 4 (.tmp (P 49))) (P 50)::
.go (.indexAddr (some 51) 1 (.tmp (P 50)) (.tmp (P 31))) (P 51)::
.un (.store 1 (.tmp (P 51)) (.tmp (P 48)))::
[]) [.rd none (.load1 (.tmp (P 5))) (some (P 30)) [9,18],.ok,.ok,.ok,.ok,.ok,.ok,.ok,.ok,.ok,.rd none (.load1 (.tmp (P 39))) (some (P 40)) [0],.rd none (.load1 (.tmp (P 3))) (some (P 41)) [0],.ok,.ok,.rd none (.load1 (.tmp (P 43))) (some (P 44)) [0],.ok,.ok,.ok,.ok,.ok,.ok,.ok,.ok]))))) (.seq (.run (.go (.load1 (.tmp (P 5))) (P 52)::
.go (.move (.tmp (P 52))) (P 4)::
[])) .ret)))))
theorem de61 : @compF Try.prog (Gl.none Try.prog) Try.f61 2 = .mk d61 (mkTT 53) [(P 0),(P 1)] [.tmp (P 4)] := by kernel_rfl
theorem dg61 : Try.prog.funcs[61]? = some Try.f61 := Try.func61
theorem do61 : okF Try.prog Try.f61 = true := by kernel_rfl
abbrev nf (p : Nat) : Value := .func (.func 89) ⟨[]⟩ ⟨[PT p]⟩
theorem f75_ok (a b : Int) (H : Heap) : F Try.prog 75 ⟨[.agg ⟨A2 a b⟩]⟩ H (fun v H' => ∃ p, v = nf p ∧ H.next ≤ p ∧ Grow H H' ∧ Bx H' p (A2 a b) 53) := by
  refine F.entryL rfl dg75 do75 de75 rfl (by kernel_rfl) ?_
  simp only[sets]
  refine V.re [(0, .agg ⟨A2 a b⟩)] (N := 4) (by intro i; simp only[full_st, Full.mk]) (by simp only[Kn, gt_st, full_st, Full.mk, ↓reduceIte, qD, qE, decide_true, and_self]) ?_
  intro t hF hA
  simp only[Kn, and_true] at hA
  (repeat first|apply sA|apply sB|apply sC|apply sD|apply sE)
  refine V.line' (by simp +contextual (disch := first|omega|simp only[nx];omega) only[D4,qF,qG,qA,qB,qC,D5,hF,hA,↓reduceIte,qD,qE]; with_reducible rfl) ?_
  (repeat first|apply sA|apply sB|apply sC|apply sD|apply sE)
  refine V.line' (by simp +contextual (disch := first|omega|simp only[nx];omega) only[D4,qF,qG,qA,qB,qC,D5,hF,hA,↓reduceIte,qD,qE]; with_reducible rfl) ?_
  (repeat first|apply sA|apply sB|apply sC|apply sD|apply sE)
  refine V.ret (V.rets rfl (Lv.retF (by simp +contextual (disch := first|omega|simp only[nx];omega) only[D1, cells_alloc_at, cells_alloc_ne, cells_set_at, cells_set_ne, yres, yres1, yresL, qA, qB, qC, D5,hF,hA,↓reduceIte,qD,qE]; rfl) ?_))
  refine ⟨H.next, rfl, Nat.le_refl _, ?_, ?_⟩
  · (repeat first | assumption | exact Grow.refl _ | refine Grow.alloc ?_ _ | refine Grow.set ?_ (by first|omega|simp only[nx];omega) _)
  · (repeat first | assumption | exact Bx.new _ _ _ | exact Bx.newAt (by first|omega|simp only[nx];omega) | refine Bx.put (by first|omega|simp only[nx];omega) _ _ | refine Bx.alloc ?_ _ | refine Bx.set ?_ (by first|omega|simp only[nx];omega) _)
def numL (a n : Nat) : List (List Value) := (List.range n).map fun k => [I ((a + k : Nat) : Int)]
theorem numL_len (a n : Nat) : (numL a n).length = n := by simp [numL]
theorem numL_get {a n k : Nat} (h : k < (numL a n).length) : (numL a n)[k] = [I ((a + k : Nat) : Int)] := by simp [numL]
theorem f89_iter (a n : Nat) (ha : a + n ≤ 1048576) {H0 : Heap} {p : Nat} (hb : Bx H0 p (A2 a ((a : Int) + n - 1)) 53) : Iter Try.prog 89 [] [PT p] (· = p) H0 (numL a n) := by
  intro y U I0 J H hH hD sI sJ hY h0
  obtain ⟨_, hU, hp⟩ := hD p rfl
  have bb : Bx H p (A2 a ((a : Int) + n - 1)) 53 := ⟨Nat.lt_of_lt_of_le hb.1 hH, by have := hb.2; unfold Heap.cellsAt at this ⊢; rw [hp]; exact this⟩
  rw [numL_len] at *
  show F Try.prog 89 ⟨[y, PT p]⟩ H _
  refine F.entryL rfl dg89 do89 de89 rfl (by kernel_rfl) ?_
  simp only[sets]
  refine V.re [(0, y), (1, PT p)] (N := 16) (by intro i; simp only[full_st, Full.mk]) (by simp only[Kn, gt_st, full_st, Full.mk, ↓reduceIte, qD, qE, decide_true, and_self]) ?_
  intro t hF hA
  simp only[Kn, and_true] at hA
  (repeat first|apply sA|apply sB|apply sC|apply sD|apply sE)
  refine V.line' (by simp +contextual (disch := first|omega|simp only[nx];omega) only[D4,qF,qG,qA,qB,qC,D5,hF,hA,↓reduceIte,qD,qE, bb.2]; with_reducible rfl) ?_
  (repeat first|apply sA|apply sB|apply sC|apply sD|apply sE)
  refine V.loop (fun r t m X => ∃ (k : Nat), k ≤ n ∧ r = n - k ∧ m = [] ∧ GrowS U H X ∧ I0 k X ∧ Full 16 t ∧ Kn [(0, y), (1, PT p), (3, I ((a + k : Nat) : Int))] t) n ?_ ?_
  · exact ⟨0, by omega, by omega, rfl, .refl _, h0, (by intro;simp only[full_st,hF]), (by simp only[Kn, D5,hF,hA,↓reduceIte,qD,qE,and_self,and_true,true_and];try (repeat' constructor))⟩
  clear hF hA
  rintro r t m X ⟨k, hk, rfl, rfl, hg, hI, hF, hA⟩
  simp only[Kn, and_true] at hA
  have bx := bb.growS hg hU
  (repeat first|apply sA|apply sB|apply sC|apply sD|apply sE)
  refine V.line' (by simp +contextual (disch := first|omega|simp only[nx];omega) only[D4,qF,qG,qA,qB,qC,D5,hF,hA,↓reduceIte,qD,qE, bx.2]; with_reducible rfl) ?_
  (repeat first|apply sA|apply sB|apply sC|apply sD|apply sE)
  refine V.condP (by simp only[D6,D5,hF,hA,↓reduceIte,qD,qE]; rfl) (fun hlt => ?_) (fun hlt => ?_)
  · have hk' : k < n := by omega
    have hy := hY k (by rw [numL_len]; exact hk') X hI hg
    rw [numL_get] at hy
    (repeat first|apply sA|apply sB|apply sC|apply sD|apply sE)
    refine V.run ?_
    refine VI.steps' 2 (by simp +contextual (disch := first|omega|simp only[nx];omega) only[D4,qF,qG,qA,qB,qC,D5,hF,hA,↓reduceIte,qD,qE]; with_reducible rfl) ?_
    simp only[ds]
    refine VI.callV (y := y) (by simp only[D6,D5,hF,hA,↓reduceIte,qD,qE]; try rfl) (by simp only[List.map_cons, List.map_nil, D6,D5,hF,hA,↓reduceIte,qD,qE]; exact hy) (fun v X' hv => ?_)
    obtain ⟨hg', hv⟩ := hv
    rcases hv with ⟨rfl, hI'⟩ | ⟨rfl, hJ⟩
    · refine VI.line' (by simp +contextual (disch := first|omega|simp only[nx];omega) only[D4,qF,qG,qA,qB,qC,D5,hF,hA,↓reduceIte,qD,qE]; with_reducible rfl) ?_
      (repeat first|apply sA|apply sB|apply sC|apply sD|apply sE)
      refine V.condF (by simp only[D6,D5,hF,hA,↓reduceIte,qD,qE]) ?_
      (repeat first|apply sA|apply sB|apply sC|apply sD|apply sE)
      have e : ((a + k : Nat) : Int) + 1 = ((a + (k + 1) : Nat) : Int) := by omega
      refine V.line' (by simp +contextual (disch := first|omega|simp only[nx];omega) only[D4,qF,qG,qA,qB,qC,D5,hF,hA,↓reduceIte,qD,qE, e]; with_reducible rfl) ?_
      refine V.nil (Or.inl ⟨rfl, n - (k + 1), by omega, ?_⟩)
      exact ⟨k + 1, hk', rfl, rfl, hg.trans hg', hI', (by intro;simp only[full_st,hF]), (by simp only[Kn, D5,hF,hA,↓reduceIte,qD,qE,and_self,and_true,true_and];try (repeat' constructor))⟩
    · refine VI.line' (by simp +contextual (disch := first|omega|simp only[nx];omega) only[D4,qF,qG,qA,qB,qC,D5,hF,hA,↓reduceIte,qD,qE]; with_reducible rfl) ?_
      (repeat first|apply sA|apply sB|apply sC|apply sD|apply sE)
      refine V.condT (by simp only[D6,D5,hF,hA,↓reduceIte,qD,qE]) ?_
      (repeat first|apply sA|apply sB|apply sC|apply sD|apply sE)
      refine V.ret (V.rets rfl (Or.inr ⟨by simp, V.rets rfl (Lv.retF (by simp only[yres, yresL, Option.map_some]; rfl) ?_)⟩))
      exact ⟨hg.trans hg', .inr hJ⟩
  · obtain rfl : k = n := by omega
    refine V.exit ?_
    (repeat first | refine V.pass ?_ | refine V.here ?_ | refine V.out (by decide) ?_)
    refine V.nil (Or.inr ⟨by simp, ?_⟩)
    (repeat first | refine V.pass ?_ | refine V.here ?_ | refine V.out (by decide) ?_)
    (repeat first|apply sA|apply sB|apply sC|apply sD|apply sE)
    refine V.nil (Lv.normal (by simp only[yres, yresL, Option.map_some]; rfl) ?_)
    exact ⟨hg, .inl hI⟩
theorem Wy.growS {U : Nat → Prop} {A B : Heap} {i j x : Nat} (h : Wy A i j x) (g : GrowS U A B) (hi : ¬ U i) (hj : ¬ U j) (hx : ¬ U x) : Wy B i j x := by
  obtain ⟨h1, h2, h3, h4, es, h5, h6⟩ := h
  exact ⟨h1.growS g hi, h2.growS g hj, h3, h4, es, h5.growS g hx, h6⟩
def SPk (a b c d z : Int) (q : Nat → Value) : List Value := A4 a b c d ++ An 51 q ++ [I z]
section
variable {a b c d z : Int} {q : Nat → Value} {f : Nat} {v : Value}
theorem SPk_len : (SPk a b c d z q).length = 56 := by simp [SPk, An_len]
theorem SPk_set (h : f < 51) : (SPk a b c d z q).set (4 + f) v = SPk a b c d z (fun i => if i = f then v else q i) := by
  unfold SPk
  rw [List.set_append, if_pos (by simp [An_len]; omega), List.set_append, if_neg (by simp)]
  have e : 4 + f - (A4 a b c d).length = f := by simp
  rw [e, An_set]
theorem SPk_2 : (SPk a b c d z q)[2]? = some (I c) := rfl
theorem SPk_3 : (SPk a b c d z q)[3]? = some (I d) := rfl
theorem SPk_s (h : f < 51) : (SPk a b c d z q)[4 + f]? = some (q f) := by
  unfold SPk
  rw [List.getElem?_append_left (by simp [An_len]; omega), List.getElem?_append_right (by simp)]
  have e : 4 + f - (A4 a b c d).length = f := by simp
  rw [e, An_get h]
theorem SPk_all : (SPk a b c d z q)[55]? = some (I z) := by
  unfold SPk
  rw [List.getElem?_append_right (by simp [An_len])]
  simp [An_len]
end
def part (a u c f : Nat) : Nat := ch a f * ch u (c - f)
theorem part_le {a u c f : Nat} (hf : f ≤ c) : part a u c f ≤ ch (a + u) c := by
  rw [← vander]
  exact sm_at (p := fun f => ch a f * ch u (c - f)) (by omega)
theorem f61_ok {a b c d u : Nat} (hu : a + u ≤ 50) (hc : c ≤ a) {H : Heap} {i j x : Nat} (hw : Wy H i j x) :
    F Try.prog 61 ⟨[.agg ⟨[I a, I b, I c, I d, cw i j]⟩, I u]⟩ H (fun v H' => ∃ p, v = PT p ∧ H.next ≤ p ∧ GrowX x H H' ∧ Wy H' i j x ∧ Bx H' p (SPk a b c d (ch (a + u) c : Nat) (fun f => I (if f < c + 1 then ((part a u c f : Nat) : Int) else 0))) 127) := by
  have hi := hw.1.1
  have hj := hw.2.1.1
  obtain ⟨es, hm, _⟩ := hw.2.2.2.2
  have hx := hm.1
  clear hm
  have e1 : (a : Int) + u = ((a + u : Nat) : Int) := rfl
  refine F.entryL rfl dg61 do61 de61 rfl (by kernel_rfl) ?_
  simp only[sets]
  refine V.re [(0, .agg ⟨[I a, I b, I c, I d, cw i j]⟩), (1, I u)] (N := 53) (by intro i; simp only[full_st, Full.mk]) (by simp only[Kn, gt_st, full_st, Full.mk, ↓reduceIte, qD, qE, decide_true, and_self]) ?_
  intro t hF hA
  simp only[Kn, and_true] at hA
  (repeat first|apply sA|apply sB|apply sC|apply sD|apply sE)
  refine V.line' (by simp +contextual (disch := first|omega|simp only[nx];omega) only[D4,qF,qG,qA,qB,qC,D5,hF,hA,↓reduceIte,qD,qE]; with_reducible rfl) ?_
  refine V.heap (fun H2 => Grow H H2 ∧ Bx H2 H.next [I a, I b, I c, I d, cw i j] 92 ∧ Bx H2 (H.next + 1) [I u] 3) ⟨?_, ?_, ?_⟩ ?_
  · (repeat first | assumption | exact Grow.refl _ | refine Grow.alloc ?_ _ | refine Grow.set ?_ (by first|omega|simp only[nx];omega) _)
  · (repeat first | assumption | exact Bx.new _ _ _ | exact Bx.newAt (by first|omega|simp only[nx];omega) | refine Bx.put (by first|omega|simp only[nx];omega) _ _ | refine Bx.alloc ?_ _ | refine Bx.set ?_ (by first|omega|simp only[nx];omega) _)
  · (repeat first | assumption | exact Bx.new _ _ _ | exact Bx.newAt (by first|omega|simp only[nx];omega) | refine Bx.put (by first|omega|simp only[nx];omega) _ _ | refine Bx.alloc ?_ _ | refine Bx.set ?_ (by first|omega|simp only[nx];omega) _)
  rintro H1 ⟨g1, b1, c1⟩
  have w1 := hw.grow g1
  (repeat first|apply sA|apply sB|apply sC|apply sD|apply sE)
  refine V.draw ?_
  refine VD.dins 9 (by simp +contextual (disch := first|omega|simp only[nx];omega) only[D4,qF,qG,qA,qB,qC,D5,hF,hA,↓reduceIte,qD,qE, b1.2, c1.2, e1]; with_reducible rfl) ?_
  simp only[ds]
  refine VD.dins 3 (by simp +contextual (disch := first|omega|simp only[nx];omega) only[D4,qF,qG,qA,qB,qC,D5,hF,hA,↓reduceIte,qD,qE, b1.2, c1.2, e1]; with_reducible rfl) ?_
  simp only[ds]
  refine VD.callR (by simp only[D6,D5,hF,hA,↓reduceIte,qD,qE]; try rfl) (f78_ok (a + u) c (by omega) (by omega) w1) (by simp only[D6,D5,hF,hA,↓reduceIte,qD,qE]; try rfl) (fun v2 H2 ⟨h2, g2, w2⟩ => ?_)
  subst h2
  have n1 := g2.1
  have nb := b1.1
  have nc := c1.1
  have b2 := b1.growX g2 (by omega)
  have c2 := c1.growX g2 (by omega)
  refine VD.lineD' (by simp +contextual (disch := first|omega|simp only[nx];omega) only[D4,qF,qG,qA,qB,qC,D5,hF,hA,↓reduceIte,qD,qE, b2.2, c2.2]; with_reducible rfl) ?_ ?_ rfl ?_
  · simp only[monoG, List.cons_append, List.nil_append, Heap.next_set, Heap.next_alloc, Nat.le_refl, true_and, and_true] <;> omega
  · simp only[dcAll, dcOk, wantD, List.cons_append, List.nil_append, true_and, and_true]
    exact ⟨fun _ q hq => by simp only[List.mem_cons, List.not_mem_nil, or_false] at hq; (repeat (rcases hq with rfl | hq; exact ⟨_, _, _, rfl, (by simp +contextual (disch := first|omega|simp only[nx];omega) only[D4,qF,qG,qA,qB,qC,D5,hF,hA,↓reduceIte,qD,qE, b1.2, b2.2]; with_reducible rfl), fun p hp => by cases hp; simp only[D5,hF,hA,↓reduceIte,qD,qE]; first | exact vEq_An | (simp [vEq, vEq0, all2]; done) | assumption⟩)); (try (subst hq; exact ⟨_, _, _, rfl, (by simp +contextual (disch := first|omega|simp only[nx];omega) only[D4,qF,qG,qA,qB,qC,D5,hF,hA,↓reduceIte,qD,qE, b1.2, b2.2]; with_reducible rfl), fun p hp => by cases hp; simp only[D5,hF,hA,↓reduceIte,qD,qE]; first | exact vEq_An | (simp [vEq, vEq0, all2]; done) | assumption⟩)), fun _ => ⟨_, _, _, rfl, rfl, rfl, (by simp only[D5,hF,hA,↓reduceIte,qD,qE]; simp [inBound]), fun _ => ⟨_, _, _, cells_alloc _ _ _ _, (by first | exact An_inb | rfl)⟩⟩, fun _ => ⟨_, _, _, rfl, rfl, rfl, (by simp only[D5,hF,hA,↓reduceIte,qD,qE]; simp [inBound]), fun _ => ⟨_, _, _, cells_alloc _ _ _ _, (by first | exact An_inb | rfl)⟩⟩⟩
  refine V.heap (fun X => GrowX x H1 X ∧ Wy X i j x ∧ Bx X H.next [I a, I b, I c, I d, cw i j] 92 ∧ Bx X (H.next + 1) [I u] 3 ∧ Bx X H2.next (SPk a b c d (ch (a + u) c : Nat) (fun f => I (if f < 0 then ((part a u c f : Nat) : Int) else 0))) 127 ∧ Bx X (H2.next + 1) [PT H2.next] 101) ⟨?_, ?_, ?_, ?_, ?_, ?_⟩ ?_
  · refine g2.trans (Grow.x ?_ x)
    (repeat first | assumption | exact Grow.refl _ | refine Grow.alloc ?_ _ | refine Grow.set ?_ (by first|omega|simp only[nx];omega) _)
  · refine w2.grow ?_
    (repeat first | assumption | exact Grow.refl _ | refine Grow.alloc ?_ _ | refine Grow.set ?_ (by first|omega|simp only[nx];omega) _)
  · (repeat first | assumption | exact Bx.new _ _ _ | exact Bx.newAt (by first|omega|simp only[nx];omega) | refine Bx.put (by first|omega|simp only[nx];omega) _ _ | refine Bx.alloc ?_ _ | refine Bx.set ?_ (by first|omega|simp only[nx];omega) _)
  · (repeat first | assumption | exact Bx.new _ _ _ | exact Bx.newAt (by first|omega|simp only[nx];omega) | refine Bx.put (by first|omega|simp only[nx];omega) _ _ | refine Bx.alloc ?_ _ | refine Bx.set ?_ (by first|omega|simp only[nx];omega) _)
  · show Bx _ _ [I a, I b, I c, I d, I 0, I 0, I 0, I 0, I 0, I 0, I 0, I 0, I 0, I 0, I 0, I 0, I 0, I 0, I 0, I 0, I 0, I 0, I 0, I 0, I 0, I 0, I 0, I 0, I 0, I 0, I 0, I 0, I 0, I 0, I 0, I 0, I 0, I 0, I 0, I 0, I 0, I 0, I 0, I 0, I 0, I 0, I 0, I 0, I 0, I 0, I 0, I 0, I 0, I 0, I 0, I (ch (a + u) c : Nat)] 127
    (repeat first | assumption | exact Bx.new _ _ _ | exact Bx.newAt (by first|omega|simp only[nx];omega) | refine Bx.put (by first|omega|simp only[nx];omega) _ _ | refine Bx.alloc ?_ _ | refine Bx.set ?_ (by first|omega|simp only[nx];omega) _)
  · (repeat first | assumption | exact Bx.new _ _ _ | exact Bx.newAt (by first|omega|simp only[nx];omega) | refine Bx.put (by first|omega|simp only[nx];omega) _ _ | refine Bx.alloc ?_ _ | refine Bx.set ?_ (by first|omega|simp only[nx];omega) _)
  rintro H3 ⟨g3, w3, b3, c3, s3, r3⟩
  have n3 := s3.1
  have n3' := r3.1
  (repeat first|apply sA|apply sB|apply sC|apply sD|apply sE)
  refine V.re [(2, PT H.next), (3, PT (H.next + 1)), (5, PT (H2.next + 1))] (N := 53) (by intro;simp only[full_st,hF]) (by simp only[Kn, D5,hF,hA,↓reduceIte,qD,qE,and_self,and_true,true_and];try (repeat' constructor)) ?_
  clear hF hA
  intro t hF hA
  simp only[Kn, and_true] at hA
  refine V.line' (by simp +contextual (disch := first|omega|simp only[nx];omega) only[D4,qF,qG,qA,qB,qC,D5,hF,hA,↓reduceIte,qD,qE, b3.2]; with_reducible rfl) ?_
  refine V.heap (fun X => Grow H3 X ∧ Bx X H3.next (A2 0 c) 53) ⟨?_, ?_⟩ ?_
  · (repeat first | assumption | exact Grow.refl _ | refine Grow.alloc ?_ _ | refine Grow.set ?_ (by first|omega|simp only[nx];omega) _)
  · (repeat first | assumption | exact Bx.new _ _ _ | exact Bx.newAt (by first|omega|simp only[nx];omega) | refine Bx.put (by first|omega|simp only[nx];omega) _ _ | refine Bx.alloc ?_ _ | refine Bx.set ?_ (by first|omega|simp only[nx];omega) _)
  rintro H4 ⟨g4, b4⟩
  (repeat first|apply sA|apply sB|apply sC|apply sD|apply sE)
  refine V.run ?_
  refine VI.steps' 1 (by simp +contextual (disch := first|omega|simp only[nx];omega) only[D4,qF,qG,qA,qB,qC,D5,hF,hA,↓reduceIte,qD,qE, b4.2]; with_reducible rfl) ?_
  simp only[ds]
  refine VI.callR (by simp only[D6,D5,hF,hA,↓reduceIte,qD,qE]; try rfl) (f75_ok 0 c _) (by simp only[D6,D5,hF,hA,↓reduceIte,qD,qE]; try rfl) (fun v5 H5 ⟨p, hv5, hp, g5, b5⟩ => ?_)
  subst hv5
  refine VI.line' (by simp +contextual (disch := first|omega|simp only[nx];omega) only[D4,qF,qG,qA,qB,qC,D5,hF,hA,↓reduceIte,qD,qE]; with_reducible rfl) ?_
  have g45 := g4.trans g5
  have w5 := w3.grow g45
  have bb := b3.grow g45
  have cc := c3.grow g45
  have ss := s3.grow g45
  have rr := r3.grow g45
  have n5 := g45.1
  have n4 := g4.1
  have np := b5.1
  have ec : ((0 : Nat) : Int) + ((c + 1 : Nat) : Int) - 1 = c := by omega
  have b5' : Bx H5 p (A2 ((0 : Nat) : Int) (((0 : Nat) : Int) + ((c + 1 : Nat) : Int) - 1)) 53 := by rw [ec]; exact b5
  (repeat first|apply sA|apply sB|apply sC|apply sD|apply sE)
  refine V.re [(2, PT H.next), (3, PT (H.next + 1)), (5, PT (H2.next + 1)), (28, nf p)] (N := 53) (by intro;simp only[full_st,hF]) (by simp only[Kn, D5,hF,hA,↓reduceIte,qD,qE,and_self,and_true,true_and];try (repeat' constructor)) ?_
  clear hF hA
  intro t hF hA
  simp only[Kn, and_true] at hA
  refine V.rangeL (f89_iter 0 (c + 1) (by omega) b5') (fun y => y = x ∨ y = H2.next) (fun k X => Wy X i j x ∧ Bx X H.next [I a, I b, I c, I d, cw i j] 92 ∧ Bx X (H.next + 1) [I u] 3 ∧ Bx X H2.next (SPk a b c d (ch (a + u) c : Nat) (fun f => I (if f < k then ((part a u c f : Nat) : Int) else 0))) 127 ∧ Bx X (H2.next + 1) [PT H2.next] 101) (fun _ _ => False)
    (by simp only[D6,D5,hF,hA,↓reduceIte,qD,qE]; try rfl) rfl (Nat.le_succ _) ?_ ?_ ?_ (fun _ _ _ _ _ h => h.elim) ?_ ?_ ?_
  · rintro _ rfl
    exact ⟨b5.1, by omega, by rw [Heap.get_alloc, if_neg (by omega)]⟩
  · intro l hl
    obtain ⟨q, _, rfl⟩ := List.mem_map.1 hl
    rfl
  · rintro k X X' r1 r2 ⟨h1, h2, h3, h4, h5⟩ _ _ g
    simp only[Heap.next_alloc] at g
    exact ⟨h1.growS g (by omega) (by omega) (by omega), h2.growS g (by omega), h3.growS g (by omega), h4.growS g (by omega), h5.growS g (by omega)⟩
  · intro r
    have g : Grow H5 ((H5.alloc (.deferred true)).alloc (.loop r)) := ((Grow.refl H5).alloc _).alloc _
    exact ⟨w5.grow g, bb.grow g, cc.grow g, ss.grow g, rr.grow g⟩
  · rintro k hk r X ⟨h1, h2, h3, h4, h5⟩ hg hlX hl hr
    simp only[Heap.next_alloc] at hlX
    rw [numL_len] at hk
    rw [numL_get]
    simp only[sets]
    refine V.line' (by simp +contextual (disch := first|omega|simp only[nx];omega) only[D4,qF,qG,qA,qB,qC,D5,hF,hA,↓reduceIte,qD,qE]; with_reducible rfl) ?_
    refine V.nil ⟨rfl, hl, .refl _, ?_⟩
    intro X2 _ hl2 g2'
    simp only[Heap.next_alloc] at g2' hl2
    have h1 := h1.growS g2' (by omega) (by omega) (by omega)
    have h2 := h2.growS g2' (by omega)
    have h3 := h3.growS g2' (by omega)
    have h4 := h4.growS g2' (by omega)
    have h5 := h5.growS g2' (by omega)
    (repeat first|apply sA|apply sB|apply sC|apply sD|apply sE)
    have hkc : k ≤ c := by omega
    have ek : ((0 + k : Nat) : Int) = (k : Int) := by omega
    have ek2 : (c : Int) - (k : Int) = ((c - k : Nat) : Int) := by omega
    refine V.draw ?_
    refine VD.dins 8 (by simp +contextual (disch := first|omega|simp only[nx];omega) only[D4,qF,qG,qA,qB,qC,D5,hF,hA,↓reduceIte,qD,qE, h5.2, h2.2]; with_reducible rfl) ?_
    simp only[ds]
    refine VD.callR (by simp only[D6,D5,hF,hA,↓reduceIte,qD,qE]; try rfl) (f78_ok a k (by omega) (by omega) h1) (by simp only[D6,D5,hF,hA,↓reduceIte,qD,qE]; try rfl) (fun v6 X3 ⟨q6, g6, w6⟩ => ?_)
    subst q6
    have m2 := h2.growX g6 (by omega)
    have m3 := h3.growX g6 (by omega)
    have m4 := h4.growX g6 (by omega)
    have m5 := h5.growX g6 (by omega)
    refine VD.dins 8 (by simp +contextual (disch := first|omega|simp only[nx];omega) only[D4,qF,qG,qA,qB,qC,D5,hF,hA,↓reduceIte,qD,qE, m2.2, m3.2, ek2]; with_reducible rfl) ?_
    simp only[ds]
    refine VD.callR (by simp only[D6,D5,hF,hA,↓reduceIte,qD,qE]; try rfl) (f78_ok u (c - k) (by omega) (by omega) w6) (by simp only[D6,D5,hF,hA,↓reduceIte,qD,qE]; try rfl) (fun v7 X4 ⟨q7, g7, w7⟩ => ?_)
    subst q7
    have l2 := m2.growX g7 (by omega)
    have l3 := m3.growX g7 (by omega)
    have l4 := m4.growX g7 (by omega)
    have l5 := m5.growX g7 (by omega)
    have hpl := part_le (a := a) (u := u) hkc
    have hcb := ch_bound (n := a + u) c (by omega)
    have ep : ((ch a k : Nat) : Int) * ((ch u (c - k) : Nat) : Int) = ((part a u c k : Nat) : Int) := by unfold part; push_cast; rfl
    have hix := idx_arr (len := 51) (o := 4) (i := H2.next) (k := k) (kd := .i64) (by omega)
    have hlt56 : 4 + k < 56 := by omega
    have o1 := h1.1.1
    refine VD.lineD' (by simp +contextual (disch := first|omega|simp only[nx];omega) only[D4,qF,qG,qA,qB,qC,D5,hF,hA,↓reduceIte,qD,qE, ep, hix, l4.2, SPk_len, hlt56]; with_reducible rfl) ?_ ?_ rfl ?_
    · have n6 := g6.1
      have n7 := g7.1
      simp only[monoG, List.cons_append, List.nil_append, Heap.next_set, Heap.next_alloc, Nat.le_refl, true_and, and_true] <;> omega
    · simp only[dcAll, dcOk, wantD, List.cons_append, List.nil_append, true_and, and_true]
      exact ⟨fun _ q hq => by simp only[List.mem_cons, List.not_mem_nil, or_false] at hq; (repeat (rcases hq with rfl | hq; exact ⟨_, _, _, rfl, (by simp +contextual (disch := first|omega|simp only[nx];omega) only[D4,qF,qG,qA,qB,qC,D5,hF,hA,↓reduceIte,qD,qE, h5.2, m5.2, l5.2]; with_reducible rfl), fun p hp => by cases hp; simp only[D5,hF,hA,↓reduceIte,qD,qE]; first | exact vEq_An | (simp [vEq, vEq0, all2]; done) | assumption⟩)); (try (subst hq; exact ⟨_, _, _, rfl, (by simp +contextual (disch := first|omega|simp only[nx];omega) only[D4,qF,qG,qA,qB,qC,D5,hF,hA,↓reduceIte,qD,qE, h5.2, m5.2, l5.2]; with_reducible rfl), fun p hp => by cases hp; simp only[D5,hF,hA,↓reduceIte,qD,qE]; first | exact vEq_An | (simp [vEq, vEq0, all2]; done) | assumption⟩)), fun _ q hq => by simp only[List.mem_cons, List.not_mem_nil, or_false] at hq; (repeat (rcases hq with rfl | hq; exact ⟨_, _, _, rfl, (by simp +contextual (disch := first|omega|simp only[nx];omega) only[D4,qF,qG,qA,qB,qC,D5,hF,hA,↓reduceIte,qD,qE, h2.2, m2.2, l2.2]; with_reducible rfl), fun p hp => by cases hp; simp only[D5,hF,hA,↓reduceIte,qD,qE]; first | exact vEq_An | (simp [vEq, vEq0, all2]; done) | assumption⟩)); (try (subst hq; exact ⟨_, _, _, rfl, (by simp +contextual (disch := first|omega|simp only[nx];omega) only[D4,qF,qG,qA,qB,qC,D5,hF,hA,↓reduceIte,qD,qE, h2.2, m2.2, l2.2]; with_reducible rfl), fun p hp => by cases hp; simp only[D5,hF,hA,↓reduceIte,qD,qE]; first | exact vEq_An | (simp [vEq, vEq0, all2]; done) | assumption⟩)), fun _ q hq => by simp only[List.mem_cons, List.not_mem_nil, or_false] at hq; (repeat (rcases hq with rfl | hq; exact ⟨_, _, _, rfl, (by simp +contextual (disch := first|omega|simp only[nx];omega) only[D4,qF,qG,qA,qB,qC,D5,hF,hA,↓reduceIte,qD,qE, h3.2, m3.2, l3.2]; with_reducible rfl), fun p hp => by cases hp; simp only[D5,hF,hA,↓reduceIte,qD,qE]; first | exact vEq_An | (simp [vEq, vEq0, all2]; done) | assumption⟩)); (try (subst hq; exact ⟨_, _, _, rfl, (by simp +contextual (disch := first|omega|simp only[nx];omega) only[D4,qF,qG,qA,qB,qC,D5,hF,hA,↓reduceIte,qD,qE, h3.2, m3.2, l3.2]; with_reducible rfl), fun p hp => by cases hp; simp only[D5,hF,hA,↓reduceIte,qD,qE]; first | exact vEq_An | (simp [vEq, vEq0, all2]; done) | assumption⟩)), fun _ q hq => by simp only[List.mem_cons, List.not_mem_nil, or_false] at hq; (repeat (rcases hq with rfl | hq; exact ⟨_, _, _, rfl, (by simp +contextual (disch := first|omega|simp only[nx];omega) only[D4,qF,qG,qA,qB,qC,D5,hF,hA,↓reduceIte,qD,qE, h2.2, m2.2, l2.2]; with_reducible rfl), fun p hp => by cases hp; simp only[D5,hF,hA,↓reduceIte,qD,qE]; first | exact vEq_An | (simp [vEq, vEq0, all2]; done) | assumption⟩)); (try (subst hq; exact ⟨_, _, _, rfl, (by simp +contextual (disch := first|omega|simp only[nx];omega) only[D4,qF,qG,qA,qB,qC,D5,hF,hA,↓reduceIte,qD,qE, h2.2, m2.2, l2.2]; with_reducible rfl), fun p hp => by cases hp; simp only[D5,hF,hA,↓reduceIte,qD,qE]; first | exact vEq_An | (simp [vEq, vEq0, all2]; done) | assumption⟩))⟩
    have hlt2 := Nat.lt_of_lt_of_le hlX g2'.1
    have hgl : (X4.set H2.next (.cells ⟨(SPk a b c d (ch (a + u) c : Nat) (fun f => I (if f < k then ((part a u c f : Nat) : Int) else 0))).set (4 + k) (I (part a u c k : Nat))⟩ 127 true)).get (H5.next + 1) = some (.loop { r with state := .busy }) := by
      rw [Heap.get_set, if_neg (by omega), g7.2 _ (Nat.lt_of_lt_of_le hlt2 g6.1) (by omega), g6.2 _ hlt2 (by omega), hl2]
    have hsp : (SPk a b c d (ch (a + u) c : Nat) (fun f => I (if f < k then ((part a u c f : Nat) : Int) else 0))).set (4 + k) (I (part a u c k : Nat)) = SPk a b c d (ch (a + u) c : Nat) (fun f => I (if f < k + 1 then ((part a u c f : Nat) : Int) else 0)) := by
      rw [SPk_set (by omega)]
      congr 1
      funext f
      by_cases h : f = k
      · rw [if_pos h, if_pos (by omega), h]
      · rw [if_neg h]
        by_cases h' : f < k
        · rw [if_pos h', if_pos (by omega)]
        · rw [if_neg h', if_neg (by omega)]
    rw [hsp] at hgl ⊢
    (repeat first|apply sA|apply sB|apply sC|apply sD|apply sE)
    refine V.nil ⟨hgl, ?_, .inl ⟨rfl, ?_⟩⟩
    · exact ((GrowS.x g6 (.inl rfl)).trans (GrowS.x g7 (.inl rfl))).set (.inl (.inr rfl)) _
    · have gs : GrowX H2.next X4 (X4.set H2.next (.cells ⟨SPk a b c d (ch (a + u) c : Nat) (fun f => I (if f < k + 1 then ((part a u c f : Nat) : Int) else 0))⟩ 127 true)) := ((Grow.refl X4).x _).set _
      refine ⟨w7.growS (U := (· = H2.next)) (GrowS.x gs rfl) (by omega) (by omega) (by omega), l2.growX gs (by omega), l3.growX gs (by omega), ?_, l5.growX gs (by omega)⟩
      exact ⟨l4.1, cells_set _ _ _ _ _⟩
  · rintro e X h hg hlX
    simp only[Heap.next_alloc] at hlX
    rcases h with ⟨rfl, h1, h2, h3, h4, h5⟩ | ⟨_, h⟩
    · have hgd : X.get H5.next = some (.deferred true) := by
        rw [hg.2 _ (by simp only[Heap.next_alloc]; omega) (by simp only[Heap.next_alloc]; omega), Heap.get_alloc, if_pos rfl]
      rw [numL_len] at h4
      (repeat first|apply sA|apply sB|apply sC|apply sD|apply sE)
      refine V.line' (by simp +contextual (disch := first|omega|simp only[nx];omega) only[D4,qF,qG,qA,qB,qC,D5,hF,hA,↓reduceIte,qD,qE, h5.2]; with_reducible rfl) ?_
      (repeat first|apply sA|apply sB|apply sC|apply sD|apply sE)
      refine V.ret (V.rets rfl (Lv.retM hgd (by simp only[yres, yres1, D5,hF,hA,↓reduceIte,qD,qE]; rfl) ?_))
      have gs : GrowX H5.next X (X.set H5.next .dead) := ((Grow.refl X).x _).set _
      refine ⟨H2.next, rfl, by omega, ?_, h1.growS (U := (· = H5.next)) (GrowS.x gs rfl) (by omega) (by omega) (by omega), h4.growX gs (by omega)⟩
      have t1 : GrowX x H H3 := (g1.x x).trans g3
      have t2 : GrowX x H H5 := t1.trans (g45.x x)
      refine ⟨Nat.le_trans t2.1 (by simp only[Heap.next_set]; omega), fun q hq hqx => ?_⟩
      have hq1 := g1.1
      rw [Heap.get_set, if_neg (by omega), hg.2 q (by simp only[Heap.next_alloc]; omega) (by simp only[Heap.next_alloc]; omega), Heap.get_alloc, if_neg (by omega)]
      exact t2.2 q hq hqx
    · exact h.elim
end Go.Xe.TMX
