/- What the statement MissLevels comes to. Conditions: none. -/
import Derived.Test.YtefoodhfkkcmcabTNK
import Derived.Test.YtefoodhfkkcmcabTNA
-- MOD TM
namespace Go.Xe.TMX
open Go Go.Xe Go.Proofs Go.Xe.Mth
open Nat (reduceLeDiff reduceSub reduceAdd reduceEqDiff reduceLT)
open Int (reduceNegSucc reduceEq)
set_option maxRecDepth 100000
set_option maxHeartbeats 3200000
set_option linter.unusedSimpArgs false
noncomputable def d46 : FCode := (.seq (.run (.go (.alloc 36 [(.int .i64 (.ofNat 0)),(.int .i64 (.ofNat 0))]) (pth 4)::
[])) (.seq (.run (.go (.move (.tmp (pth 0))) (pth 5)::
.go (.move (.tmp (pth 1))) (pth 6)::
.go (.build [(.int .i64 (.ofNat 0)),(.int .i64 (.ofNat 0))] [(0,1,(.tmp (pth 5))),(1,1,(.tmp (pth 6)))]) (pth 7)::
.un (.store 2 (.tmp (pth 4)) (.tmp (pth 7)))::
[])) .ret))
theorem de46 : @compF Try.prog (Gl.none Try.prog) Try.f46 2 = .mk d46 (mkTT 8) [(pth 0),(pth 1)] [.many (pth 4) 2] := by kernel_rfl
theorem dg46 : Try.prog.funcs[46]? = some Try.f46 := Try.func46
theorem do46 : okF Try.prog Try.f46 = true := by kernel_rfl
noncomputable def d47 : FCode := (.seq (.run (.go (.alloc 53 [(.int .i64 (.ofNat 0)),(.int .i64 (.ofNat 0))]) (pth 4)::
[])) (.seq (.run (.go (.move (.tmp (pth 0))) (pth 5)::
.go (.move (.tmp (pth 1))) (pth 6)::
.go (.build [(.int .i64 (.ofNat 0)),(.int .i64 (.ofNat 0))] [(0,1,(.tmp (pth 5))),(1,1,(.tmp (pth 6)))]) (pth 7)::
.un (.store 2 (.tmp (pth 4)) (.tmp (pth 7)))::
[])) .ret))
theorem de47 : @compF Try.prog (Gl.none Try.prog) Try.f47 2 = .mk d47 (mkTT 8) [(pth 0),(pth 1)] [.many (pth 4) 2] := by kernel_rfl
theorem dg47 : Try.prog.funcs[47]? = some Try.f47 := Try.func47
theorem do47 : okF Try.prog Try.f47 = true := by kernel_rfl
noncomputable def d13 : FCode := (.seq (.run (.go (.box 23 (.tmp (pth 0))) (pth 3)::
.go (.box 41 (.tmp (pth 1))) (pth 4)::
.go (.move (.con (.bool false))) (pth 6)::
[])) (.seq (.seq (.run (.go (.loadN 4 (.tmp (pth 3))) (pth 14)::
.go (.call (.con (.func (.func 48) ⟨[]⟩ ⟨[]⟩)) [(.tmp (pth 14))]) (pth 15)::
.go (.un .not (.tmp (pth 15))) (pth 16)::
.go (.move (.tmp (pth 16))) (pth 17)::
.gd (pth 17) false (.loadN 2 (.tmp (pth 4))) (pth 18)::
.gd (pth 17) false (.call (.con (.func (.func 36) ⟨[]⟩ ⟨[]⟩)) [(.tmp (pth 18))]) (pth 19)::
.gd (pth 17) false (.un .not (.tmp (pth 19))) (pth 20)::
.go (.pick (.tmp (pth 17)) (.con (.bool true)) (.tmp (pth 20))) (pth 21)::
[])) (.cond (.tmp (pth 21)) (.seq (.run (.go (.call (.con (.func (.func 24) ⟨[]⟩ ⟨[]⟩)) []) (pth 22)::
.go (.move (.tmp (pth 22))) (pth 6)::
[])) .ret) .skip)) (.seq (.run (.go (.loadN 2 (.tmp (pth 4))) (pth 23)::
.go (.alloc 41 [(.int .i64 (.ofNat 0)),(.int .i64 (.ofNat 0))]) (pth 7)::
.un (.store 2 (.tmp (pth 7)) (.tmp (pth 23)))::
[])) (.seq (.run (.go (.fieldAddr 0 (.tmp (pth 7))) (pth 24)::
.go (.load1 (.tmp (pth 24))) (pth 25)::
.go (.move (.tmp (pth 2))) (pth 26)::
.go (.conv .i64 (.tmp (pth 26))) (pth 27)::
.go (.bin .sub 3 (.tmp (pth 25)) (.tmp (pth 27))) (pth 28)::
.go (.mm true [(.con (.int .i64 (.ofNat 0))),(.tmp (pth 28))]) (pth 29)::
.go (.fieldAddr 0 (.tmp (pth 7))) (pth 30)::
.un (.store 1 (.tmp (pth 30)) (.tmp (pth 29)))::
[])) (.seq (.draw 11 (.go (.loadN 4 (.tmp (pth 3))) (pth 32)::
.go (.call (.con (.func (.func 21) ⟨[]⟩ ⟨[]⟩)) [(.tmp (pth 32))]) (pth 33)::
.go (.loadN 2 (.tmp (pth 4))) (pth 34)::
.go (.call (.con (.func (.func 28) ⟨[]⟩ ⟨[]⟩)) [(.tmp (pth 34))]) (pth 35)::
.go (.call (.con (.func (.func 39) ⟨[]⟩ ⟨[]⟩)) [(.tmp (pth 33)),(.tmp (pth 35))]) (pth 36)::
.go (.move (.tmp (pth 36))) (pth 31)::
.go (.extract (.tmp (pth 31)) 0) (pth 37)::
.go (.extract (.tmp (pth 31)) 1) (pth 38)::
.go (.alloc 53 [(.int .i64 (.ofNat 0)),(.int .i64 (.ofNat 0))]) (pth 8)::
.un (.store 2 (.tmp (pth 8)) (.tmp (pth 37)))::
.go (.move (.tmp (pth 38))) (pth 9)::
[]) [.ok,.ok,.rd none (.loadN 2 (.tmp (pth 4))) (some (pth 34)) [0],.ok,.ok,.ok,.ok,.ok,.nw none (some (pth 8)) 8 true,.ok,.ok]) (.seq (.draw 11 (.go (.loadN 4 (.tmp (pth 3))) (pth 40)::
.go (.call (.con (.func (.func 21) ⟨[]⟩ ⟨[]⟩)) [(.tmp (pth 40))]) (pth 41)::
.go (.loadN 2 (.tmp (pth 7))) (pth 42)::
.go (.call (.con (.func (.func 28) ⟨[]⟩ ⟨[]⟩)) [(.tmp (pth 42))]) (pth 43)::
.go (.call (.con (.func (.func 39) ⟨[]⟩ ⟨[]⟩)) [(.tmp (pth 41)),(.tmp (pth 43))]) (pth 44)::
.go (.move (.tmp (pth 44))) (pth 39)::
.go (.extract (.tmp (pth 39)) 0) (pth 45)::
.go (.extract (.tmp (pth 39)) 1) (pth 46)::
.go (.alloc 53 [(.int .i64 (.ofNat 0)),(.int .i64 (.ofNat 0))]) (pth 10)::
.un (.store 2 (.tmp (pth 10)) (.tmp (pth 45)))::
.go (.move (.tmp (pth 46))) (pth 11)::
[]) [.ok,.ok,.rd none (.loadN 2 (.tmp (pth 7))) (some (pth 42)) [0],.ok,.ok,.ok,.ok,.ok,.nw none (some (pth 10)) 8 true,.ok,.ok]) (.seq (.draw 12 (.go (.loadN 4 (.tmp (pth 3))) (pth 48)::
.go (.call (.con (.func (.func 21) ⟨[]⟩ ⟨[]⟩)) [(.tmp (pth 48))]) (pth 49)::
.go (.fieldAddr 1 (.tmp (pth 4))) (pth 50)::
.go (.load1 (.tmp (pth 50))) (pth 51)::
.go (.call (.con (.func (.func 46) ⟨[]⟩ ⟨[]⟩)) [(.con (.int .i64 (.ofNat 0))),(.tmp (pth 51))]) (pth 52)::
.go (.call (.con (.func (.func 39) ⟨[]⟩ ⟨[]⟩)) [(.tmp (pth 49)),(.tmp (pth 52))]) (pth 53)::
.go (.move (.tmp (pth 53))) (pth 47)::
.go (.extract (.tmp (pth 47)) 0) (pth 54)::
.go (.extract (.tmp (pth 47)) 1) (pth 55)::
.go (.alloc 53 [(.int .i64 (.ofNat 0)),(.int .i64 (.ofNat 0))]) (pth 12)::
.un (.store 2 (.tmp (pth 12)) (.tmp (pth 54)))::
.go (.move (.tmp (pth 55))) (pth 13)::
[]) [.ok,.ok,.ok,.rd none (.load1 (.tmp (pth 50))) (some (pth 51)) [0],.ok,.ok,.ok,.ok,.ok,.nw none (some (pth 12)) 9 true,.ok,.ok]) (.seq (.seq (.draw 17 (.go (.move (.tmp (pth 13))) (pth 56)::
.go (.bin .neq 24 (.tmp (pth 56)) (.con (.int .i64 (.ofNat 0)))) (pth 57)::
.go (.move (.tmp (pth 57))) (pth 58)::
.gd (pth 58) false (.loadN 2 (.tmp (pth 12))) (pth 59)::
.gd (pth 58) false (.fieldAddr 1 (.tmp (pth 3))) (pth 60)::
.gd (pth 58) false (.load1 (.tmp (pth 60))) (pth 61)::
.gd (pth 58) false (.call (.con (.func (.func 47) ⟨[]⟩ ⟨[]⟩)) [(.con (.int .i64 (.ofNat 0))),(.tmp (pth 61))]) (pth 62)::
.gd (pth 58) false (.bin .neq 53 (.tmp (pth 59)) (.tmp (pth 62))) (pth 63)::
.go (.pick (.tmp (pth 58)) (.con (.bool true)) (.tmp (pth 63))) (pth 64)::
.go (.move (.tmp (pth 64))) (pth 65)::
.gd (pth 65) false (.move (.tmp (pth 11))) (pth 66)::
.gd (pth 65) false (.bin .neq 24 (.tmp (pth 66)) (.con (.int .i64 (.ofNat 0)))) (pth 67)::
.gd (pth 65) false (.move (.tmp (pth 67))) (pth 68)::
.gd (pth 68) true (.move (.tmp (pth 11))) (pth 69)::
.gd (pth 68) true (.bin .neq 24 (.tmp (pth 69)) (.con (.int .i64 (.ofNat 9)))) (pth 70)::
.gd (pth 65) false (.pick (.tmp (pth 68)) (.tmp (pth 70)) (.con (.bool false))) (pth 71)::
.go (.pick (.tmp (pth 65)) (.con (.bool true)) (.tmp (pth 71))) (pth 72)::
[]) [.ok,.ok,.ok,.rd (some ((pth 58),false)) (.loadN 2 (.tmp (pth 12))) (some (pth 59)) [7],.ok,.ok,.ok,.ok,.ok,.ok,.ok,.ok,.ok,.ok,.ok,.ok,.ok]) (.cond (.tmp (pth 72)) (.seq (.run (.go (.move (.con (.bool false))) (pth 6)::
[])) .ret) .skip)) (.seq (.seq (.run (.go (.move (.tmp (pth 9))) (pth 73)::
.go (.bin .neq 24 (.tmp (pth 73)) (.con (.int .i64 (.ofNat 0)))) (pth 74)::
[])) (.cond (.tmp (pth 74)) (.seq (.run (.go (.move (.tmp (pth 9))) (pth 75)::
.go (.bin .eql 24 (.tmp (pth 75)) (.con (.int .i64 (.ofNat 9)))) (pth 76)::
.go (.move (.tmp (pth 76))) (pth 77)::
.gd (pth 77) true (.call (.con (.func (.func 24) ⟨[]⟩ ⟨[]⟩)) []) (pth 78)::
.go (.pick (.tmp (pth 77)) (.tmp (pth 78)) (.con (.bool false))) (pth 79)::
.go (.move (.tmp (pth 79))) (pth 6)::
[])) .ret) .skip)) (.seq (.run (.go (.move (.tmp (pth 11))) (pth 80)::
.go (.bin .eql 24 (.tmp (pth 80)) (.con (.int .i64 (.ofNat 0)))) (pth 81)::
.go (.move (.tmp (pth 81))) (pth 82)::
.gd (pth 82) true (.fieldAddr 0 (.tmp (pth 10))) (pth 83)::
.gd (pth 82) true (.load1 (.tmp (pth 83))) (pth 84)::
.gd (pth 82) true (.fieldAddr 0 (.tmp (pth 8))) (pth 85)::
.gd (pth 82) true (.load1 (.tmp (pth 85))) (pth 86)::
.gd (pth 82) true (.bin .leq 3 (.tmp (pth 84)) (.tmp (pth 86))) (pth 87)::
.go (.pick (.tmp (pth 82)) (.tmp (pth 87)) (.con (.bool false))) (pth 88)::
.go (.move (.tmp (pth 88))) (pth 89)::
.gd (pth 89) true (.fieldAddr 1 (.tmp (pth 8))) (pth 90)::
.gd (pth 89) true (.load1 (.tmp (pth 90))) (pth 91)::
.gd (pth 89) true (.fieldAddr 1 (.tmp (pth 10))) (pth 92)::
.gd (pth 89) true (.load1 (.tmp (pth 92))) (pth 93)::
.gd (pth 89) true (.bin .leq 3 (.tmp (pth 91)) (.tmp (pth 93))) (pth 94)::
.go (.pick (.tmp (pth 89)) (.tmp (pth 94)) (.con (.bool false))) (pth 95)::
.go (.move (.tmp (pth 95))) (pth 96)::
.gd (pth 96) true (.call (.con (.func (.func 24) ⟨[]⟩ ⟨[]⟩)) []) (pth 97)::
.go (.pick (.tmp (pth 96)) (.tmp (pth 97)) (.con (.bool false))) (pth 98)::
.go (.move (.tmp (pth 98))) (pth 6)::
[])) .ret))))))))))
theorem de13 : @compF Try.prog (Gl.none Try.prog) Try.f13 3 = .mk d13 (mkTT 99) [(pth 0),(pth 1),(pth 2)] [.tmp (pth 6)] := by kernel_rfl
theorem dg13 : Try.prog.funcs[13]? = some Try.f13 := Try.func13
theorem do13 : okF Try.prog Try.f13 = true := by kernel_rfl
theorem f46_ok (a b : Int) (H : Heap) : Gives Try.prog 46 [I a, I b] H (.agg ⟨A2 a b⟩) := by
  refine F.entryL rfl dg46 do46 de46 rfl (by kernel_rfl) ?_
  simp only [sets]
  refine V.re [(0, I a), (1, I b)] (N := 8) (by intro i; simp only [full_st, Full.mk]) (by simp only [Kn, gt_st, full_st, Full.mk, ↓reduceIte, reduceEqDiff, reduceLT, decide_true, and_self]) ?_
  intro t hF hA
  simp only [Kn, and_true] at hA
  (repeat first|apply V.seq|apply V.block|apply V.scope|apply V.skip|apply V.close)
  refine V.line' (by simp +contextual (disch := first|omega|simp only [nx];omega) only [D4, reduceNegSucc, reduceEq, reduceLeDiff, reduceSub, reduceAdd, D5, hF, hA, ↓reduceIte, reduceEqDiff, reduceLT]; with_reducible rfl) ?_
  refine V.heap (fun X => Grow H X ∧ Bx X H.next (A2 0 0) 36) ⟨?_, ?_⟩ ?_
  · (repeat first | assumption | exact Grow.refl _ | refine Grow.alloc ?_ _ | refine Grow.set ?_ (by first|omega|simp only [nx];omega) _)
  · (repeat first | assumption | exact Bx.new _ _ _ | exact Bx.newAt (by first|omega|simp only [nx];omega) | refine Bx.put (by first|omega|simp only [nx];omega) _ _ | refine Bx.alloc ?_ _ | refine Bx.set ?_ (by first|omega|simp only [nx];omega) _)
  rintro H1 ⟨g1, b1⟩
  have := b1.1
  (repeat first|apply V.seq|apply V.block|apply V.scope|apply V.skip|apply V.close)
  refine V.line' (by simp +contextual (disch := first|omega|simp only [nx];omega) only [D4, reduceNegSucc, reduceEq, reduceLeDiff, reduceSub, reduceAdd, D5, hF, hA, ↓reduceIte, reduceEqDiff, reduceLT, b1.2]; with_reducible rfl) ?_
  (repeat first|apply V.seq|apply V.block|apply V.scope|apply V.skip|apply V.close)
  refine V.ret (V.rets rfl (Lv.retG (by simp +contextual (disch := first|omega|simp only [nx];omega) only [D1, cells_alloc_at, cells_alloc_ne, cells_set_at, cells_set_ne, yres, yres1, yresL, reduceLeDiff, reduceSub, reduceAdd, D5, hF, hA, ↓reduceIte, reduceEqDiff, reduceLT, cells_set]; rfl) ?_ ?_))
  · (repeat first | assumption | exact Grow.refl _ | refine Grow.alloc ?_ _ | refine Grow.set ?_ (by first|omega|simp only [nx];omega) _)
  · rfl
theorem f47_ok (a b : Int) (H : Heap) : Gives Try.prog 47 [I a, I b] H (.agg ⟨A2 a b⟩) := by
  refine F.entryL rfl dg47 do47 de47 rfl (by kernel_rfl) ?_
  simp only [sets]
  refine V.re [(0, I a), (1, I b)] (N := 8) (by intro i; simp only [full_st, Full.mk]) (by simp only [Kn, gt_st, full_st, Full.mk, ↓reduceIte, reduceEqDiff, reduceLT, decide_true, and_self]) ?_
  intro t hF hA
  simp only [Kn, and_true] at hA
  (repeat first|apply V.seq|apply V.block|apply V.scope|apply V.skip|apply V.close)
  refine V.line' (by simp +contextual (disch := first|omega|simp only [nx];omega) only [D4, reduceNegSucc, reduceEq, reduceLeDiff, reduceSub, reduceAdd, D5, hF, hA, ↓reduceIte, reduceEqDiff, reduceLT]; with_reducible rfl) ?_
  refine V.heap (fun X => Grow H X ∧ Bx X H.next (A2 0 0) 53) ⟨?_, ?_⟩ ?_
  · (repeat first | assumption | exact Grow.refl _ | refine Grow.alloc ?_ _ | refine Grow.set ?_ (by first|omega|simp only [nx];omega) _)
  · (repeat first | assumption | exact Bx.new _ _ _ | exact Bx.newAt (by first|omega|simp only [nx];omega) | refine Bx.put (by first|omega|simp only [nx];omega) _ _ | refine Bx.alloc ?_ _ | refine Bx.set ?_ (by first|omega|simp only [nx];omega) _)
  rintro H1 ⟨g1, b1⟩
  have := b1.1
  (repeat first|apply V.seq|apply V.block|apply V.scope|apply V.skip|apply V.close)
  refine V.line' (by simp +contextual (disch := first|omega|simp only [nx];omega) only [D4, reduceNegSucc, reduceEq, reduceLeDiff, reduceSub, reduceAdd, D5, hF, hA, ↓reduceIte, reduceEqDiff, reduceLT, b1.2]; with_reducible rfl) ?_
  (repeat first|apply V.seq|apply V.block|apply V.scope|apply V.skip|apply V.close)
  refine V.ret (V.rets rfl (Lv.retG (by simp +contextual (disch := first|omega|simp only [nx];omega) only [D1, cells_alloc_at, cells_alloc_ne, cells_set_at, cells_set_ne, yres, yres1, yresL, reduceLeDiff, reduceSub, reduceAdd, D5, hF, hA, ↓reduceIte, reduceEqDiff, reduceLT, cells_set]; rfl) ?_ ?_))
  · (repeat first | assumption | exact Grow.refl _ | refine Grow.alloc ?_ _ | refine Grow.set ?_ (by first|omega|simp only [nx];omega) _)
  · rfl
theorem key53 {a b : Int} (ha : (Lit.int .i64 a).wf = true) (hb : (Lit.int .i64 b).wf = true) : (keyOf Try.prog 53 (.agg ⟨[I a, I b]⟩)).isSome = true := by
  have c3 : Try.prog.cellsOf 3 = 1 := by kernel_rfl
  have c48 : Try.prog.cellsOf 53 = 2 := by kernel_rfl
  have h5 : (Program.keyType Try.prog 53 && (Value.agg ⟨[I a, I b]⟩).formed Try.prog 53) = true := by kernel_rfl
  obtain ⟨n, hn⟩ : ∃ n, Try.prog.types.size + 1 = n + 2 := ⟨Try.prog.types.size - 1, by have : 2 ≤ Try.prog.types.size := Nat.le_of_ble_eq_true (by kernel_rfl); omega⟩
  unfold keyOf
  simp only [Try.underlying53]
  rw [if_pos h5, hn]
  unfold Program.keyLits
  simp only [Try.underlying53, c48]
  have e : (Value.agg ⟨[I a, I b]⟩).cells.toList = [I a, I b] := rfl
  rw [e, if_pos ⟨rfl, by simp⟩]
  simp [c3, kl_int ha, kl_int hb]
theorem neq53 {a b c d : Int} (ha : (Lit.int .i64 a).wf = true) (hb : (Lit.int .i64 b).wf = true) (hc : (Lit.int .i64 c).wf = true) (hd : (Lit.int .i64 d).wf = true) : xbinOp Try.prog .neq 53 (.agg ⟨A2 a b⟩) (.agg ⟨A2 c d⟩) = some (.bool (!decide (a = c ∧ b = d))) := by
  have h1 : xbin Try.prog .neq 53 (.agg ⟨A2 a b⟩) (.agg ⟨A2 c d⟩) = none := rfl
  have h2 : xbinStr .neq (.agg ⟨A2 a b⟩) (.agg ⟨A2 c d⟩) = none := rfl
  have h3 : xeqNil Try.prog true 53 (.agg ⟨A2 a b⟩) (.agg ⟨A2 c d⟩) = none := by
    unfold xeqNil
    simp only [Try.underlying53]
  have h4 : keyedB Try.prog 53 = true := by kernel_rfl
  have h5 : Try.prog.eqGuardType Try.prog.depth 53 = false := by kernel_rfl
  unfold xbinOp
  rw [h1, h2]
  simp only [h3]
  unfold xeqAgg
  simp only [Try.underlying53]
  rw [if_pos ⟨h4, rfl, rfl, key53 ha hb, key53 hc hd, h5⟩]
  simp [valEq, cellsEq, cellEq]
theorem exc_mono {a u c d n m q : Nat} (h : m ≤ n) (he : exc a u c d m q = true) : exc a u c d n q = true := by
  unfold exc below at *
  simp only [Bool.or_eq_true, decide_eq_true_eq] at *
  have := Nat.mul_le_mul_right (ch (a + u) c) h
  omega
theorem left_sub {a b c d n m q : Nat} (h : m ≤ n) {z : Int} (hz : z ∈ leftL a b c d n q) : z ∈ leftL a b c d m q := by
  obtain ⟨u, h1, h2, h3⟩ := leftL_mem.1 hz
  refine leftL_mem.2 ⟨u, h1, h2, ?_⟩
  cases he : exc a u c d m q with
  | false => rfl
  | true => rw [exc_mono h he] at h3; cases h3
theorem left_zero {a b c d q u : Nat} (h : u ≤ b) : (u : Int) ∈ leftL a b c d 0 q := by
  refine leftL_mem.2 ⟨u, rfl, h, ?_⟩
  unfold exc below
  simp
theorem tot_zero {a b c d q : Nat} (hz : arq ((a : Int), (b : Int), (c : Int), (d : Int))) (hl : lv ((0 : Nat) : Int) q) : tot [((a : Int), (b : Int), (c : Int), (d : Int))] ((0 : Nat) : Int) q = (0, (b : Int), 0) := by
  have h0 := left_zero (a := a) (b := b) (c := c) (d := d) (q := q) (u := 0) (by omega)
  have hb := left_zero (a := a) (b := b) (c := c) (d := d) (q := q) (u := b) (by omega)
  have hne : leftL a b c d 0 q ≠ [] := fun x => by rw [x] at h0; simp at h0
  rw [tot1 hz hl, lfq_nat, if_neg hne]
  obtain ⟨u, hu, _⟩ := leftL_mem.1 (mn_mem hne)
  obtain ⟨w, hw, hwb, _⟩ := leftL_mem.1 (mx_mem hne)
  have h1 := mn_le h0
  have h2 := mx_ge hb
  have e1 : mn (leftL a b c d 0 q) = 0 := by omega
  have e2 : mx (leftL a b c d 0 q) = b := by omega
  rw [e1, e2]
theorem tot_mono {a b c d n m q : Nat} (hz : arq ((a : Int), (b : Int), (c : Int), (d : Int))) (hl : lv n q) (hm : lv m q) (h : m ≤ n) (h0 : (tot [((a : Int), (b : Int), (c : Int), (d : Int))] n q).2.2 = 0) :
    (tot [((a : Int), (b : Int), (c : Int), (d : Int))] m q).2.2 = 0 ∧ (tot [((a : Int), (b : Int), (c : Int), (d : Int))] m q).1 ≤ (tot [((a : Int), (b : Int), (c : Int), (d : Int))] n q).1 ∧ (tot [((a : Int), (b : Int), (c : Int), (d : Int))] n q).2.1 ≤ (tot [((a : Int), (b : Int), (c : Int), (d : Int))] m q).2.1 := by
  rw [tot1 hz hl, lfq_nat] at *
  rw [tot1 hz hm, lfq_nat]
  by_cases hne : leftL a b c d n q = []
  · rw [if_pos hne] at h0; exact absurd h0 (by decide)
  · have hne2 : leftL a b c d m q ≠ [] := fun x => by have := left_sub h (mn_mem hne); rw [x] at this; simp at this
    rw [if_neg hne, if_neg hne2]
    exact ⟨rfl, mn_le (left_sub h (mn_mem hne)), mx_ge (left_sub h (mx_mem hne))⟩
theorem f13_ok {a b c d n q m : Int} {H : Heap} (hm : 0 ≤ m ∧ m ≤ 65535) : F Try.prog 13 ⟨[.agg ⟨A4 a b c d⟩, .agg ⟨A2 n q⟩, .int .u16 m]⟩ H (fun w _ => w = .bool true) := by
  refine F.entryL rfl dg13 do13 de13 rfl (by kernel_rfl) ?_
  simp only [sets]
  refine V.re [(0, .agg ⟨A4 a b c d⟩), (1, .agg ⟨A2 n q⟩), (2, .int .u16 m)] (N := 99) (by intro i; simp only [full_st, Full.mk]) (by simp only [Kn, gt_st, full_st, Full.mk, ↓reduceIte, reduceEqDiff, reduceLT, decide_true, and_self]) ?_
  intro t hF hA
  simp only [Kn, and_true] at hA
  (repeat first|apply V.seq|apply V.block|apply V.scope|apply V.skip|apply V.close)
  refine V.line' (by simp +contextual (disch := first|omega|simp only [nx];omega) only [D4, reduceNegSucc, reduceEq, reduceLeDiff, reduceSub, reduceAdd, D5, hF, hA, ↓reduceIte, reduceEqDiff, reduceLT]; with_reducible rfl) ?_
  refine V.heap (fun X => Grow H X ∧ Bx X H.next (A4 a b c d) 23 ∧ Bx X (H.next + 1) (A2 n q) 41) ⟨?_, ?_⟩ ?_
  · (repeat first | assumption | exact Grow.refl _ | refine Grow.alloc ?_ _ | refine Grow.set ?_ (by first|omega|simp only [nx];omega) _)
  · exact ⟨by (repeat first | assumption | exact Bx.new _ _ _ | exact Bx.newAt (by first|omega|simp only [nx];omega) | refine Bx.put (by first|omega|simp only [nx];omega) _ _ | refine Bx.alloc ?_ _ | refine Bx.set ?_ (by first|omega|simp only [nx];omega) _), by (repeat first | assumption | exact Bx.new _ _ _ | exact Bx.newAt (by first|omega|simp only [nx];omega) | refine Bx.put (by first|omega|simp only [nx];omega) _ _ | refine Bx.alloc ?_ _ | refine Bx.set ?_ (by first|omega|simp only [nx];omega) _)⟩
  rintro H1 ⟨g1, b1, c1⟩
  (repeat first|apply V.seq|apply V.block|apply V.scope|apply V.skip|apply V.close)
  refine V.run ?_
  refine VI.steps' 1 (by simp +contextual (disch := first|omega|simp only [nx];omega) only [D4, reduceNegSucc, reduceEq, reduceLeDiff, reduceSub, reduceAdd, D5, hF, hA, ↓reduceIte, reduceEqDiff, reduceLT, b1.2]; with_reducible rfl) ?_
  simp only [ds]
  refine VI.callA rfl (f48_ok a b c d _) (by simp only [D6, D5, hF, hA, ↓reduceIte, reduceEqDiff, reduceLT]; try rfl) (fun H2 g2 => ?_)
  have b2 := b1.grow g2
  have c2 := c1.grow g2
  refine VI.steps' 3 (by simp +contextual (disch := first|omega|simp only [nx];omega) only [D4, reduceNegSucc, reduceEq, reduceLeDiff, reduceSub, reduceAdd, D5, hF, hA, ↓reduceIte, reduceEqDiff, reduceLT, c2.2]; with_reducible rfl) ?_
  simp only [ds]
  first | refine VI.callGt (by simp only [D5, hF, hA, ↓reduceIte, reduceEqDiff, reduceLT]; rfl) (fun hc => by simp only [D6, D5, hF, hA, ↓reduceIte, reduceEqDiff, reduceLT, hc, and_self, and_true, true_and, not_false_eq_true]; try rfl) (fun hc => f36_ok n q _) (fun hc => by simp only [D6, D5, hF, hA, ↓reduceIte, reduceEqDiff, reduceLT, hc, and_self, and_true, true_and, not_false_eq_true]; try rfl) (fun H3 g3 => ?_) | refine VI.callGf (by simp only [D5, hF, hA, ↓reduceIte, reduceEqDiff, reduceLT]; rfl) (fun hc => by simp only [D6, D5, hF, hA, ↓reduceIte, reduceEqDiff, reduceLT, hc, and_self, and_true, true_and, not_false_eq_true]; try rfl) (fun hc => f36_ok n q _) (fun hc => by simp only [D6, D5, hF, hA, ↓reduceIte, reduceEqDiff, reduceLT, hc, and_self, and_true, true_and, not_false_eq_true]; try rfl) (fun H3 g3 => ?_)
  have b3 := b2.grow g3
  have c3 := c2.grow g3
  refine VI.line' (by simp +contextual (disch := first|omega|simp only [nx];omega) only [D4, reduceNegSucc, reduceEq, reduceLeDiff, reduceSub, reduceAdd, D5, hF, hA, ↓reduceIte, reduceEqDiff, reduceLT]; with_reducible rfl) ?_
  (repeat first|apply V.seq|apply V.block|apply V.scope|apply V.skip|apply V.close)
  refine V.condP (by simp only [D6, D5, hF, hA, ↓reduceIte, reduceEqDiff, reduceLT]; rfl) (fun h => ?_) (fun h => ?_)
  · (repeat first|apply V.seq|apply V.block|apply V.scope|apply V.skip|apply V.close)
    refine V.run ?_
    refine VI.callA rfl (f24_ok _) (by simp only [D6, D5, hF, hA, ↓reduceIte, reduceEqDiff, reduceLT]; try rfl) (fun H4 g4 => ?_)
    refine VI.line' (by simp +contextual (disch := first|omega|simp only [nx];omega) only [D4, reduceNegSucc, reduceEq, reduceLeDiff, reduceSub, reduceAdd, D5, hF, hA, ↓reduceIte, reduceEqDiff, reduceLT]; with_reducible rfl) ?_
    (repeat first|apply V.seq|apply V.block|apply V.scope|apply V.skip|apply V.close)
    refine V.ret (V.rets rfl (Lv.retF (by simp +contextual (disch := first|omega|simp only [nx];omega) only [D1, cells_alloc_at, cells_alloc_ne, cells_set_at, cells_set_ne, yres, yres1, yresL, reduceLeDiff, reduceSub, reduceAdd, D5, hF, hA, ↓reduceIte, reduceEqDiff, reduceLT]; rfl) ?_))
    rfl
  have hv : ar a b c d := by
    by_cases hx : ar a b c d
    · exact hx
    · exact absurd (by simp [hx]) h
  have hl : lv n q := by
    by_cases hx : lv n q
    · exact hx
    · exact absurd (by simp [hx]) h
  clear h
  obtain ⟨a, b, c, d, rfl, rfl, rfl, rfl, k1, k3, k4⟩ := ar_nat hv
  obtain ⟨n, q, rfl, rfl, hq1, hq2, hn2⟩ : ∃ n' q' : Nat, n = n' ∧ q = q' ∧ 1 ≤ q' ∧ q' ≤ 1000 ∧ n' ≤ q' := by
    obtain ⟨⟨k1, k2⟩, k3, k4⟩ := hl
    exact ⟨n.toNat, q.toNat, by omega, by omega, by omega, by omega, by omega⟩
  obtain ⟨m, rfl, hm2⟩ : ∃ m' : Nat, m = m' ∧ m' ≤ 65535 := ⟨m.toNat, by omega, by omega⟩
  have wm : IntKind.i64.wrap (m : Int) = m := wrap_i64 (by omega) (by omega)
  have hmax : (if (n : Int) - m > 0 then (n : Int) - m else 0) = ((n - m : Nat) : Int) := by split <;> omega
  have hl2 : lv ((n - m : Nat) : Int) q := by unfold lv; omega
  have hl0 : lv ((0 : Nat) : Int) q := by unfold lv; omega
  have hz : arq ((a : Int), (b : Int), (c : Int), (d : Int)) := hv
  have hte := tot_err hz hl
  have hte2 := tot_err hz hl2
  have hmo := tot_mono hz hl hl2 (Nat.sub_le n m)
  have f1 : ∀ X, Gives Try.prog 39 [.agg ⟨A4 a b c d⟩, .agg ⟨A2 n q⟩] X (.tuple ⟨[.agg ⟨A2 (tot [((a : Int), (b : Int), (c : Int), (d : Int))] n q).1 (tot [((a : Int), (b : Int), (c : Int), (d : Int))] n q).2.1⟩, I (tot [((a : Int), (b : Int), (c : Int), (d : Int))] n q).2.2]⟩) := fun X => f39_ok a b c d n q X
  have f2 : ∀ X, Gives Try.prog 39 [.agg ⟨A4 a b c d⟩, .agg ⟨A2 ((n - m : Nat) : Int) q⟩] X (.tuple ⟨[.agg ⟨A2 (tot [((a : Int), (b : Int), (c : Int), (d : Int))] ((n - m : Nat) : Int) q).1 (tot [((a : Int), (b : Int), (c : Int), (d : Int))] ((n - m : Nat) : Int) q).2.1⟩, I (tot [((a : Int), (b : Int), (c : Int), (d : Int))] ((n - m : Nat) : Int) q).2.2]⟩) := fun X => f39_ok a b c d ((n - m : Nat) : Int) q X
  have f3 : ∀ X, Gives Try.prog 39 [.agg ⟨A4 a b c d⟩, .agg ⟨A2 0 q⟩] X (.tuple ⟨[.agg ⟨A2 0 b⟩, I 0]⟩) := fun X => by
    have := f39_ok a b c d ((0 : Nat) : Int) q X
    rw [tot_zero hz hl0] at this
    exact this
  generalize tot [((a : Int), (b : Int), (c : Int), (d : Int))] n q = T1 at *
  obtain ⟨lo, hi, e⟩ := T1
  generalize tot [((a : Int), (b : Int), (c : Int), (d : Int))] ((n - m : Nat) : Int) q = T2 at *
  obtain ⟨lo2, hi2, e2⟩ := T2
  simp only at hte hte2 hmo f1 f2
  (repeat first|apply V.seq|apply V.block|apply V.scope|apply V.skip|apply V.close)
  refine V.line' (by simp +contextual (disch := first|omega|simp only [nx];omega) only [D4, reduceNegSucc, reduceEq, reduceLeDiff, reduceSub, reduceAdd, D5, hF, hA, ↓reduceIte, reduceEqDiff, reduceLT, c3.2]; with_reducible rfl) ?_
  refine V.heap (fun Y => Grow H3 Y ∧ Bx Y H3.next (A2 n q) 41) ⟨?_, ?_⟩ ?_
  · (repeat first | assumption | exact Grow.refl _ | refine Grow.alloc ?_ _ | refine Grow.set ?_ (by first|omega|simp only [nx];omega) _)
  · (repeat first | assumption | exact Bx.new _ _ _ | exact Bx.newAt (by first|omega|simp only [nx];omega) | refine Bx.put (by first|omega|simp only [nx];omega) _ _ | refine Bx.alloc ?_ _ | refine Bx.set ?_ (by first|omega|simp only [nx];omega) _)
  rintro X1 ⟨gx1, l1⟩
  (repeat first|apply V.seq|apply V.block|apply V.scope|apply V.skip|apply V.close)
  refine V.line' (by simp +contextual (disch := first|omega|simp only [nx];omega) only [D4, reduceNegSucc, reduceEq, reduceLeDiff, reduceSub, reduceAdd, D5, hF, hA, ↓reduceIte, reduceEqDiff, reduceLT, l1.2, wm, hmax]; with_reducible rfl) ?_
  refine V.heap (fun Y => Grow H3 Y ∧ Bx Y H3.next (A2 ((n - m : Nat) : Int) q) 41) ⟨?_, ?_⟩ ?_
  · have := gx1.1; (repeat first | assumption | exact Grow.refl _ | refine Grow.alloc ?_ _ | refine Grow.set ?_ (by first|omega|simp only [nx];omega) _)
  · have := l1.1; (repeat first | assumption | exact Bx.new _ _ _ | exact Bx.newAt (by first|omega|simp only [nx];omega) | refine Bx.put (by first|omega|simp only [nx];omega) _ _ | refine Bx.alloc ?_ _ | refine Bx.set ?_ (by first|omega|simp only [nx];omega) _)
  rintro X2 ⟨gx2, l2⟩
  have b5 := b3.grow gx2
  have c5 := c3.grow gx2
  (repeat first|apply V.seq|apply V.block|apply V.scope|apply V.skip|apply V.close)
  refine V.draw ?_
  refine VD.dins 1 (by simp +contextual (disch := first|omega|simp only [nx];omega) only [D4, reduceNegSucc, reduceEq, reduceLeDiff, reduceSub, reduceAdd, D5, hF, hA, ↓reduceIte, reduceEqDiff, reduceLT, b5.2]; with_reducible rfl) ?_
  simp only [ds]
  refine VD.callA (by simp only [D6, D5, hF, hA, ↓reduceIte, reduceEqDiff, reduceLT]; try rfl) (f21_ok a b c d _) (by simp only [D6, D5, hF, hA, ↓reduceIte, reduceEqDiff, reduceLT]; try rfl) (fun X3 gx3 => ?_)
  have cx3 := c5.grow gx3
  refine VD.dins 1 (by simp +contextual (disch := first|omega|simp only [nx];omega) only [D4, reduceNegSucc, reduceEq, reduceLeDiff, reduceSub, reduceAdd, D5, hF, hA, ↓reduceIte, reduceEqDiff, reduceLT, cx3.2]; with_reducible rfl) ?_
  simp only [ds]
  refine VD.callA (by simp only [D6, D5, hF, hA, ↓reduceIte, reduceEqDiff, reduceLT]; try rfl) (f28_ok n q _) (by simp only [D6, D5, hF, hA, ↓reduceIte, reduceEqDiff, reduceLT]; try rfl) (fun X4 gx4 => ?_)
  have cx4 := cx3.grow gx4
  refine VD.callA (by simp only [D6, D5, hF, hA, ↓reduceIte, reduceEqDiff, reduceLT]; try rfl) (f1 _) (by simp only [D6, D5, hF, hA, ↓reduceIte, reduceEqDiff, reduceLT]; try rfl) (fun X5 gx5 => ?_)
  have cx5 := cx4.grow gx5
  refine VD.lineD' (by simp +contextual (disch := first|omega|simp only [nx];omega) only [D4, reduceNegSucc, reduceEq, reduceLeDiff, reduceSub, reduceAdd, D5, hF, hA, ↓reduceIte, reduceEqDiff, reduceLT]; with_reducible rfl) ?_ ?_ rfl ?_
  · have := gx3.1
    have := gx4.1
    have := gx5.1
    simp only [monoG, List.cons_append, List.nil_append, Heap.next_set, Heap.next_alloc, Nat.le_refl, true_and, and_true] <;> omega
  · simp only [dcAll, dcOk, wantD, List.cons_append, List.nil_append, true_and, and_true]
    exact ⟨fun _ q hq => by simp only [List.mem_cons, List.not_mem_nil, or_false] at hq; (repeat (rcases hq with rfl | hq; exact ⟨_, _, _, rfl, (by simp +contextual (disch := first|omega|simp only [nx];omega) only [D4, reduceNegSucc, reduceEq, reduceLeDiff, reduceSub, reduceAdd, D5, hF, hA, ↓reduceIte, reduceEqDiff, reduceLT, c5.2, cx3.2, cx4.2, cx5.2]; with_reducible rfl), fun p hp => by cases hp; simp only [D5, hF, hA, ↓reduceIte, reduceEqDiff, reduceLT]; first | exact vEq_An | simp [vEq, vEq0, all2]⟩)); (try (subst hq; exact ⟨_, _, _, rfl, (by simp +contextual (disch := first|omega|simp only [nx];omega) only [D4, reduceNegSucc, reduceEq, reduceLeDiff, reduceSub, reduceAdd, D5, hF, hA, ↓reduceIte, reduceEqDiff, reduceLT, c5.2, cx3.2, cx4.2, cx5.2]; with_reducible rfl), fun p hp => by cases hp; simp only [D5, hF, hA, ↓reduceIte, reduceEqDiff, reduceLT]; first | exact vEq_An | simp [vEq, vEq0, all2]⟩)), fun _ => ⟨_, _, _, rfl, rfl, rfl, (by simp only [D5, hF, hA, ↓reduceIte, reduceEqDiff, reduceLT]; simp [inBound]), fun _ => ⟨_, _, _, cells_alloc _ _ _ _, (by first | exact An_inb | rfl)⟩⟩⟩
  refine V.heap (fun Y => Grow X5 Y ∧ Bx Y X5.next (A2 lo hi) 53) ⟨?_, ?_⟩ ?_
  · (repeat first | assumption | exact Grow.refl _ | refine Grow.alloc ?_ _ | refine Grow.set ?_ (by first|omega|simp only [nx];omega) _)
  · (repeat first | assumption | exact Bx.new _ _ _ | exact Bx.newAt (by first|omega|simp only [nx];omega) | refine Bx.put (by first|omega|simp only [nx];omega) _ _ | refine Bx.alloc ?_ _ | refine Bx.set ?_ (by first|omega|simp only [nx];omega) _)
  rintro X6 ⟨gx6, r8⟩
  have g26 := ((gx3.trans gx4).trans gx5).trans gx6
  have b6 := b5.grow g26
  have c6 := c5.grow g26
  have l6 := l2.grow g26
  (repeat first|apply V.seq|apply V.block|apply V.scope|apply V.skip|apply V.close)
  refine V.re [(3, PT H.next), (4, PT (H.next + 1)), (7, PT H3.next), (8, PT X5.next), (9, I e)] (N := 99) (by intro i; simp only [full_st, hF]) (by simp only [Kn, D5, hF, hA, ↓reduceIte, reduceEqDiff, reduceLT, and_self, and_true, true_and]; try (repeat' constructor)) ?_
  clear hF hA
  intro t hF hA
  simp only [Kn, and_true] at hA
  refine V.draw ?_
  refine VD.dins 1 (by simp +contextual (disch := first|omega|simp only [nx];omega) only [D4, reduceNegSucc, reduceEq, reduceLeDiff, reduceSub, reduceAdd, D5, hF, hA, ↓reduceIte, reduceEqDiff, reduceLT, b6.2]; with_reducible rfl) ?_
  simp only [ds]
  refine VD.callA (by simp only [D6, D5, hF, hA, ↓reduceIte, reduceEqDiff, reduceLT]; try rfl) (f21_ok a b c d _) (by simp only [D6, D5, hF, hA, ↓reduceIte, reduceEqDiff, reduceLT]; try rfl) (fun X7 gx7 => ?_)
  have lx7 := l6.grow gx7
  refine VD.dins 1 (by simp +contextual (disch := first|omega|simp only [nx];omega) only [D4, reduceNegSucc, reduceEq, reduceLeDiff, reduceSub, reduceAdd, D5, hF, hA, ↓reduceIte, reduceEqDiff, reduceLT, lx7.2]; with_reducible rfl) ?_
  simp only [ds]
  refine VD.callA (by simp only [D6, D5, hF, hA, ↓reduceIte, reduceEqDiff, reduceLT]; try rfl) (f28_ok ((n - m : Nat) : Int) q _) (by simp only [D6, D5, hF, hA, ↓reduceIte, reduceEqDiff, reduceLT]; try rfl) (fun X8 gx8 => ?_)
  have lx8 := lx7.grow gx8
  refine VD.callA (by simp only [D6, D5, hF, hA, ↓reduceIte, reduceEqDiff, reduceLT]; try rfl) (f2 _) (by simp only [D6, D5, hF, hA, ↓reduceIte, reduceEqDiff, reduceLT]; try rfl) (fun X9 gx9 => ?_)
  have lx9 := lx8.grow gx9
  refine VD.lineD' (by simp +contextual (disch := first|omega|simp only [nx];omega) only [D4, reduceNegSucc, reduceEq, reduceLeDiff, reduceSub, reduceAdd, D5, hF, hA, ↓reduceIte, reduceEqDiff, reduceLT]; with_reducible rfl) ?_ ?_ rfl ?_
  · have := gx7.1
    have := gx8.1
    have := gx9.1
    simp only [monoG, List.cons_append, List.nil_append, Heap.next_set, Heap.next_alloc, Nat.le_refl, true_and, and_true] <;> omega
  · simp only [dcAll, dcOk, wantD, List.cons_append, List.nil_append, true_and, and_true]
    exact ⟨fun _ q hq => by simp only [List.mem_cons, List.not_mem_nil, or_false] at hq; (repeat (rcases hq with rfl | hq; exact ⟨_, _, _, rfl, (by simp +contextual (disch := first|omega|simp only [nx];omega) only [D4, reduceNegSucc, reduceEq, reduceLeDiff, reduceSub, reduceAdd, D5, hF, hA, ↓reduceIte, reduceEqDiff, reduceLT, l6.2, lx7.2, lx8.2, lx9.2]; with_reducible rfl), fun p hp => by cases hp; simp only [D5, hF, hA, ↓reduceIte, reduceEqDiff, reduceLT]; first | exact vEq_An | simp [vEq, vEq0, all2]⟩)); (try (subst hq; exact ⟨_, _, _, rfl, (by simp +contextual (disch := first|omega|simp only [nx];omega) only [D4, reduceNegSucc, reduceEq, reduceLeDiff, reduceSub, reduceAdd, D5, hF, hA, ↓reduceIte, reduceEqDiff, reduceLT, l6.2, lx7.2, lx8.2, lx9.2]; with_reducible rfl), fun p hp => by cases hp; simp only [D5, hF, hA, ↓reduceIte, reduceEqDiff, reduceLT]; first | exact vEq_An | simp [vEq, vEq0, all2]⟩)), fun _ => ⟨_, _, _, rfl, rfl, rfl, (by simp only [D5, hF, hA, ↓reduceIte, reduceEqDiff, reduceLT]; simp [inBound]), fun _ => ⟨_, _, _, cells_alloc _ _ _ _, (by first | exact An_inb | rfl)⟩⟩⟩
  refine V.heap (fun Y => Grow X9 Y ∧ Bx Y X9.next (A2 lo2 hi2) 53) ⟨?_, ?_⟩ ?_
  · (repeat first | assumption | exact Grow.refl _ | refine Grow.alloc ?_ _ | refine Grow.set ?_ (by first|omega|simp only [nx];omega) _)
  · (repeat first | assumption | exact Bx.new _ _ _ | exact Bx.newAt (by first|omega|simp only [nx];omega) | refine Bx.put (by first|omega|simp only [nx];omega) _ _ | refine Bx.alloc ?_ _ | refine Bx.set ?_ (by first|omega|simp only [nx];omega) _)
  rintro Y1 ⟨gy1, r10⟩
  have g6y := ((gx7.trans gx8).trans gx9).trans gy1
  have b7 := b6.grow g6y
  have c7 := c6.grow g6y
  have r8b := r8.grow g6y
  (repeat first|apply V.seq|apply V.block|apply V.scope|apply V.skip|apply V.close)
  refine V.re [(3, PT H.next), (4, PT (H.next + 1)), (8, PT X5.next), (9, I e), (10, PT X9.next), (11, I e2)] (N := 99) (by intro i; simp only [full_st, hF]) (by simp only [Kn, D5, hF, hA, ↓reduceIte, reduceEqDiff, reduceLT, and_self, and_true, true_and]; try (repeat' constructor)) ?_
  clear hF hA
  intro t hF hA
  simp only [Kn, and_true] at hA
  refine V.draw ?_
  refine VD.dins 1 (by simp +contextual (disch := first|omega|simp only [nx];omega) only [D4, reduceNegSucc, reduceEq, reduceLeDiff, reduceSub, reduceAdd, D5, hF, hA, ↓reduceIte, reduceEqDiff, reduceLT, b7.2]; with_reducible rfl) ?_
  simp only [ds]
  refine VD.callA (by simp only [D6, D5, hF, hA, ↓reduceIte, reduceEqDiff, reduceLT]; try rfl) (f21_ok a b c d _) (by simp only [D6, D5, hF, hA, ↓reduceIte, reduceEqDiff, reduceLT]; try rfl) (fun Y2 gy2 => ?_)
  have cy2 := c7.grow gy2
  refine VD.dins 2 (by simp +contextual (disch := first|omega|simp only [nx];omega) only [D4, reduceNegSucc, reduceEq, reduceLeDiff, reduceSub, reduceAdd, D5, hF, hA, ↓reduceIte, reduceEqDiff, reduceLT, cy2.2]; with_reducible rfl) ?_
  simp only [ds]
  refine VD.callA (by simp only [D6, D5, hF, hA, ↓reduceIte, reduceEqDiff, reduceLT]; try rfl) (f46_ok 0 q _) (by simp only [D6, D5, hF, hA, ↓reduceIte, reduceEqDiff, reduceLT]; try rfl) (fun Y3 gy3 => ?_)
  have cy3 := cy2.grow gy3
  refine VD.callA (by simp only [D6, D5, hF, hA, ↓reduceIte, reduceEqDiff, reduceLT]; try rfl) (f3 _) (by simp only [D6, D5, hF, hA, ↓reduceIte, reduceEqDiff, reduceLT]; try rfl) (fun Y4 gy4 => ?_)
  have cy4 := cy3.grow gy4
  refine VD.lineD' (by simp +contextual (disch := first|omega|simp only [nx];omega) only [D4, reduceNegSucc, reduceEq, reduceLeDiff, reduceSub, reduceAdd, D5, hF, hA, ↓reduceIte, reduceEqDiff, reduceLT]; with_reducible rfl) ?_ ?_ rfl ?_
  · have := gy2.1
    have := gy3.1
    have := gy4.1
    simp only [monoG, List.cons_append, List.nil_append, Heap.next_set, Heap.next_alloc, Nat.le_refl, true_and, and_true] <;> omega
  · simp only [dcAll, dcOk, wantD, List.cons_append, List.nil_append, true_and, and_true]
    exact ⟨fun _ q hq => by simp only [List.mem_cons, List.not_mem_nil, or_false] at hq; (repeat (rcases hq with rfl | hq; exact ⟨_, _, _, rfl, (by simp +contextual (disch := first|omega|simp only [nx];omega) only [D4, reduceNegSucc, reduceEq, reduceLeDiff, reduceSub, reduceAdd, D5, hF, hA, ↓reduceIte, reduceEqDiff, reduceLT, c7.2, cy2.2, cy3.2, cy4.2]; with_reducible rfl), fun p hp => by cases hp; simp only [D5, hF, hA, ↓reduceIte, reduceEqDiff, reduceLT]; first | exact vEq_An | simp [vEq, vEq0, all2]⟩)); (try (subst hq; exact ⟨_, _, _, rfl, (by simp +contextual (disch := first|omega|simp only [nx];omega) only [D4, reduceNegSucc, reduceEq, reduceLeDiff, reduceSub, reduceAdd, D5, hF, hA, ↓reduceIte, reduceEqDiff, reduceLT, c7.2, cy2.2, cy3.2, cy4.2]; with_reducible rfl), fun p hp => by cases hp; simp only [D5, hF, hA, ↓reduceIte, reduceEqDiff, reduceLT]; first | exact vEq_An | simp [vEq, vEq0, all2]⟩)), fun _ => ⟨_, _, _, rfl, rfl, rfl, (by simp only [D5, hF, hA, ↓reduceIte, reduceEqDiff, reduceLT]; simp [inBound]), fun _ => ⟨_, _, _, cells_alloc _ _ _ _, (by first | exact An_inb | rfl)⟩⟩⟩
  refine V.heap (fun Y => Grow Y4 Y ∧ Bx Y Y4.next (A2 0 b) 53) ⟨?_, ?_⟩ ?_
  · (repeat first | assumption | exact Grow.refl _ | refine Grow.alloc ?_ _ | refine Grow.set ?_ (by first|omega|simp only [nx];omega) _)
  · (repeat first | assumption | exact Bx.new _ _ _ | exact Bx.newAt (by first|omega|simp only [nx];omega) | refine Bx.put (by first|omega|simp only [nx];omega) _ _ | refine Bx.alloc ?_ _ | refine Bx.set ?_ (by first|omega|simp only [nx];omega) _)
  rintro Y5 ⟨gy5, r12⟩
  have gyy := ((gy2.trans gy3).trans gy4).trans gy5
  have b8 := b7.grow gyy
  have r8c := r8b.grow gyy
  have r10c := r10.grow gyy
  (repeat first|apply V.seq|apply V.block|apply V.scope|apply V.skip|apply V.close)
  refine V.re [(3, PT H.next), (8, PT X5.next), (9, I e), (10, PT X9.next), (11, I e2), (12, PT Y4.next), (13, I 0)] (N := 99) (by intro i; simp only [full_st, hF]) (by simp only [Kn, D5, hF, hA, ↓reduceIte, reduceEqDiff, reduceLT, and_self, and_true, true_and]; try (repeat' constructor)) ?_
  clear hF hA
  intro t hF hA
  simp only [Kn, and_true] at hA
  have hnq : xbinOp Try.prog .neq 53 (.agg ⟨A2 0 b⟩) (.agg ⟨A2 0 b⟩) = some (.bool false) := by
    rw [neq53 (by decide) (wf_big (by omega)) (by decide) (wf_big (by omega))]; simp
  refine V.draw ?_
  refine VD.dins 6 (by simp +contextual (disch := first|omega|simp only [nx];omega) only [D4, reduceNegSucc, reduceEq, reduceLeDiff, reduceSub, reduceAdd, D5, hF, hA, ↓reduceIte, reduceEqDiff, reduceLT, r12.2, b8.2, ne_eq, not_true_eq_false]; with_reducible rfl) ?_
  simp only [ds]
  refine VD.callAT (by simp only [D5, hF, hA, ↓reduceIte, reduceEqDiff, reduceLT]; try rfl) (by simp only [D6, D5, hF, hA, ↓reduceIte, reduceEqDiff, reduceLT]; try rfl) (f47_ok 0 b _) (by simp only [D6, D5, hF, hA, ↓reduceIte, reduceEqDiff, reduceLT]; try rfl) (fun Y6 gy6 => ?_)
  have r12b := r12.grow gy6
  refine VD.lineD' (by simp +contextual (disch := first|omega|simp only [nx];omega) only [D4, reduceNegSucc, reduceEq, reduceLeDiff, reduceSub, reduceAdd, D5, hF, hA, ↓reduceIte, reduceEqDiff, reduceLT, hnq, ne_eq]; with_reducible rfl) ?_ ?_ rfl ?_
  · have := gy6.1
    simp only [monoG, List.cons_append, List.nil_append, Heap.next_set, Heap.next_alloc, Nat.le_refl, true_and, and_true] <;> omega
  · simp only [dcAll, dcOk, wantD, List.cons_append, List.nil_append, true_and, and_true]
    exact fun _ q hq => by simp only [List.mem_cons, List.not_mem_nil, or_false] at hq; (repeat (rcases hq with rfl | hq; exact ⟨_, _, _, rfl, (by simp +contextual (disch := first|omega|simp only [nx];omega) only [D4, reduceNegSucc, reduceEq, reduceLeDiff, reduceSub, reduceAdd, D5, hF, hA, ↓reduceIte, reduceEqDiff, reduceLT, r12.2, r12b.2]; with_reducible rfl), fun p hp => by cases hp; simp only [D5, hF, hA, ↓reduceIte, reduceEqDiff, reduceLT]; first | exact vEq_An | simp [vEq, vEq0, all2]⟩)); (try (subst hq; exact ⟨_, _, _, rfl, (by simp +contextual (disch := first|omega|simp only [nx];omega) only [D4, reduceNegSucc, reduceEq, reduceLeDiff, reduceSub, reduceAdd, D5, hF, hA, ↓reduceIte, reduceEqDiff, reduceLT, r12.2, r12b.2]; with_reducible rfl), fun p hp => by cases hp; simp only [D5, hF, hA, ↓reduceIte, reduceEqDiff, reduceLT]; first | exact vEq_An | simp [vEq, vEq0, all2]⟩))
  have r8d := r8c.grow gy6
  have r10d := r10c.grow gy6
  (repeat first|apply V.seq|apply V.block|apply V.scope|apply V.skip|apply V.close)
  refine V.condP (by simp only [D6, D5, hF, hA, ↓reduceIte, reduceEqDiff, reduceLT]; rfl) (fun hbad => ?_) (fun hbad => ?_)
  · exact absurd hbad (by simp; omega)
  (repeat first|apply V.seq|apply V.block|apply V.scope|apply V.skip|apply V.close)
  refine V.re [(8, PT X5.next), (9, I e), (10, PT X9.next), (11, I e2)] (N := 99) (by intro i; simp only [full_st, hF]) (by simp only [Kn, D5, hF, hA, ↓reduceIte, reduceEqDiff, reduceLT, and_self, and_true, true_and]; try (repeat' constructor)) ?_
  clear hF hA
  intro t hF hA
  simp only [Kn, and_true] at hA
  refine V.line' (by simp +contextual (disch := first|omega|simp only [nx];omega) only [D4, reduceNegSucc, reduceEq, reduceLeDiff, reduceSub, reduceAdd, D5, hF, hA, ↓reduceIte, reduceEqDiff, reduceLT, ne_eq]; with_reducible rfl) ?_
  (repeat first|apply V.seq|apply V.block|apply V.scope|apply V.skip|apply V.close)
  refine V.condP (by simp only [D6, D5, hF, hA, ↓reduceIte, reduceEqDiff, reduceLT]; rfl) (fun he => ?_) (fun he => ?_)
  · have h9 : e = 9 := by omega
    subst h9
    (repeat first|apply V.seq|apply V.block|apply V.scope|apply V.skip|apply V.close)
    refine V.run ?_
    refine VI.steps' 3 (by simp +contextual (disch := first|omega|simp only [nx];omega) only [D4, reduceNegSucc, reduceEq, reduceLeDiff, reduceSub, reduceAdd, D5, hF, hA, ↓reduceIte, reduceEqDiff, reduceLT]; with_reducible rfl) ?_
    simp only [ds]
    refine VI.callAT (by simp only [D5, hF, hA, ↓reduceIte, reduceEqDiff, reduceLT]; try rfl) rfl (f24_ok _) (by simp only [D6, D5, hF, hA, ↓reduceIte, reduceEqDiff, reduceLT]; try rfl) (fun Y7 gy7 => ?_)
    refine VI.line' (by simp +contextual (disch := first|omega|simp only [nx];omega) only [D4, reduceNegSucc, reduceEq, reduceLeDiff, reduceSub, reduceAdd, D5, hF, hA, ↓reduceIte, reduceEqDiff, reduceLT]; with_reducible rfl) ?_
    (repeat first|apply V.seq|apply V.block|apply V.scope|apply V.skip|apply V.close)
    refine V.ret (V.rets rfl (Lv.retF (by simp +contextual (disch := first|omega|simp only [nx];omega) only [D1, cells_alloc_at, cells_alloc_ne, cells_set_at, cells_set_ne, yres, yres1, yresL, reduceLeDiff, reduceSub, reduceAdd, D5, hF, hA, ↓reduceIte, reduceEqDiff, reduceLT]; rfl) ?_))
    rfl
  · have h0 : e = 0 := by omega
    obtain ⟨q1, q2, q3⟩ := hmo h0
    subst h0 q1
    (repeat first|apply V.seq|apply V.block|apply V.scope|apply V.skip|apply V.close)
    refine V.run ?_
    refine VI.steps' 9 (by simp +contextual (disch := first|omega|simp only [nx];omega) only [D4, reduceNegSucc, reduceEq, reduceLeDiff, reduceSub, reduceAdd, D5, hF, hA, ↓reduceIte, reduceEqDiff, reduceLT, r8d.2, r10d.2, q2, q3]; with_reducible rfl) ?_
    simp only [ds]
    refine VI.steps' 8 (by simp +contextual (disch := first|omega|simp only [nx];omega) only [D4, reduceNegSucc, reduceEq, reduceLeDiff, reduceSub, reduceAdd, D5, hF, hA, ↓reduceIte, reduceEqDiff, reduceLT, r8d.2, r10d.2, q2, q3]; with_reducible rfl) ?_
    simp only [ds]
    refine VI.callAT (by simp only [D5, hF, hA, ↓reduceIte, reduceEqDiff, reduceLT]; try rfl) rfl (f24_ok _) (by simp only [D6, D5, hF, hA, ↓reduceIte, reduceEqDiff, reduceLT]; try rfl) (fun Y7 gy7 => ?_)
    refine VI.line' (by simp +contextual (disch := first|omega|simp only [nx];omega) only [D4, reduceNegSucc, reduceEq, reduceLeDiff, reduceSub, reduceAdd, D5, hF, hA, ↓reduceIte, reduceEqDiff, reduceLT]; with_reducible rfl) ?_
    (repeat first|apply V.seq|apply V.block|apply V.scope|apply V.skip|apply V.close)
    refine V.ret (V.rets rfl (Lv.retF (by simp +contextual (disch := first|omega|simp only [nx];omega) only [D1, cells_alloc_at, cells_alloc_ne, cells_set_at, cells_set_ne, yres, yres1, yresL, reduceLeDiff, reduceSub, reduceAdd, D5, hF, hA, ↓reduceIte, reduceEqDiff, reduceLT]; rfl) ?_))
    rfl
end Go.Xe.TMX
