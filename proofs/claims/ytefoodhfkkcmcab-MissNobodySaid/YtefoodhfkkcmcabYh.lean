/- What the statement MissConfident comes to. Conditions: none. -/
import Derived.Test.YtefoodhfkkcmcabTNI
import Derived.Test.YtefoodhfkkcmcabTNA
import Derived.Test.YtefoodhfkkcmcabZl
import Derived.WideShapes
import Derived.ChangeSame
import Derived.Below
-- MOD TM
namespace Go.Xe.TMX
open Go Go.Xe Go.Proofs Go.Xe.Mth
open Nat (reduceLeDiff reduceSub reduceAdd reduceEqDiff reduceLT)
open Int (reduceNegSucc reduceEq)
set_option maxRecDepth 100000
set_option maxHeartbeats 3200000
set_option linter.unusedSimpArgs false
theorem tot1 {z : Q4} {n q : Int} (h1 : arq z) (h2 : lv n q) : tot [z] n q = if lfq n q z = [] then (0, 0, 9) else (mn (lfq n q z), mx (lfq n q z), 0) := by
  unfold tot
  rw [if_neg (by simp), if_neg (by simpa using h1), if_neg (by simpa using h2)]
  by_cases h : lfq n q z = []
  · rw [if_pos ⟨z, by simp, h⟩, if_pos h]
  · rw [if_neg (by simpa using h), if_neg h]; simp
end Go.Xe.TMX
/- What the statement MissNobody comes to. Conditions: none. -/
-- MOD TM
namespace Go.Xe.TMX
open Go Go.Xe Go.Proofs Go.Xe.Mth
open Nat (reduceLeDiff reduceSub reduceAdd reduceEqDiff reduceLT)
open Int (reduceNegSucc reduceEq)
set_option maxRecDepth 100000
set_option maxHeartbeats 3200000
set_option linter.unusedSimpArgs false
noncomputable def d17 : FCode := (.seq (.run (.go (.box 23 (.tmp (pth 0))) (pth 2)::
.go (.box 41 (.tmp (pth 1))) (pth 3)::
.go (.move (.con (.bool false))) (pth 4)::
[])) (.seq (.seq (.run (.go (.loadN 4 (.tmp (pth 2))) (pth 10)::
.go (.call (.con (.func (.func 48) ⟨[]⟩ ⟨[]⟩)) [(.tmp (pth 10))]) (pth 11)::
.go (.un .not (.tmp (pth 11))) (pth 12)::
.go (.move (.tmp (pth 12))) (pth 13)::
.gd (pth 13) false (.loadN 2 (.tmp (pth 3))) (pth 14)::
.gd (pth 13) false (.call (.con (.func (.func 36) ⟨[]⟩ ⟨[]⟩)) [(.tmp (pth 14))]) (pth 15)::
.gd (pth 13) false (.un .not (.tmp (pth 15))) (pth 16)::
.go (.pick (.tmp (pth 13)) (.con (.bool true)) (.tmp (pth 16))) (pth 17)::
[])) (.cond (.tmp (pth 17)) (.seq (.run (.go (.call (.con (.func (.func 24) ⟨[]⟩ ⟨[]⟩)) []) (pth 18)::
.go (.move (.tmp (pth 18))) (pth 4)::
[])) .ret) .skip)) (.seq (.run (.go (.loadN 4 (.tmp (pth 2))) (pth 19)::
.go (.alloc 23 [(.int .i64 (.ofNat 0)),(.int .i64 (.ofNat 0)),(.int .i64 (.ofNat 0)),(.int .i64 (.ofNat 0))]) (pth 5)::
.un (.store 4 (.tmp (pth 5)) (.tmp (pth 19)))::
[])) (.seq (.run (.go (.fieldAddr 2 (.tmp (pth 2))) (pth 20)::
.go (.load1 (.tmp (pth 20))) (pth 21)::
.go (.fieldAddr 3 (.tmp (pth 5))) (pth 22)::
.un (.store 1 (.tmp (pth 22)) (.tmp (pth 21)))::
[])) (.seq (.draw 11 (.go (.loadN 4 (.tmp (pth 5))) (pth 24)::
.go (.call (.con (.func (.func 21) ⟨[]⟩ ⟨[]⟩)) [(.tmp (pth 24))]) (pth 25)::
.go (.loadN 2 (.tmp (pth 3))) (pth 26)::
.go (.call (.con (.func (.func 28) ⟨[]⟩ ⟨[]⟩)) [(.tmp (pth 26))]) (pth 27)::
.go (.call (.con (.func (.func 39) ⟨[]⟩ ⟨[]⟩)) [(.tmp (pth 25)),(.tmp (pth 27))]) (pth 28)::
.go (.move (.tmp (pth 28))) (pth 23)::
.go (.extract (.tmp (pth 23)) 0) (pth 29)::
.go (.extract (.tmp (pth 23)) 1) (pth 30)::
.go (.alloc 53 [(.int .i64 (.ofNat 0)),(.int .i64 (.ofNat 0))]) (pth 6)::
.un (.store 2 (.tmp (pth 6)) (.tmp (pth 29)))::
.go (.move (.tmp (pth 30))) (pth 7)::
[]) [.ok,.ok,.rd none (.loadN 2 (.tmp (pth 3))) (some (pth 26)) [0],.ok,.ok,.ok,.ok,.ok,.nw none (some (pth 6)) 8 true,.ok,.ok]) (.seq (.seq (.run (.go (.move (.tmp (pth 7))) (pth 31)::
.go (.bin .neq 24 (.tmp (pth 31)) (.con (.int .i64 (.ofNat 0)))) (pth 32)::
.go (.move (.tmp (pth 32))) (pth 33)::
.gd (pth 33) false (.fieldAddr 0 (.tmp (pth 6))) (pth 34)::
.gd (pth 33) false (.load1 (.tmp (pth 34))) (pth 35)::
.gd (pth 33) false (.bin .neq 3 (.tmp (pth 35)) (.con (.int .i64 (.ofNat 0)))) (pth 36)::
.go (.pick (.tmp (pth 33)) (.con (.bool true)) (.tmp (pth 36))) (pth 37)::
[])) (.cond (.tmp (pth 37)) (.seq (.run (.go (.move (.con (.bool false))) (pth 4)::
[])) .ret) .skip)) (.seq (.seq (.run (.go (.fieldAddr 3 (.tmp (pth 2))) (pth 38)::
.go (.load1 (.tmp (pth 38))) (pth 39)::
.go (.fieldAddr 2 (.tmp (pth 2))) (pth 40)::
.go (.load1 (.tmp (pth 40))) (pth 41)::
.go (.bin .eql 3 (.tmp (pth 39)) (.tmp (pth 41))) (pth 42)::
.go (.move (.tmp (pth 42))) (pth 43)::
.gd (pth 43) false (.fieldAddr 0 (.tmp (pth 3))) (pth 44)::
.gd (pth 43) false (.load1 (.tmp (pth 44))) (pth 45)::
.gd (pth 43) false (.bin .eql 3 (.tmp (pth 45)) (.con (.int .i64 (.ofNat 0)))) (pth 46)::
.go (.pick (.tmp (pth 43)) (.con (.bool true)) (.tmp (pth 46))) (pth 47)::
[])) (.cond (.tmp (pth 47)) (.seq (.run (.go (.call (.con (.func (.func 24) ⟨[]⟩ ⟨[]⟩)) []) (pth 48)::
.go (.move (.tmp (pth 48))) (pth 4)::
[])) .ret) .skip)) (.seq (.draw 11 (.go (.loadN 4 (.tmp (pth 2))) (pth 50)::
.go (.call (.con (.func (.func 21) ⟨[]⟩ ⟨[]⟩)) [(.tmp (pth 50))]) (pth 51)::
.go (.loadN 2 (.tmp (pth 3))) (pth 52)::
.go (.call (.con (.func (.func 28) ⟨[]⟩ ⟨[]⟩)) [(.tmp (pth 52))]) (pth 53)::
.go (.call (.con (.func (.func 39) ⟨[]⟩ ⟨[]⟩)) [(.tmp (pth 51)),(.tmp (pth 53))]) (pth 54)::
.go (.move (.tmp (pth 54))) (pth 49)::
.go (.extract (.tmp (pth 49)) 0) (pth 55)::
.go (.extract (.tmp (pth 49)) 1) (pth 56)::
.go (.alloc 53 [(.int .i64 (.ofNat 0)),(.int .i64 (.ofNat 0))]) (pth 8)::
.un (.store 2 (.tmp (pth 8)) (.tmp (pth 55)))::
.go (.move (.tmp (pth 56))) (pth 9)::
[]) [.ok,.ok,.rd none (.loadN 2 (.tmp (pth 3))) (some (pth 52)) [0],.ok,.ok,.ok,.ok,.ok,.nw none (some (pth 8)) 8 true,.ok,.ok]) (.seq (.run (.go (.move (.tmp (pth 9))) (pth 57)::
.go (.bin .eql 24 (.tmp (pth 57)) (.con (.int .i64 (.ofNat 9)))) (pth 58)::
.go (.move (.tmp (pth 58))) (pth 59)::
.gd (pth 59) false (.move (.tmp (pth 9))) (pth 60)::
.gd (pth 59) false (.bin .eql 24 (.tmp (pth 60)) (.con (.int .i64 (.ofNat 0)))) (pth 61)::
.gd (pth 59) false (.move (.tmp (pth 61))) (pth 62)::
.gd (pth 62) true (.fieldAddr 0 (.tmp (pth 8))) (pth 63)::
.gd (pth 62) true (.load1 (.tmp (pth 63))) (pth 64)::
.gd (pth 62) true (.bin .gtr 3 (.tmp (pth 64)) (.con (.int .i64 (.ofNat 0)))) (pth 65)::
.gd (pth 59) false (.pick (.tmp (pth 62)) (.tmp (pth 65)) (.con (.bool false))) (pth 66)::
.go (.pick (.tmp (pth 59)) (.con (.bool true)) (.tmp (pth 66))) (pth 67)::
.go (.move (.tmp (pth 67))) (pth 68)::
.gd (pth 68) true (.call (.con (.func (.func 24) ⟨[]⟩ ⟨[]⟩)) []) (pth 69)::
.go (.pick (.tmp (pth 68)) (.tmp (pth 69)) (.con (.bool false))) (pth 70)::
.go (.move (.tmp (pth 70))) (pth 4)::
[])) .ret)))))))))
theorem de17 : @compF Try.prog (Gl.none Try.prog) Try.f17 2 = .mk d17 (mkTT 71) [(pth 0),(pth 1)] [.tmp (pth 4)] := by kernel_rfl
theorem dg17 : Try.prog.funcs[17]? = some Try.f17 := Try.func17
theorem do17 : okF Try.prog Try.f17 = true := by kernel_rfl
theorem ch_0 {k : Nat} (h : 0 < k) : ch 0 k = 0 := ch_lt h
theorem psum_low {a c : Nat} : ∀ k, k ≤ c → psum a 0 c 0 k = 0
  | 0, _ => rfl
  | k + 1, h => by
    rw [psum_s, psum_low k (by omega)]
    unfold part
    rw [ch_0 (show 0 < c - (0 + k) by omega)]
    rfl
theorem left_all {a b c n q : Nat} (hn : n ≤ q) : (0 : Int) ∈ leftL a b c c n q := by
  refine leftL_mem.2 ⟨0, rfl, by omega, ?_⟩
  have h1 : psum a 0 c 0 (c + 1) = ch a c := by have := psum_all a 0 c; simpa using this
  have h2 : psum a 0 c c (c + 1 - c) = ch a c := by
    have e : c + 1 - c = 1 := by omega
    rw [e, psum_1]
    unfold part
    rw [Nat.sub_self, ch_z, Nat.mul_one]
  have h3 : ¬ ch a c * q < n * ch a c := by
    have := Nat.mul_le_mul_right (ch a c) hn
    rw [Nat.mul_comm (ch a c)]
    omega
  unfold exc
  rw [h1, h2]
  have e0 : a + 0 = a := rfl
  rw [e0]
  have hb : below (ch a c) (ch a c) n q = false := decide_eq_false h3
  rw [hb]; rfl
theorem left_some {a b c d n q : Nat} (hd : d < c) (hc : c ≤ a) (hn : 0 < n) : (0 : Int) ∉ leftL a b c d n q := by
  intro h
  obtain ⟨u, hu, _, he⟩ := leftL_mem.1 h
  obtain rfl : u = 0 := by omega
  unfold exc at he
  rw [psum_low (d + 1) (by omega)] at he
  have hp := ch_pos hc
  have hb : below 0 (ch (a + 0) c) n q = true := decide_eq_true (by rw [Nat.zero_mul]; exact Nat.mul_pos hn hp)
  rw [hb] at he
  simp at he
theorem lfq_nat (a b c d n q : Nat) : lfq n q ((a : Int), (b : Int), (c : Int), (d : Int)) = leftL a b c d n q := by unfold lfq; simp only [Int.toNat_natCast]
theorem tot_all {a b c n q : Nat} (hz : arq ((a : Int), (b : Int), (c : Int), (c : Int))) (hl : lv n q) : (tot [((a : Int), (b : Int), (c : Int), (c : Int))] n q).2.2 = 0 ∧ (tot [((a : Int), (b : Int), (c : Int), (c : Int))] n q).1 = 0 := by
  have hm := left_all (a := a) (b := b) (c := c) (n := n) (q := q) (by have := hl.2; omega)
  have hne : leftL a b c c n q ≠ [] := fun x => by rw [x] at hm; simp at hm
  rw [tot1 hz hl, lfq_nat, if_neg hne]
  refine ⟨rfl, ?_⟩
  obtain ⟨u, hu, _⟩ := leftL_mem.1 (mn_mem hne)
  have := mn_le hm
  show mn _ = 0
  omega
theorem tot_some {a b c d n q : Nat} (hz : arq ((a : Int), (b : Int), (c : Int), (d : Int))) (hl : lv n q) (hd : d < c) (hn : 0 < n) : (tot [((a : Int), (b : Int), (c : Int), (d : Int))] n q).2.2 = 9 ∨ (tot [((a : Int), (b : Int), (c : Int), (d : Int))] n q).2.2 = 0 ∧ 0 < (tot [((a : Int), (b : Int), (c : Int), (d : Int))] n q).1 := by
  have hca : c ≤ a := by have := hz.2.1.2; simp only at this; omega
  rw [tot1 hz hl, lfq_nat]
  by_cases h : leftL a b c d n q = []
  · rw [if_pos h]; exact .inl rfl
  · rw [if_neg h]
    refine .inr ⟨rfl, ?_⟩
    have hm := mn_mem h
    obtain ⟨u, hu, _⟩ := leftL_mem.1 hm
    show 0 < mn _
    rcases Nat.eq_zero_or_pos u with rfl | hp
    · rw [hu] at hm; exact absurd hm (left_some hd hca hn)
    · omega
theorem f17_ok {a b c d n q : Int} {H : Heap} : F Try.prog 17 ⟨[.agg ⟨A4 a b c d⟩, .agg ⟨A2 n q⟩]⟩ H (fun w _ => w = .bool true) := by
  refine F.entryL rfl dg17 do17 de17 rfl (by kernel_rfl) ?_
  simp only [sets]
  refine V.re [(0, .agg ⟨A4 a b c d⟩), (1, .agg ⟨A2 n q⟩)] (N := 71) (by intro i; simp only [full_st, Full.mk]) (by simp only [Kn, gt_st, full_st, Full.mk, ↓reduceIte, reduceEqDiff, reduceLT, decide_true, and_self]) ?_
  intro t hF hA
  simp only [Kn, and_true] at hA
  (repeat first|apply V.seq|apply V.block|apply V.scope|apply V.skip|apply V.close)
  refine V.line' (by simp +contextual (disch := first|omega|simp only [nx];omega) only [D4, reduceNegSucc, reduceEq, reduceLeDiff, reduceSub, reduceAdd, D5, hF, hA, ↓reduceIte, reduceEqDiff, reduceLT]; with_reducible rfl) ?_
  refine V.heap (fun X => Grow H X ∧ Bx X H.next (A4 a b c d) 23 ∧ Bx X (H.next + 1) (A2 n q) 41) ⟨?_, ?_⟩ ?_
  · (repeat first | assumption | exact Grow.refl _ | refine Grow.alloc ?_ _ | refine Grow.set ?_ (by first|omega|simp only [nx];omega) _)
  · exact ⟨by (repeat first | assumption | exact Bx.new _ _ _ | exact Bx.newAt (by first|omega|simp only [nx];omega) | refine Bx.put (by first|omega|simp only [nx];omega) _ _ | refine Bx.alloc ?_ _ | refine Bx.set ?_ (by first|omega|simp only [nx];omega) _), by (repeat first | assumption | exact Bx.new _ _ _ | exact Bx.newAt (by first|omega|simp only [nx];omega) | refine Bx.put (by first|omega|simp only [nx];omega) _ _ | refine Bx.alloc ?_ _ | refine Bx.set ?_ (by first|omega|simp only [nx];omega) _)⟩
  rintro H1 ⟨g1, b1, c1⟩
  (repeat first|apply V.seq|apply V.block|apply V.scope|apply V.skip|apply V.close)
  refine V.run ?_
  refine VI.steps' 1 (by simp +contextual (disch := first|omega|simp only [nx];omega) only [D4, reduceNegSucc, reduceEq, reduceLeDiff, reduceSub, reduceAdd, D5, hF, hA, ↓reduceIte, reduceEqDiff, reduceLT, b1.2]; with_reducible rfl) ?_
  simp only [ds]
  refine VI.callA rfl (f48_ok a b c d _) (by simp only [D6, D5, hF, hA, ↓reduceIte, reduceEqDiff, reduceLT]; try rfl) (fun H2 g2 => ?_)
  have b2 := b1.grow g2
  have c2 := c1.grow g2
  refine VI.steps' 3 (by simp +contextual (disch := first|omega|simp only [nx];omega) only [D4, reduceNegSucc, reduceEq, reduceLeDiff, reduceSub, reduceAdd, D5, hF, hA, ↓reduceIte, reduceEqDiff, reduceLT, c2.2]; with_reducible rfl) ?_
  simp only [ds]
  first | refine VI.callGt (by simp only [D5, hF, hA, ↓reduceIte, reduceEqDiff, reduceLT]; rfl) (fun hc => by simp only [D6, D5, hF, hA, ↓reduceIte, reduceEqDiff, reduceLT, hc, and_self, and_true, true_and, not_false_eq_true]; try rfl) (fun hc => f36_ok n q _) (fun hc => by simp only [D6, D5, hF, hA, ↓reduceIte, reduceEqDiff, reduceLT, hc, and_self, and_true, true_and, not_false_eq_true]; try rfl) (fun H3 g3 => ?_) | refine VI.callGf (by simp only [D5, hF, hA, ↓reduceIte, reduceEqDiff, reduceLT]; rfl) (fun hc => by simp only [D6, D5, hF, hA, ↓reduceIte, reduceEqDiff, reduceLT, hc, and_self, and_true, true_and, not_false_eq_true]; try rfl) (fun hc => f36_ok n q _) (fun hc => by simp only [D6, D5, hF, hA, ↓reduceIte, reduceEqDiff, reduceLT, hc, and_self, and_true, true_and, not_false_eq_true]; try rfl) (fun H3 g3 => ?_)
  have b3 := b2.grow g3
  have c3 := c2.grow g3
  refine VI.line' (by simp +contextual (disch := first|omega|simp only [nx];omega) only [D4, reduceNegSucc, reduceEq, reduceLeDiff, reduceSub, reduceAdd, D5, hF, hA, ↓reduceIte, reduceEqDiff, reduceLT]; with_reducible rfl) ?_
  (repeat first|apply V.seq|apply V.block|apply V.scope|apply V.skip|apply V.close)
  refine V.condP (by simp only [D6, D5, hF, hA, ↓reduceIte, reduceEqDiff, reduceLT]; rfl) (fun h => ?_) (fun h => ?_)
  · (repeat first|apply V.seq|apply V.block|apply V.scope|apply V.skip|apply V.close)
    refine V.run ?_
    refine VI.callA rfl (f24_ok _) (by simp only [D6, D5, hF, hA, ↓reduceIte, reduceEqDiff, reduceLT]; try rfl) (fun H4 g4 => ?_)
    refine VI.line' (by simp +contextual (disch := first|omega|simp only [nx];omega) only [D4, reduceNegSucc, reduceEq, reduceLeDiff, reduceSub, reduceAdd, D5, hF, hA, ↓reduceIte, reduceEqDiff, reduceLT]; with_reducible rfl) ?_
    (repeat first|apply V.seq|apply V.block|apply V.scope|apply V.skip|apply V.close)
    refine V.ret (V.rets rfl (Lv.retF (by simp +contextual (disch := first|omega|simp only [nx];omega) only [D1, cells_alloc_at, cells_alloc_ne, cells_set_at, cells_set_ne, yres, yres1, yresL, reduceLeDiff, reduceSub, reduceAdd, D5, hF, hA, ↓reduceIte, reduceEqDiff, reduceLT]; rfl) ?_))
    rfl
  have hv : ar a b c d := by
    by_cases hx : ar a b c d
    · exact hx
    · exact absurd (by simp [hx]) h
  have hl : lv n q := by
    by_cases hx : lv n q
    · exact hx
    · exact absurd (by simp [hx]) h
  clear h
  obtain ⟨a, b, c, d, rfl, rfl, rfl, rfl, k1, k3, k4⟩ := ar_nat hv
  obtain ⟨n, q, rfl, rfl, hq1, hq2, hn2⟩ : ∃ n' q' : Nat, n = n' ∧ q = q' ∧ 1 ≤ q' ∧ q' ≤ 1000 ∧ n' ≤ q' := by
    obtain ⟨⟨k1, k2⟩, k3, k4⟩ := hl
    exact ⟨n.toNat, q.toNat, by omega, by omega, by omega, by omega, by omega⟩
  have hz1 : arq ((a : Int), (b : Int), (c : Int), (c : Int)) := by show ar a b c c; unfold ar pr; omega
  have hta := tot_all hz1 hl
  have fa : ∀ X, Gives Try.prog 39 [.agg ⟨A4 a b c c⟩, .agg ⟨A2 n q⟩] X (.tuple ⟨[.agg ⟨A2 (tot [((a : Int), (b : Int), (c : Int), (c : Int))] n q).1 (tot [((a : Int), (b : Int), (c : Int), (c : Int))] n q).2.1⟩, I (tot [((a : Int), (b : Int), (c : Int), (c : Int))] n q).2.2]⟩) := fun X => f39_ok a b c c n q X
  generalize tot [((a : Int), (b : Int), (c : Int), (c : Int))] n q = T at *
  obtain ⟨lo, hi, e⟩ := T
  simp only at hta fa
  obtain ⟨rfl, rfl⟩ := hta
  (repeat first|apply V.seq|apply V.block|apply V.scope|apply V.skip|apply V.close)
  refine V.line' (by simp +contextual (disch := first|omega|simp only [nx];omega) only [D4, reduceNegSucc, reduceEq, reduceLeDiff, reduceSub, reduceAdd, D5, hF, hA, ↓reduceIte, reduceEqDiff, reduceLT, b3.2]; with_reducible rfl) ?_
  refine V.heap (fun Y => Grow H3 Y ∧ Bx Y H3.next (A4 a b c d) 23) ⟨?_, ?_⟩ ?_
  · (repeat first | assumption | exact Grow.refl _ | refine Grow.alloc ?_ _ | refine Grow.set ?_ (by first|omega|simp only [nx];omega) _)
  · (repeat first | assumption | exact Bx.new _ _ _ | exact Bx.newAt (by first|omega|simp only [nx];omega) | refine Bx.put (by first|omega|simp only [nx];omega) _ _ | refine Bx.alloc ?_ _ | refine Bx.set ?_ (by first|omega|simp only [nx];omega) _)
  rintro X1 ⟨gx1, e1⟩
  have b4 := b3.grow gx1
  (repeat first|apply V.seq|apply V.block|apply V.scope|apply V.skip|apply V.close)
  refine V.line' (by simp +contextual (disch := first|omega|simp only [nx];omega) only [D4, reduceNegSucc, reduceEq, reduceLeDiff, reduceSub, reduceAdd, D5, hF, hA, ↓reduceIte, reduceEqDiff, reduceLT, e1.2, b4.2]; with_reducible rfl) ?_
  refine V.heap (fun Y => Grow H3 Y ∧ Bx Y H3.next (A4 a b c c) 23) ⟨?_, ?_⟩ ?_
  · have := gx1.1; (repeat first | assumption | exact Grow.refl _ | refine Grow.alloc ?_ _ | refine Grow.set ?_ (by first|omega|simp only [nx];omega) _)
  · have := e1.1; (repeat first | assumption | exact Bx.new _ _ _ | exact Bx.newAt (by first|omega|simp only [nx];omega) | refine Bx.put (by first|omega|simp only [nx];omega) _ _ | refine Bx.alloc ?_ _ | refine Bx.set ?_ (by first|omega|simp only [nx];omega) _)
  rintro X2 ⟨gx2, e2⟩
  have b5 := b3.grow gx2
  have c5 := c3.grow gx2
  (repeat first|apply V.seq|apply V.block|apply V.scope|apply V.skip|apply V.close)
  refine V.draw ?_
  refine VD.dins 1 (by simp +contextual (disch := first|omega|simp only [nx];omega) only [D4, reduceNegSucc, reduceEq, reduceLeDiff, reduceSub, reduceAdd, D5, hF, hA, ↓reduceIte, reduceEqDiff, reduceLT, e2.2]; with_reducible rfl) ?_
  simp only [ds]
  refine VD.callA (by simp only [D6, D5, hF, hA, ↓reduceIte, reduceEqDiff, reduceLT]; try rfl) (f21_ok a b c c _) (by simp only [D6, D5, hF, hA, ↓reduceIte, reduceEqDiff, reduceLT]; try rfl) (fun X3 gx3 => ?_)
  have cx3 := c5.grow gx3
  refine VD.dins 1 (by simp +contextual (disch := first|omega|simp only [nx];omega) only [D4, reduceNegSucc, reduceEq, reduceLeDiff, reduceSub, reduceAdd, D5, hF, hA, ↓reduceIte, reduceEqDiff, reduceLT, cx3.2]; with_reducible rfl) ?_
  simp only [ds]
  refine VD.callA (by simp only [D6, D5, hF, hA, ↓reduceIte, reduceEqDiff, reduceLT]; try rfl) (f28_ok n q _) (by simp only [D6, D5, hF, hA, ↓reduceIte, reduceEqDiff, reduceLT]; try rfl) (fun X4 gx4 => ?_)
  have cx4 := cx3.grow gx4
  refine VD.callA (by simp only [D6, D5, hF, hA, ↓reduceIte, reduceEqDiff, reduceLT]; try rfl) (fa _) (by simp only [D6, D5, hF, hA, ↓reduceIte, reduceEqDiff, reduceLT]; try rfl) (fun X5 gx5 => ?_)
  have cx5 := cx4.grow gx5
  refine VD.lineD' (by simp +contextual (disch := first|omega|simp only [nx];omega) only [D4, reduceNegSucc, reduceEq, reduceLeDiff, reduceSub, reduceAdd, D5, hF, hA, ↓reduceIte, reduceEqDiff, reduceLT]; with_reducible rfl) ?_ ?_ rfl ?_
  · have := gx3.1
    have := gx4.1
    have := gx5.1
    simp only [monoG, List.cons_append, List.nil_append, Heap.next_set, Heap.next_alloc, Nat.le_refl, true_and, and_true] <;> omega
  · simp only [dcAll, dcOk, wantD, List.cons_append, List.nil_append, true_and, and_true]
    exact ⟨fun _ q hq => by simp only [List.mem_cons, List.not_mem_nil, or_false] at hq; (repeat (rcases hq with rfl | hq; exact ⟨_, _, _, rfl, (by simp +contextual (disch := first|omega|simp only [nx];omega) only [D4, reduceNegSucc, reduceEq, reduceLeDiff, reduceSub, reduceAdd, D5, hF, hA, ↓reduceIte, reduceEqDiff, reduceLT, c5.2, cx3.2, cx4.2, cx5.2]; with_reducible rfl), fun p hp => by cases hp; simp only [D5, hF, hA, ↓reduceIte, reduceEqDiff, reduceLT]; first | exact vEq_An | simp [vEq, vEq0, all2]⟩)); (try (subst hq; exact ⟨_, _, _, rfl, (by simp +contextual (disch := first|omega|simp only [nx];omega) only [D4, reduceNegSucc, reduceEq, reduceLeDiff, reduceSub, reduceAdd, D5, hF, hA, ↓reduceIte, reduceEqDiff, reduceLT, c5.2, cx3.2, cx4.2, cx5.2]; with_reducible rfl), fun p hp => by cases hp; simp only [D5, hF, hA, ↓reduceIte, reduceEqDiff, reduceLT]; first | exact vEq_An | simp [vEq, vEq0, all2]⟩)), fun _ => ⟨_, _, _, rfl, rfl, rfl, (by simp only [D5, hF, hA, ↓reduceIte, reduceEqDiff, reduceLT]; simp [inBound]), fun _ => ⟨_, _, _, cells_alloc _ _ _ _, (by first | exact An_inb | rfl)⟩⟩⟩
  refine V.heap (fun Y => Grow X5 Y ∧ Bx Y X5.next (A2 0 hi) 53) ⟨?_, ?_⟩ ?_
  · (repeat first | assumption | exact Grow.refl _ | refine Grow.alloc ?_ _ | refine Grow.set ?_ (by first|omega|simp only [nx];omega) _)
  · (repeat first | assumption | exact Bx.new _ _ _ | exact Bx.newAt (by first|omega|simp only [nx];omega) | refine Bx.put (by first|omega|simp only [nx];omega) _ _ | refine Bx.alloc ?_ _ | refine Bx.set ?_ (by first|omega|simp only [nx];omega) _)
  rintro X6 ⟨gx6, r6⟩
  have g26 := ((gx3.trans gx4).trans gx5).trans gx6
  have b6 := b5.grow g26
  have c6 := c5.grow g26
  (repeat first|apply V.seq|apply V.block|apply V.scope|apply V.skip|apply V.close)
  refine V.line' (by simp +contextual (disch := first|omega|simp only [nx];omega) only [D4, reduceNegSucc, reduceEq, reduceLeDiff, reduceSub, reduceAdd, D5, hF, hA, ↓reduceIte, reduceEqDiff, reduceLT, r6.2, ne_eq, not_true_eq_false]; with_reducible rfl) ?_
  (repeat first|apply V.seq|apply V.block|apply V.scope|apply V.skip|apply V.close)
  refine V.condF (by simp only [D6, D5, hF, hA, ↓reduceIte, reduceEqDiff, reduceLT]) ?_
  (repeat first|apply V.seq|apply V.block|apply V.scope|apply V.skip|apply V.close)
  refine V.line' (by simp +contextual (disch := first|omega|simp only [nx];omega) only [D4, reduceNegSucc, reduceEq, reduceLeDiff, reduceSub, reduceAdd, D5, hF, hA, ↓reduceIte, reduceEqDiff, reduceLT, b6.2, c6.2]; with_reducible rfl) ?_
  (repeat first|apply V.seq|apply V.block|apply V.scope|apply V.skip|apply V.close)
  refine V.condP (by simp only [D6, D5, hF, hA, ↓reduceIte, reduceEqDiff, reduceLT]; rfl) (fun hq => ?_) (fun hq => ?_)
  · (repeat first|apply V.seq|apply V.block|apply V.scope|apply V.skip|apply V.close)
    refine V.run ?_
    refine VI.callA rfl (f24_ok _) (by simp only [D6, D5, hF, hA, ↓reduceIte, reduceEqDiff, reduceLT]; try rfl) (fun H4 g4 => ?_)
    refine VI.line' (by simp +contextual (disch := first|omega|simp only [nx];omega) only [D4, reduceNegSucc, reduceEq, reduceLeDiff, reduceSub, reduceAdd, D5, hF, hA, ↓reduceIte, reduceEqDiff, reduceLT]; with_reducible rfl) ?_
    (repeat first|apply V.seq|apply V.block|apply V.scope|apply V.skip|apply V.close)
    refine V.ret (V.rets rfl (Lv.retF (by simp +contextual (disch := first|omega|simp only [nx];omega) only [D1, cells_alloc_at, cells_alloc_ne, cells_set_at, cells_set_ne, yres, yres1, yresL, reduceLeDiff, reduceSub, reduceAdd, D5, hF, hA, ↓reduceIte, reduceEqDiff, reduceLT]; rfl) ?_))
    rfl
  have hz2 : arq ((a : Int), (b : Int), (c : Int), (d : Int)) := hv
  have hts := tot_some hz2 hl (by omega) (by omega)
  have fb : ∀ X, Gives Try.prog 39 [.agg ⟨A4 a b c d⟩, .agg ⟨A2 n q⟩] X (.tuple ⟨[.agg ⟨A2 (tot [((a : Int), (b : Int), (c : Int), (d : Int))] n q).1 (tot [((a : Int), (b : Int), (c : Int), (d : Int))] n q).2.1⟩, I (tot [((a : Int), (b : Int), (c : Int), (d : Int))] n q).2.2]⟩) := fun X => f39_ok a b c d n q X
  generalize tot [((a : Int), (b : Int), (c : Int), (d : Int))] n q = T at *
  obtain ⟨lo, hj, e⟩ := T
  simp only at hts fb
  (repeat first|apply V.seq|apply V.block|apply V.scope|apply V.skip|apply V.close)
  refine V.draw ?_
  refine VD.dins 1 (by simp +contextual (disch := first|omega|simp only [nx];omega) only [D4, reduceNegSucc, reduceEq, reduceLeDiff, reduceSub, reduceAdd, D5, hF, hA, ↓reduceIte, reduceEqDiff, reduceLT, b6.2]; with_reducible rfl) ?_
  simp only [ds]
  refine VD.callA (by simp only [D6, D5, hF, hA, ↓reduceIte, reduceEqDiff, reduceLT]; try rfl) (f21_ok a b c d _) (by simp only [D6, D5, hF, hA, ↓reduceIte, reduceEqDiff, reduceLT]; try rfl) (fun X7 gx7 => ?_)
  have cx7 := c6.grow gx7
  refine VD.dins 1 (by simp +contextual (disch := first|omega|simp only [nx];omega) only [D4, reduceNegSucc, reduceEq, reduceLeDiff, reduceSub, reduceAdd, D5, hF, hA, ↓reduceIte, reduceEqDiff, reduceLT, cx7.2]; with_reducible rfl) ?_
  simp only [ds]
  refine VD.callA (by simp only [D6, D5, hF, hA, ↓reduceIte, reduceEqDiff, reduceLT]; try rfl) (f28_ok n q _) (by simp only [D6, D5, hF, hA, ↓reduceIte, reduceEqDiff, reduceLT]; try rfl) (fun X8 gx8 => ?_)
  have cx8 := cx7.grow gx8
  refine VD.callA (by simp only [D6, D5, hF, hA, ↓reduceIte, reduceEqDiff, reduceLT]; try rfl) (fb _) (by simp only [D6, D5, hF, hA, ↓reduceIte, reduceEqDiff, reduceLT]; try rfl) (fun X9 gx9 => ?_)
  have cx9 := cx8.grow gx9
  refine VD.lineD' (by simp +contextual (disch := first|omega|simp only [nx];omega) only [D4, reduceNegSucc, reduceEq, reduceLeDiff, reduceSub, reduceAdd, D5, hF, hA, ↓reduceIte, reduceEqDiff, reduceLT]; with_reducible rfl) ?_ ?_ rfl ?_
  · have := gx7.1
    have := gx8.1
    have := gx9.1
    simp only [monoG, List.cons_append, List.nil_append, Heap.next_set, Heap.next_alloc, Nat.le_refl, true_and, and_true] <;> omega
  · simp only [dcAll, dcOk, wantD, List.cons_append, List.nil_append, true_and, and_true]
    exact ⟨fun _ q hq => by simp only [List.mem_cons, List.not_mem_nil, or_false] at hq; (repeat (rcases hq with rfl | hq; exact ⟨_, _, _, rfl, (by simp +contextual (disch := first|omega|simp only [nx];omega) only [D4, reduceNegSucc, reduceEq, reduceLeDiff, reduceSub, reduceAdd, D5, hF, hA, ↓reduceIte, reduceEqDiff, reduceLT, c6.2, cx7.2, cx8.2, cx9.2]; with_reducible rfl), fun p hp => by cases hp; simp only [D5, hF, hA, ↓reduceIte, reduceEqDiff, reduceLT]; first | exact vEq_An | simp [vEq, vEq0, all2]⟩)); (try (subst hq; exact ⟨_, _, _, rfl, (by simp +contextual (disch := first|omega|simp only [nx];omega) only [D4, reduceNegSucc, reduceEq, reduceLeDiff, reduceSub, reduceAdd, D5, hF, hA, ↓reduceIte, reduceEqDiff, reduceLT, c6.2, cx7.2, cx8.2, cx9.2]; with_reducible rfl), fun p hp => by cases hp; simp only [D5, hF, hA, ↓reduceIte, reduceEqDiff, reduceLT]; first | exact vEq_An | simp [vEq, vEq0, all2]⟩)), fun _ => ⟨_, _, _, rfl, rfl, rfl, (by simp only [D5, hF, hA, ↓reduceIte, reduceEqDiff, reduceLT]; simp [inBound]), fun _ => ⟨_, _, _, cells_alloc _ _ _ _, (by first | exact An_inb | rfl)⟩⟩⟩
  refine V.heap (fun Y => Grow X9 Y ∧ Bx Y X9.next (A2 lo hj) 53) ⟨?_, ?_⟩ ?_
  · (repeat first | assumption | exact Grow.refl _ | refine Grow.alloc ?_ _ | refine Grow.set ?_ (by first|omega|simp only [nx];omega) _)
  · (repeat first | assumption | exact Bx.new _ _ _ | exact Bx.newAt (by first|omega|simp only [nx];omega) | refine Bx.put (by first|omega|simp only [nx];omega) _ _ | refine Bx.alloc ?_ _ | refine Bx.set ?_ (by first|omega|simp only [nx];omega) _)
  rintro Y1 ⟨gy1, r1⟩
  rcases hts with rfl | ⟨rfl, hlo⟩
  · (repeat first|apply V.seq|apply V.block|apply V.scope|apply V.skip|apply V.close)
    refine V.run ?_
    refine VI.steps' 9 (by simp +contextual (disch := first|omega|simp only [nx];omega) only [D4, reduceNegSucc, reduceEq, reduceLeDiff, reduceSub, reduceAdd, D5, hF, hA, ↓reduceIte, reduceEqDiff, reduceLT, r1.2]; with_reducible rfl) ?_
    simp only [ds]
    refine VI.steps' 3 (by simp +contextual (disch := first|omega|simp only [nx];omega) only [D4, reduceNegSucc, reduceEq, reduceLeDiff, reduceSub, reduceAdd, D5, hF, hA, ↓reduceIte, reduceEqDiff, reduceLT, r1.2]; with_reducible rfl) ?_
    simp only [ds]
    refine VI.callAT (by simp only [D5, hF, hA, ↓reduceIte, reduceEqDiff, reduceLT]; try rfl) rfl (f24_ok _) (by simp only [D6, D5, hF, hA, ↓reduceIte, reduceEqDiff, reduceLT]; try rfl) (fun Y2 gy2 => ?_)
    refine VI.line' (by simp +contextual (disch := first|omega|simp only [nx];omega) only [D4, reduceNegSucc, reduceEq, reduceLeDiff, reduceSub, reduceAdd, D5, hF, hA, ↓reduceIte, reduceEqDiff, reduceLT]; with_reducible rfl) ?_
    (repeat first|apply V.seq|apply V.block|apply V.scope|apply V.skip|apply V.close)
    refine V.ret (V.rets rfl (Lv.retF (by simp +contextual (disch := first|omega|simp only [nx];omega) only [D1, cells_alloc_at, cells_alloc_ne, cells_set_at, cells_set_ne, yres, yres1, yresL, reduceLeDiff, reduceSub, reduceAdd, D5, hF, hA, ↓reduceIte, reduceEqDiff, reduceLT]; rfl) ?_))
    rfl
  · have n9 : ¬ ((0 : Int) = 9) := by decide
    (repeat first|apply V.seq|apply V.block|apply V.scope|apply V.skip|apply V.close)
    refine V.run ?_
    refine VI.steps' 9 (by simp +contextual (disch := first|omega|simp only [nx];omega) only [D4, reduceNegSucc, reduceEq, reduceLeDiff, reduceSub, reduceAdd, D5, hF, hA, ↓reduceIte, reduceEqDiff, reduceLT, r1.2, hlo, n9, not_false_eq_true]; with_reducible rfl) ?_
    simp only [ds]
    refine VI.steps' 3 (by simp +contextual (disch := first|omega|simp only [nx];omega) only [D4, reduceNegSucc, reduceEq, reduceLeDiff, reduceSub, reduceAdd, D5, hF, hA, ↓reduceIte, reduceEqDiff, reduceLT, r1.2, hlo, n9, not_false_eq_true]; with_reducible rfl) ?_
    simp only [ds]
    refine VI.callAT (by simp only [D5, hF, hA, ↓reduceIte, reduceEqDiff, reduceLT]; try rfl) rfl (f24_ok _) (by simp only [D6, D5, hF, hA, ↓reduceIte, reduceEqDiff, reduceLT]; try rfl) (fun Y2 gy2 => ?_)
    refine VI.line' (by simp +contextual (disch := first|omega|simp only [nx];omega) only [D4, reduceNegSucc, reduceEq, reduceLeDiff, reduceSub, reduceAdd, D5, hF, hA, ↓reduceIte, reduceEqDiff, reduceLT]; with_reducible rfl) ?_
    (repeat first|apply V.seq|apply V.block|apply V.scope|apply V.skip|apply V.close)
    refine V.ret (V.rets rfl (Lv.retF (by simp +contextual (disch := first|omega|simp only [nx];omega) only [D1, cells_alloc_at, cells_alloc_ne, cells_set_at, cells_set_ne, yres, yres1, yresL, reduceLeDiff, reduceSub, reduceAdd, D5, hF, hA, ↓reduceIte, reduceEqDiff, reduceLT]; rfl) ?_))
    rfl
end Go.Xe.TMX
/- Rules of reasoning over the executable reading of the model's code (part Z16): arguments, by what their types allow. Conditions: none; for every program. -/
namespace Go.Xe
open Go Go.RowKit Go.ChangeShapes Go.WideShapes
theorem okWide_agg {P : Program} {w : World} {r : Reach} {base : Nat} {t : TypeId} {v : Value} {fs : Array Field} (ht : P.underlying t = some (.struct fs)) (h : Value.okWide P w r base t v) : ∃ cs, v = .agg cs := by
  unfold Value.okWide at h
  rw [ht] at h
  obtain ⟨cs, h, _⟩ := h
  exact ⟨cs, h⟩
end Go.Xe
/- The end of a call that has changed nothing of what was there: what a statement asks of the memory behind it. Conditions: as post_of_same's, but that new memory may be frozen. -/
namespace Go.Xe
open Go Go.RowKit Go.ChangeShapes Go.WideShapes
variable {H : Type} {enc : TypeId × Value → H} {P : Program}
theorem post_of_old {f : Func} {s : ChangeSpec} {apart fresh handsOn again : Bool} {W W' : World} {args : Array Value} {v : Value} {ds gs : List (DataW H)} {before pa pv : List MemPlace}
    (hW : DataW.Whole enc P f.params.toList s.vars apart W args.toList ds gs before)
    (hres : ∀ (b : Nat) (sp : Nat → Bool) (hd : Bool), DataW.TrodAll enc P W' b sp hd f.resultTypes.toList (v.resultList f.resultTypes.size) (s.fn H (ds ++ gs)).results [])
    (hargs : ∀ sp : Nat → Bool, (∀ p ∈ before, sp p.block = true) → DataW.TrodAll enc P W' 0 sp true f.params.toList args.toList (s.fn H (ds ++ gs)).args pa)
    (hvars : ∀ sp : Nat → Bool, (∀ p ∈ before, sp p.block = true) → DataW.TrodVars enc P W' sp s.vars (s.fn H (ds ++ gs)).vars pv)
    (hps : before = pa ++ pv) (hk : W.keptBut W' (· ∈ before)) (hfz : ∀ a : Addr, a.block < W.heap.size → W'.frozen? a = W.frozen? a)
    (hok : ∀ (j : Nat) (t : TypeId) (r : Value), f.resultTypes[j]? = some t → (v.resultList f.resultTypes.size)[j]? = some r → Value.okWide P W' .any 0 t r) :
    s.post enc P f apart fresh handsOn again W args v W' := by
  have old : ∀ p ∈ before, p.block < W.heap.size := fun p hp => hW.lt p hp
  have hold : ∀ p ∈ before, (fun b => decide (b < W.heap.size)) p.block = true := fun p hp => by simpa using old p hp
  subst hps
  refine ⟨ds, gs, _, [], pa, pv, hW, hres _ _ _, hargs _ hold, hvars _ hold, World.keptBut_mono (fun p hp => ⟨hp, .inr (List.mem_append.1 hp)⟩) hk, fun _ => ?_⟩
  obtain ⟨_, _, _, _, _, hz, hn⟩ := hW
  refine ⟨hok, _, _, ([] ++ pa) ++ pv, ⟨[] ++ pa, pv, trodAll_append (hargs _ (fun _ _ => rfl)) (hres _ _ _), hvars _ (fun _ _ => rfl), rfl, ?_, ?_⟩, ?_⟩
  · intro b off hp
    have hp' : MemPlace.cell b off ∈ pa ++ pv := by simpa using hp
    rw [hfz _ (old _ hp')]
    exact hz b off hp'
  · intro ha
    simpa using hn ha
  · intro p hp _
    simpa using hp
end Go.Xe
