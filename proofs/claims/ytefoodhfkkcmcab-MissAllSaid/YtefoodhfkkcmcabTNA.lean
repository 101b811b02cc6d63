/- What the statement MissAll comes to. Conditions: none. -/
import Derived.Test.YtefoodhfkkcmcabTMT
-- MOD TM
namespace Go.Xe.TMX
open Go Go.Xe Go.Proofs Go.Xe.Mth
set_option maxRecDepth 100000
set_option maxHeartbeats 3200000
set_option linter.unusedSimpArgs false
noncomputable def d50 : FCode := (.seq (.run (.go (.box 36 (.tmp (pth 1))) (pth 4) ::
.go (.move (.con (.int .i64 (.ofNat 0)))) (pth 6) ::
.go (.move (.con (.bool false))) (pth 7) ::
[])) (.seq (.seq (.run (.go (.fieldAddr 1 (.tmp (pth 4))) (pth 8) ::
.go (.load1 (.tmp (pth 8))) (pth 9) ::
.go (.bin .lss 3 (.tmp (pth 9)) (.con (.int .i64 (.ofNat 1)))) (pth 10) ::
.go (.move (.tmp (pth 10))) (pth 11) ::
.gd (pth 11) false (.move (.tmp (pth 2))) (pth 12) ::
.gd (pth 11) false (.fieldAddr 1 (.tmp (pth 4))) (pth 13) ::
.gd (pth 11) false (.load1 (.tmp (pth 13))) (pth 14) ::
.gd (pth 11) false (.bin .rem 3 (.tmp (pth 12)) (.tmp (pth 14))) (pth 15) ::
.gd (pth 11) false (.bin .neq 3 (.tmp (pth 15)) (.con (.int .i64 (.ofNat 0)))) (pth 16) ::
.go (.pick (.tmp (pth 11)) (.con (.bool true)) (.tmp (pth 16))) (pth 17) ::
.go (.move (.tmp (pth 17))) (pth 18) ::
.gd (pth 18) false (.fieldAddr 0 (.tmp (pth 4))) (pth 19) ::
.gd (pth 18) false (.load1 (.tmp (pth 19))) (pth 20) ::
.gd (pth 18) false (.bin .lss 3 (.tmp (pth 20)) (.con (.int .i64 (.ofNat 0)))) (pth 21) ::
.go (.pick (.tmp (pth 18)) (.con (.bool true)) (.tmp (pth 21))) (pth 22) ::
.go (.move (.tmp (pth 22))) (pth 23) ::
.gd (pth 23) false (.fieldAddr 0 (.tmp (pth 4))) (pth 24) ::
.gd (pth 23) false (.load1 (.tmp (pth 24))) (pth 25) ::
.gd (pth 23) false (.fieldAddr 1 (.tmp (pth 4))) (pth 26) ::
.gd (pth 23) false (.load1 (.tmp (pth 26))) (pth 27) ::
.gd (pth 23) false (.bin .gtr 3 (.tmp (pth 25)) (.tmp (pth 27))) (pth 28) ::
.go (.pick (.tmp (pth 23)) (.con (.bool true)) (.tmp (pth 28))) (pth 29) ::
[])) (.cond (.tmp (pth 29)) (.seq (.run (.go (.move (.con (.int .i64 (.ofNat 0)))) (pth 6) ::
.go (.move (.con (.bool false))) (pth 7) ::
[])) .ret) .skip)) (.seq (.draw 11 (.go (.move (.tmp (pth 0))) (pth 30) ::
.go (.fieldAddr 0 (.tmp (pth 4))) (pth 31) ::
.go (.load1 (.tmp (pth 31))) (pth 32) ::
.go (.move (.tmp (pth 2))) (pth 33) ::
.go (.fieldAddr 1 (.tmp (pth 4))) (pth 34) ::
.go (.load1 (.tmp (pth 34))) (pth 35) ::
.go (.bin .quo 3 (.tmp (pth 33)) (.tmp (pth 35))) (pth 36) ::
.go (.bin .mul 3 (.tmp (pth 32)) (.tmp (pth 36))) (pth 37) ::
.go (.bin .add 3 (.tmp (pth 30)) (.tmp (pth 37))) (pth 38) ::
.go (.move (.tmp (pth 38))) (pth 6) ::
.go (.move (.con (.bool true))) (pth 7) ::
[]) [.ok,.ok,.ok,.ok,.ok,.ok,.ok,.ok,.ok,.ok,.ok]) .ret)))
theorem de50 : @compF Try.prog (Gl.none Try.prog) Try.f50 3 = .mk d50 (mkTT 39) [(pth 0),(pth 1),(pth 2)] [.tmp (pth 6),.tmp (pth 7)] := by kernel_rfl
theorem dg50 : Try.prog.funcs[50]? = some Try.f50 := Try.func50
theorem do50 : okF Try.prog Try.f50 = true := by kernel_rfl
noncomputable def d10 : FCode := (.seq (.run (.go (.box 23 (.tmp (pth 0))) (pth 2) ::
.go (.move (.con (.bool false))) (pth 4) ::
[])) (.seq (.seq (.run (.go (.loadN 4 (.tmp (pth 2))) (pth 23) ::
.go (.call (.con (.func (.func 48) ⟨[]⟩ ⟨[]⟩)) [(.tmp (pth 23))]) (pth 24) ::
.go (.un .not (.tmp (pth 24))) (pth 25) ::
[])) (.cond (.tmp (pth 25)) (.seq (.run (.go (.call (.con (.func (.func 24) ⟨[]⟩ ⟨[]⟩)) []) (pth 26) ::
.go (.move (.tmp (pth 26))) (pth 4) ::
[])) .ret) .skip)) (.seq (.run (.go (.move (.tmp (pth 1))) (pth 27) ::
.go (.conv .i64 (.tmp (pth 27))) (pth 28) ::
.go (.fieldAddr 1 (.tmp (pth 2))) (pth 29) ::
.go (.load1 (.tmp (pth 29))) (pth 30) ::
.go (.bin .add 3 (.tmp (pth 30)) (.con (.int .i64 (.ofNat 1)))) (pth 31) ::
.go (.bin .rem 3 (.tmp (pth 28)) (.tmp (pth 31))) (pth 32) ::
.go (.move (.tmp (pth 32))) (pth 5) ::
[])) (.seq (.run (.go (.loadN 4 (.tmp (pth 2))) (pth 33) ::
.go (.move (.tmp (pth 5))) (pth 34) ::
.go (.call (.con (.func (.func 49) ⟨[]⟩ ⟨[]⟩)) [(.tmp (pth 33)),(.tmp (pth 34))]) (pth 35) ::
.go (.move (.tmp (pth 35))) (pth 6) ::
.go (.move (.con (.int .i64 (.ofNat 0)))) (pth 7) ::
[])) (.seq (.seq (.run (.go (.move (.con (.int .i64 (.ofNat 0)))) (pth 8) ::
[])) (.block 0 (.loop (.seq (.seq (.run (.go (.move (.tmp (pth 8))) (pth 36) ::
.go (.fieldAddr 2 (.tmp (pth 2))) (pth 37) ::
.go (.load1 (.tmp (pth 37))) (pth 38) ::
.go (.bin .leq 3 (.tmp (pth 36)) (.tmp (pth 38))) (pth 39) ::
[])) (.cond (.tmp (pth 39)) .skip (.exit 0))) (.seq (.block 1 (.seq (.run (.go (.loadN 4 (.tmp (pth 2))) (pth 42) ::
.go (.alloc 23 [(.int .i64 (.ofNat 0)),(.int .i64 (.ofNat 0)),(.int .i64 (.ofNat 0)),(.int .i64 (.ofNat 0))]) (pth 9) ::
.un (.store 4 (.tmp (pth 9)) (.tmp (pth 42))) ::
[])) (.seq (.run (.go (.move (.tmp (pth 8))) (pth 43) ::
.go (.fieldAddr 3 (.tmp (pth 9))) (pth 44) ::
.un (.store 1 (.tmp (pth 44)) (.tmp (pth 43))) ::
[])) (.seq (.run (.go (.loadN 4 (.tmp (pth 9))) (pth 46) ::
.go (.call (.con (.func (.func 21) ⟨[]⟩ ⟨[]⟩)) [(.tmp (pth 46))]) (pth 47) ::
.go (.move (.tmp (pth 5))) (pth 48) ::
.go (.call (.con (.func (.func 26) ⟨[]⟩ ⟨[]⟩)) [(.tmp (pth 47)),(.tmp (pth 48))]) (pth 49) ::
.go (.move (.tmp (pth 49))) (pth 45) ::
.go (.extract (.tmp (pth 45)) 0) (pth 50) ::
.go (.extract (.tmp (pth 45)) 1) (pth 51) ::
.go (.alloc 36 [(.int .i64 (.ofNat 0)),(.int .i64 (.ofNat 0))]) (pth 10) ::
.un (.store 2 (.tmp (pth 10)) (.tmp (pth 50))) ::
.go (.move (.tmp (pth 51))) (pth 11) ::
[])) (.seq (.run (.go (.move (.tmp (pth 7))) (pth 53) ::
.go (.loadN 2 (.tmp (pth 10))) (pth 54) ::
.go (.move (.tmp (pth 6))) (pth 55) ::
.go (.call (.con (.func (.func 50) ⟨[]⟩ ⟨[]⟩)) [(.tmp (pth 53)),(.tmp (pth 54)),(.tmp (pth 55))]) (pth 56) ::
.go (.move (.tmp (pth 56))) (pth 52) ::
.go (.extract (.tmp (pth 52)) 0) (pth 57) ::
.go (.extract (.tmp (pth 52)) 1) (pth 58) ::
.go (.move (.tmp (pth 57))) (pth 12) ::
.go (.move (.tmp (pth 58))) (pth 13) ::
[])) (.seq (.seq (.run (.go (.move (.tmp (pth 11))) (pth 59) ::
.go (.bin .neq 24 (.tmp (pth 59)) (.con (.int .i64 (.ofNat 0)))) (pth 60) ::
.go (.move (.tmp (pth 60))) (pth 61) ::
.gd (pth 61) false (.move (.tmp (pth 13))) (pth 62) ::
.gd (pth 61) false (.un .not (.tmp (pth 62))) (pth 63) ::
.go (.pick (.tmp (pth 61)) (.con (.bool true)) (.tmp (pth 63))) (pth 64) ::
[])) (.cond (.tmp (pth 64)) (.seq (.run (.go (.move (.con (.bool false))) (pth 4) ::
[])) .ret) .skip)) (.run (.go (.move (.tmp (pth 12))) (pth 65) ::
.go (.move (.tmp (pth 65))) (pth 7) ::
[])))))))) (.run (.go (.move (.tmp (pth 8))) (pth 40) ::
.go (.bin .add 3 (.tmp (pth 40)) (.con (.int .i64 (.ofNat 1)))) (pth 41) ::
.go (.move (.tmp (pth 41))) (pth 8) ::
[]))))))) (.seq (.seq (.run (.go (.move (.tmp (pth 7))) (pth 66) ::
.go (.move (.tmp (pth 6))) (pth 67) ::
.go (.bin .neq 3 (.tmp (pth 66)) (.tmp (pth 67))) (pth 68) ::
[])) (.cond (.tmp (pth 68)) (.seq (.run (.go (.move (.con (.bool false))) (pth 4) ::
[])) .ret) .skip)) (.seq (.seq (.run (.go (.fieldAddr 3 (.tmp (pth 2))) (pth 69) ::
.go (.load1 (.tmp (pth 69))) (pth 70) ::
.go (.fieldAddr 2 (.tmp (pth 2))) (pth 71) ::
.go (.load1 (.tmp (pth 71))) (pth 72) ::
.go (.bin .eql 3 (.tmp (pth 70)) (.tmp (pth 72))) (pth 73) ::
[])) (.cond (.tmp (pth 73)) (.seq (.run (.go (.call (.con (.func (.func 24) ⟨[]⟩ ⟨[]⟩)) []) (pth 74) ::
.go (.move (.tmp (pth 74))) (pth 4) ::
[])) .ret) .skip)) (.seq (.run (.go (.loadN 4 (.tmp (pth 2))) (pth 75) ::
.go (.alloc 23 [(.int .i64 (.ofNat 0)),(.int .i64 (.ofNat 0)),(.int .i64 (.ofNat 0)),(.int .i64 (.ofNat 0))]) (pth 14) ::
.un (.store 4 (.tmp (pth 14)) (.tmp (pth 75))) ::
[])) (.seq (.run (.go (.fieldAddr 3 (.tmp (pth 14))) (pth 76) ::
.go (.load1 (.tmp (pth 76))) (pth 77) ::
.go (.bin .add 3 (.tmp (pth 77)) (.con (.int .i64 (.ofNat 1)))) (pth 78) ::
.go (.fieldAddr 3 (.tmp (pth 14))) (pth 79) ::
.un (.store 1 (.tmp (pth 79)) (.tmp (pth 78))) ::
[])) (.seq (.run (.go (.loadN 4 (.tmp (pth 2))) (pth 81) ::
.go (.call (.con (.func (.func 21) ⟨[]⟩ ⟨[]⟩)) [(.tmp (pth 81))]) (pth 82) ::
.go (.move (.tmp (pth 5))) (pth 83) ::
.go (.call (.con (.func (.func 27) ⟨[]⟩ ⟨[]⟩)) [(.tmp (pth 82)),(.tmp (pth 83)),(.con (.bool true))]) (pth 84) ::
.go (.move (.tmp (pth 84))) (pth 80) ::
.go (.extract (.tmp (pth 80)) 0) (pth 85) ::
.go (.extract (.tmp (pth 80)) 1) (pth 86) ::
.go (.alloc 36 [(.int .i64 (.ofNat 0)),(.int .i64 (.ofNat 0))]) (pth 15) ::
.un (.store 2 (.tmp (pth 15)) (.tmp (pth 85))) ::
.go (.move (.tmp (pth 86))) (pth 16) ::
[])) (.seq (.run (.go (.loadN 4 (.tmp (pth 14))) (pth 88) ::
.go (.call (.con (.func (.func 21) ⟨[]⟩ ⟨[]⟩)) [(.tmp (pth 88))]) (pth 89) ::
.go (.move (.tmp (pth 5))) (pth 90) ::
.go (.call (.con (.func (.func 27) ⟨[]⟩ ⟨[]⟩)) [(.tmp (pth 89)),(.tmp (pth 90)),(.con (.bool false))]) (pth 91) ::
.go (.move (.tmp (pth 91))) (pth 87) ::
.go (.extract (.tmp (pth 87)) 0) (pth 92) ::
.go (.extract (.tmp (pth 87)) 1) (pth 93) ::
.go (.alloc 36 [(.int .i64 (.ofNat 0)),(.int .i64 (.ofNat 0))]) (pth 17) ::
.un (.store 2 (.tmp (pth 17)) (.tmp (pth 92))) ::
.go (.move (.tmp (pth 93))) (pth 18) ::
[])) (.seq (.run (.go (.loadN 2 (.tmp (pth 15))) (pth 95) ::
.go (.move (.tmp (pth 6))) (pth 96) ::
.go (.call (.con (.func (.func 50) ⟨[]⟩ ⟨[]⟩)) [(.con (.int .i64 (.ofNat 0))),(.tmp (pth 95)),(.tmp (pth 96))]) (pth 97) ::
.go (.move (.tmp (pth 97))) (pth 94) ::
.go (.extract (.tmp (pth 94)) 0) (pth 98) ::
.go (.extract (.tmp (pth 94)) 1) (pth 99) ::
.go (.move (.tmp (pth 98))) (pth 19) ::
.go (.move (.tmp (pth 99))) (pth 20) ::
[])) (.seq (.run (.go (.move (.tmp (pth 19))) (pth 101) ::
.go (.loadN 2 (.tmp (pth 17))) (pth 102) ::
.go (.move (.tmp (pth 6))) (pth 103) ::
.go (.call (.con (.func (.func 50) ⟨[]⟩ ⟨[]⟩)) [(.tmp (pth 101)),(.tmp (pth 102)),(.tmp (pth 103))]) (pth 104) ::
.go (.move (.tmp (pth 104))) (pth 100) ::
.go (.extract (.tmp (pth 100)) 0) (pth 105) ::
.go (.extract (.tmp (pth 100)) 1) (pth 106) ::
.go (.move (.tmp (pth 105))) (pth 21) ::
.go (.move (.tmp (pth 106))) (pth 22) ::
[])) (.seq (.run (.go (.move (.tmp (pth 16))) (pth 107) ::
.go (.bin .eql 24 (.tmp (pth 107)) (.con (.int .i64 (.ofNat 0)))) (pth 108) ::
.go (.move (.tmp (pth 108))) (pth 109) ::
.gd (pth 109) true (.move (.tmp (pth 18))) (pth 110) ::
.gd (pth 109) true (.bin .eql 24 (.tmp (pth 110)) (.con (.int .i64 (.ofNat 0)))) (pth 111) ::
.go (.pick (.tmp (pth 109)) (.tmp (pth 111)) (.con (.bool false))) (pth 112) ::
.go (.move (.tmp (pth 112))) (pth 113) ::
.gd (pth 113) true (.move (.tmp (pth 20))) (pth 114) ::
.go (.pick (.tmp (pth 113)) (.tmp (pth 114)) (.con (.bool false))) (pth 115) ::
.go (.move (.tmp (pth 115))) (pth 116) ::
.gd (pth 116) true (.move (.tmp (pth 22))) (pth 117) ::
.go (.pick (.tmp (pth 116)) (.tmp (pth 117)) (.con (.bool false))) (pth 118) ::
.go (.move (.tmp (pth 118))) (pth 119) ::
.gd (pth 119) true (.move (.tmp (pth 21))) (pth 120) ::
.gd (pth 119) true (.move (.tmp (pth 6))) (pth 121) ::
.gd (pth 119) true (.bin .eql 3 (.tmp (pth 120)) (.tmp (pth 121))) (pth 122) ::
.go (.pick (.tmp (pth 119)) (.tmp (pth 122)) (.con (.bool false))) (pth 123) ::
.go (.move (.tmp (pth 123))) (pth 124) ::
.gd (pth 124) true (.call (.con (.func (.func 24) ⟨[]⟩ ⟨[]⟩)) []) (pth 125) ::
.go (.pick (.tmp (pth 124)) (.tmp (pth 125)) (.con (.bool false))) (pth 126) ::
.go (.move (.tmp (pth 126))) (pth 4) ::
[])) .ret))))))))))))))
theorem de10 : @compF Try.prog (Gl.none Try.prog) Try.f10 2 = .mk d10 (mkTT 127) [(pth 0),(pth 1)] [.tmp (pth 4)] := by kernel_rfl
theorem dg10 : Try.prog.funcs[10]? = some Try.f10 := Try.func10
theorem do10 : okF Try.prog Try.f10 = true := by kernel_rfl
theorem rd_of {a b c d u : Nat} (h1 : a + b ≤ 50) (h2 : u ≤ b) (h3 : c ≤ a) (h4 : d ≤ c) : rd a b c d u = 0 := by
  have hv : ar a b c d := by unfold ar pr; omega
  unfold rd
  rw [if_neg (not_not_intro hv), if_neg (by omega)]
theorem ar_nat {a b c d : Int} (h : ar a b c d) : ∃ a' b' c' d' : Nat, a = a' ∧ b = b' ∧ c = c' ∧ d = d' ∧ a' + b' ≤ 50 ∧ c' ≤ a' ∧ d' ≤ c' := by
  obtain ⟨⟨⟨h1, h2⟩, ⟨h3, h4⟩, h5⟩, ⟨h6, h7⟩, h8, h9⟩ := h
  exact ⟨a.toNat, b.toNat, c.toNat, d.toNat, by omega, by omega, by omega, by omega, by omega, by omega, by omega⟩
theorem f50_ok {s n w : Nat} (hn : n ≤ w) (hw : 0 < w) (hw2 : w ≤ 1152921504606846976) (hs : s ≤ 2305843009213693952) (H : Heap) : Gives Try.prog 50 [I s, .agg ⟨fr n w⟩, I w] H (.tuple ⟨[I ((s + n : Nat) : Int), .bool true]⟩) := by
  have hg := Nat.gcd_pos_of_pos_right n hw
  have hgw := Nat.gcd_dvd_right n w
  have hgn := Nat.gcd_dvd_left n w
  have hle := Nat.le_of_dvd hw hgw
  have q1 : 0 < w / Nat.gcd n w := Nat.div_pos hle hg
  have q2 : n / Nat.gcd n w ≤ w / Nat.gcd n w := Nat.div_le_div_right hn
  have q3 : w % (w / Nat.gcd n w) = 0 := Nat.mod_eq_zero_of_dvd (Nat.div_dvd_of_dvd hgw)
  have q4 : w / (w / Nat.gcd n w) = Nat.gcd n w := Nat.div_div_self hgw (by omega)
  have q5 : n / Nat.gcd n w * Nat.gcd n w = n := Nat.div_mul_cancel hgn
  have q6 := Nat.div_le_self n (Nat.gcd n w)
  have q7 := Nat.div_le_self w (Nat.gcd n w)
  have hfr : fr n w = A2 ((n / Nat.gcd n w : Nat) : Int) ((w / Nat.gcd n w : Nat) : Int) := rfl
  rw [hfr]
  generalize n / Nat.gcd n w = p at *
  generalize w / Nat.gcd n w = q at *
  generalize Nat.gcd n w = g at *
  have e1 : (w : Int).tmod q = 0 := by rw [← Int.ofNat_tmod, q3]; rfl
  have e2 : (w : Int).tdiv q = g := by rw [← Int.ofNat_tdiv, q4]
  have e3 : (p : Int) * g = n := by rw [← q5]; push_cast; rfl
  have e4 : (s : Int) + n = ((s + n : Nat) : Int) := rfl
  have n1 : ¬ ((q : Int) < 1) := by omega
  have n2 : ¬ ((q : Int) = 0) := by omega
  have n3 : ¬ ((p : Int) < 0) := by omega
  have n4 : ¬ ((q : Int) < p) := by omega
  refine F.entryL rfl dg50 do50 de50 rfl (by kernel_rfl) ?_
  simp only [sets]
  refine V.re [(0, I s), (1, .agg ⟨A2 p q⟩), (2, I w)] (N := 39) (by intro i; simp only [full_st, Full.mk]) (by simp only [Kn, gt_st, full_st, Full.mk, ↓reduceIte, Nat.reduceEqDiff, Nat.reduceLT, decide_true, and_self]) ?_
  intro t hF hA
  simp only [Kn, and_true] at hA
  (repeat first | refine V.seq ?_ | refine V.block ?_ | refine V.scope ?_ | refine V.skip ?_ | refine V.close ?_)
  refine V.line' (by simp +contextual (maxSteps := 1000000) (disch := (first | omega | (simp only [nx]; omega))) only [D4, Int.reduceNegSucc, Int.reduceEq, Nat.reduceLeDiff, Nat.reduceSub, Nat.reduceAdd, D5, hF, hA, ↓reduceIte, Nat.reduceEqDiff, Nat.reduceLT]; with_reducible rfl) ?_
  refine V.heap (fun X => Grow H X ∧ Bx X H.next (A2 p q) 36) ⟨?_, ?_⟩ ?_
  · (repeat first | assumption | exact Grow.refl _ | refine Grow.alloc ?_ _ | refine Grow.set ?_ (by first | omega | (simp only [Heap.next_alloc, Heap.next_set]; omega)) _)
  · (repeat first | assumption | exact Bx.new _ _ _ | exact Bx.newAt (by first | omega | (simp only [Heap.next_alloc, Heap.next_set]; omega)) | refine Bx.put (by first | omega | (simp only [Heap.next_alloc, Heap.next_set]; omega)) _ _ | refine Bx.alloc ?_ _ | refine Bx.set ?_ (by first | omega | (simp only [Heap.next_alloc, Heap.next_set]; omega)) _)
  rintro H1 ⟨g1, b1⟩
  (repeat first | refine V.seq ?_ | refine V.block ?_ | refine V.scope ?_ | refine V.skip ?_ | refine V.close ?_)
  refine V.line' (by simp +contextual (maxSteps := 1000000) (disch := (first | omega | (simp only [nx]; omega))) only [D4, Int.reduceNegSucc, Int.reduceEq, Nat.reduceLeDiff, Nat.reduceSub, Nat.reduceAdd, D5, hF, hA, ↓reduceIte, Nat.reduceEqDiff, Nat.reduceLT, b1.2, e1, n1, n2, n3, n4, ne_eq, not_true_eq_false]; with_reducible rfl) ?_
  (repeat first | refine V.seq ?_ | refine V.block ?_ | refine V.scope ?_ | refine V.skip ?_ | refine V.close ?_)
  refine V.condF (by simp only [D6, D5, hF, hA, ↓reduceIte, Nat.reduceEqDiff, Nat.reduceLT]) ?_
  (repeat first | refine V.seq ?_ | refine V.block ?_ | refine V.scope ?_ | refine V.skip ?_ | refine V.close ?_)
  refine V.lineD' (by simp +contextual (maxSteps := 1000000) (disch := (first | omega | (simp only [nx]; omega))) only [D4, Int.reduceNegSucc, Int.reduceEq, Nat.reduceLeDiff, Nat.reduceSub, Nat.reduceAdd, D5, hF, hA, ↓reduceIte, Nat.reduceEqDiff, Nat.reduceLT, b1.2, e2, e3, e4, n2]; with_reducible rfl) ?_ ?_ rfl ?_
  · simp only [monoG, List.cons_append, List.nil_append, Heap.next_set, Heap.next_alloc, Nat.le_refl, true_and, and_true] <;> omega
  · simp only [dcAll, dcOk, wantD, List.cons_append, List.nil_append, true_and, and_true]
  (repeat first | refine V.seq ?_ | refine V.block ?_ | refine V.scope ?_ | refine V.skip ?_ | refine V.close ?_)
  refine V.ret (V.rets rfl (Lv.retG (by simp +contextual (disch := (first | omega | (simp only [nx]; omega))) only [D1, cells_alloc_at, cells_alloc_ne, cells_set_at, cells_set_ne, yres, yres1, yresL, Nat.reduceLeDiff, Nat.reduceSub, Nat.reduceAdd, D5, hF, hA, ↓reduceIte, Nat.reduceEqDiff, Nat.reduceLT]; rfl) ?_ ?_))
  · exact g1
  · rfl
theorem psum_all (a u c : Nat) : psum a u c 0 (c + 1) = ch (a + u) c := by
  rw [← vander]
  unfold psum part
  simp only [Nat.zero_add]
theorem f10_ok {a b c d m : Int} {H : Heap} (hm : 0 ≤ m ∧ m ≤ 255) : F Try.prog 10 ⟨[.agg ⟨A4 a b c d⟩, By m]⟩ H (fun w _ => w = .bool true) := by
  refine F.entryL rfl dg10 do10 de10 rfl (by kernel_rfl) ?_
  simp only [sets]
  refine V.re [(0, .agg ⟨A4 a b c d⟩), (1, By m)] (N := 127) (by intro i; simp only [full_st, Full.mk]) (by simp only [Kn, gt_st, full_st, Full.mk, ↓reduceIte, Nat.reduceEqDiff, Nat.reduceLT, decide_true, and_self]) ?_
  intro t hF hA
  simp only [Kn, and_true] at hA
  (repeat first | refine V.seq ?_ | refine V.block ?_ | refine V.scope ?_ | refine V.skip ?_ | refine V.close ?_)
  refine V.line' (by simp +contextual (maxSteps := 1000000) (disch := (first | omega | (simp only [nx]; omega))) only [D4, Int.reduceNegSucc, Int.reduceEq, Nat.reduceLeDiff, Nat.reduceSub, Nat.reduceAdd, D5, hF, hA, ↓reduceIte, Nat.reduceEqDiff, Nat.reduceLT]; with_reducible rfl) ?_
  refine V.heap (fun X => Grow H X ∧ Bx X H.next (A4 a b c d) 23) ⟨?_, ?_⟩ ?_
  · (repeat first | assumption | exact Grow.refl _ | refine Grow.alloc ?_ _ | refine Grow.set ?_ (by first | omega | (simp only [Heap.next_alloc, Heap.next_set]; omega)) _)
  · (repeat first | assumption | exact Bx.new _ _ _ | exact Bx.newAt (by first | omega | (simp only [Heap.next_alloc, Heap.next_set]; omega)) | refine Bx.put (by first | omega | (simp only [Heap.next_alloc, Heap.next_set]; omega)) _ _ | refine Bx.alloc ?_ _ | refine Bx.set ?_ (by first | omega | (simp only [Heap.next_alloc, Heap.next_set]; omega)) _)
  rintro H1 ⟨g1, b1⟩
  (repeat first | refine V.seq ?_ | refine V.block ?_ | refine V.scope ?_ | refine V.skip ?_ | refine V.close ?_)
  refine V.run ?_
  refine VI.steps' 1 (by simp +contextual (maxSteps := 1000000) (disch := (first | omega | (simp only [nx]; omega))) only [D4, Int.reduceNegSucc, Int.reduceEq, Nat.reduceLeDiff, Nat.reduceSub, Nat.reduceAdd, D5, hF, hA, ↓reduceIte, Nat.reduceEqDiff, Nat.reduceLT, b1.2]; with_reducible rfl) ?_
  simp only [List.drop_succ_cons, List.drop_zero]
  refine VI.callA rfl (f48_ok a b c d _) (by simp only [D6, D5, hF, hA, ↓reduceIte, Nat.reduceEqDiff, Nat.reduceLT]; try rfl) (fun H2 g2 => ?_)
  have b2 := b1.grow g2
  refine VI.line' (by simp +contextual (maxSteps := 1000000) (disch := (first | omega | (simp only [nx]; omega))) only [D4, Int.reduceNegSucc, Int.reduceEq, Nat.reduceLeDiff, Nat.reduceSub, Nat.reduceAdd, D5, hF, hA, ↓reduceIte, Nat.reduceEqDiff, Nat.reduceLT]; with_reducible rfl) ?_
  (repeat first | refine V.seq ?_ | refine V.block ?_ | refine V.scope ?_ | refine V.skip ?_ | refine V.close ?_)
  refine V.condP (by simp only [D6, D5, hF, hA, ↓reduceIte, Nat.reduceEqDiff, Nat.reduceLT]; rfl) (fun h => ?_) (fun h => ?_)
  · (repeat first | refine V.seq ?_ | refine V.block ?_ | refine V.scope ?_ | refine V.skip ?_ | refine V.close ?_)
    refine V.run ?_
    refine VI.callA rfl (f24_ok _) (by simp only [D6, D5, hF, hA, ↓reduceIte, Nat.reduceEqDiff, Nat.reduceLT]; try rfl) (fun H3 g3 => ?_)
    refine VI.line' (by simp +contextual (maxSteps := 1000000) (disch := (first | omega | (simp only [nx]; omega))) only [D4, Int.reduceNegSucc, Int.reduceEq, Nat.reduceLeDiff, Nat.reduceSub, Nat.reduceAdd, D5, hF, hA, ↓reduceIte, Nat.reduceEqDiff, Nat.reduceLT]; with_reducible rfl) ?_
    (repeat first | refine V.seq ?_ | refine V.block ?_ | refine V.scope ?_ | refine V.skip ?_ | refine V.close ?_)
    refine V.ret (V.rets rfl (Lv.retF (by simp +contextual (disch := (first | omega | (simp only [nx]; omega))) only [D1, cells_alloc_at, cells_alloc_ne, cells_set_at, cells_set_ne, yres, yres1, yresL, Nat.reduceLeDiff, Nat.reduceSub, Nat.reduceAdd, D5, hF, hA, ↓reduceIte, Nat.reduceEqDiff, Nat.reduceLT]; rfl) ?_))
    rfl
  obtain ⟨a, b, c, d, rfl, rfl, rfl, rfl, k1, k3, k4⟩ := ar_nat (Decidable.not_not.1 h)
  obtain ⟨u, eu, hu, _⟩ := tm_nat hm.1 (b := (b : Int) + 1) (by omega)
  have wm : IntKind.i64.wrap m = m := wrap_i64 (by omega) (by omega)
  have n0 : ¬ ((b : Int) + 1 = 0) := by omega
  have hcb := ch_bound (n := a + u) c (by omega)
  have hcp := ch_pos (n := a + u) (k := c) (by omega)
  (repeat first | refine V.seq ?_ | refine V.block ?_ | refine V.scope ?_ | refine V.skip ?_ | refine V.close ?_)
  refine V.line' (by simp +contextual (maxSteps := 1000000) (disch := (first | omega | (simp only [nx]; omega))) only [D4, Int.reduceNegSucc, Int.reduceEq, Nat.reduceLeDiff, Nat.reduceSub, Nat.reduceAdd, D5, hF, hA, ↓reduceIte, Nat.reduceEqDiff, Nat.reduceLT, b2.2, wm, n0, eu]; with_reducible rfl) ?_
  (repeat first | refine V.seq ?_ | refine V.block ?_ | refine V.scope ?_ | refine V.skip ?_ | refine V.close ?_)
  refine V.re [(2, PT H.next), (5, I u)] (N := 127) (by intro i; simp only [full_st, hF]) (by simp only [Kn, D5, hF, hA, ↓reduceIte, Nat.reduceEqDiff, Nat.reduceLT, and_self, and_true, true_and]; try (repeat' constructor)) ?_
  clear hF hA
  intro t hF hA
  simp only [Kn, and_true] at hA
  refine V.run ?_
  refine VI.steps' 2 (by simp +contextual (maxSteps := 1000000) (disch := (first | omega | (simp only [nx]; omega))) only [D4, Int.reduceNegSucc, Int.reduceEq, Nat.reduceLeDiff, Nat.reduceSub, Nat.reduceAdd, D5, hF, hA, ↓reduceIte, Nat.reduceEqDiff, Nat.reduceLT, b2.2]; with_reducible rfl) ?_
  simp only [List.drop_succ_cons, List.drop_zero]
  refine VI.callA rfl (f49_ok (a := a) (b := b) (c := c) (d := d) (u := u) (by omega) (by omega) _) (by simp only [D6, D5, hF, hA, ↓reduceIte, Nat.reduceEqDiff, Nat.reduceLT]; try rfl) (fun H3 g3 => ?_)
  have b3 := b2.grow g3
  refine VI.line' (by simp +contextual (maxSteps := 1000000) (disch := (first | omega | (simp only [nx]; omega))) only [D4, Int.reduceNegSucc, Int.reduceEq, Nat.reduceLeDiff, Nat.reduceSub, Nat.reduceAdd, D5, hF, hA, ↓reduceIte, Nat.reduceEqDiff, Nat.reduceLT]; with_reducible rfl) ?_
  (repeat first | refine V.seq ?_ | refine V.block ?_ | refine V.scope ?_ | refine V.skip ?_ | refine V.close ?_)
  refine V.line' (by simp +contextual (maxSteps := 1000000) (disch := (first | omega | (simp only [nx]; omega))) only [D4, Int.reduceNegSucc, Int.reduceEq, Nat.reduceLeDiff, Nat.reduceSub, Nat.reduceAdd, D5, hF, hA, ↓reduceIte, Nat.reduceEqDiff, Nat.reduceLT]; with_reducible rfl) ?_
  (repeat first | refine V.seq ?_ | refine V.block ?_ | refine V.scope ?_ | refine V.skip ?_ | refine V.close ?_)
  refine V.re [(2, PT H.next), (5, I u), (6, I ((ch (a + u) c : Nat) : Int)), (7, I 0), (8, I 0)] (N := 127) (by intro i; simp only [full_st, hF]) (by simp only [Kn, D5, hF, hA, ↓reduceIte, Nat.reduceEqDiff, Nat.reduceLT, and_self, and_true, true_and]; try (repeat' constructor)) ?_
  clear hF hA
  intro t hF hA
  simp only [Kn, and_true] at hA
  refine V.loop (fun r t m X => ∃ (k : Nat), k ≤ c + 1 ∧ r = c + 1 - k ∧ m = [] ∧ Grow H3 X ∧ Full 127 t ∧ Kn [(2, PT H.next), (5, I u), (6, I ((ch (a + u) c : Nat) : Int)), (7, I ((psum a u c 0 k : Nat) : Int)), (8, I k)] t) (c + 1) ?_ ?_
  · exact ⟨0, by omega, by omega, rfl, .refl _, (by intro i; simp only [full_st, hF]), (by simp only [Kn, D5, hF, hA, ↓reduceIte, Nat.reduceEqDiff, Nat.reduceLT, and_self, and_true, true_and]; try (repeat' constructor))⟩
  clear hF hA
  rintro r t m X ⟨k, hk, rfl, rfl, hg, hF, hA⟩
  simp only [Kn, and_true] at hA
  have bx := b3.grow hg
  (repeat first | refine V.seq ?_ | refine V.block ?_ | refine V.scope ?_ | refine V.skip ?_ | refine V.close ?_)
  refine V.line' (by simp +contextual (maxSteps := 1000000) (disch := (first | omega | (simp only [nx]; omega))) only [D4, Int.reduceNegSucc, Int.reduceEq, Nat.reduceLeDiff, Nat.reduceSub, Nat.reduceAdd, D5, hF, hA, ↓reduceIte, Nat.reduceEqDiff, Nat.reduceLT, bx.2]; with_reducible rfl) ?_
  (repeat first | refine V.seq ?_ | refine V.block ?_ | refine V.scope ?_ | refine V.skip ?_ | refine V.close ?_)
  refine V.condP (by simp only [D6, D5, hF, hA, ↓reduceIte, Nat.reduceEqDiff, Nat.reduceLT]; rfl) (fun hlt => ?_) (fun hlt => ?_)
  · have hk' : k ≤ c := by omega
    have hr := rd_of (d := k) k1 (u := u) (by omega) k3 hk'
    have hpk := part_le (a := a) (u := u) hk'
    have hps := psum_le (a := a) (u := u) (c := c) (f := 0) (n := k + 1) (by omega)
    rw [psum_s, Nat.zero_add] at hps
    (repeat first | refine V.seq ?_ | refine V.block ?_ | refine V.scope ?_ | refine V.skip ?_ | refine V.close ?_)
    refine V.line' (by simp +contextual (maxSteps := 1000000) (disch := (first | omega | (simp only [nx]; omega))) only [D4, Int.reduceNegSucc, Int.reduceEq, Nat.reduceLeDiff, Nat.reduceSub, Nat.reduceAdd, D5, hF, hA, ↓reduceIte, Nat.reduceEqDiff, Nat.reduceLT, bx.2]; with_reducible rfl) ?_
    refine V.heap (fun Y => Grow X Y ∧ Bx Y X.next (A4 a b c d) 23) ⟨?_, ?_⟩ ?_
    · (repeat first | assumption | exact Grow.refl _ | refine Grow.alloc ?_ _ | refine Grow.set ?_ (by first | omega | (simp only [Heap.next_alloc, Heap.next_set]; omega)) _)
    · (repeat first | assumption | exact Bx.new _ _ _ | exact Bx.newAt (by first | omega | (simp only [Heap.next_alloc, Heap.next_set]; omega)) | refine Bx.put (by first | omega | (simp only [Heap.next_alloc, Heap.next_set]; omega)) _ _ | refine Bx.alloc ?_ _ | refine Bx.set ?_ (by first | omega | (simp only [Heap.next_alloc, Heap.next_set]; omega)) _)
    rintro X1 ⟨gx1, e1⟩
    (repeat first | refine V.seq ?_ | refine V.block ?_ | refine V.scope ?_ | refine V.skip ?_ | refine V.close ?_)
    refine V.line' (by simp +contextual (maxSteps := 1000000) (disch := (first | omega | (simp only [nx]; omega))) only [D4, Int.reduceNegSucc, Int.reduceEq, Nat.reduceLeDiff, Nat.reduceSub, Nat.reduceAdd, D5, hF, hA, ↓reduceIte, Nat.reduceEqDiff, Nat.reduceLT, e1.2]; with_reducible rfl) ?_
    refine V.heap (fun Y => Grow X Y ∧ Bx Y X.next (A4 a b c k) 23) ⟨?_, ?_⟩ ?_
    · have := gx1.1; (repeat first | assumption | exact Grow.refl _ | refine Grow.alloc ?_ _ | refine Grow.set ?_ (by first | omega | (simp only [Heap.next_alloc, Heap.next_set]; omega)) _)
    · have := e1.1; (repeat first | assumption | exact Bx.new _ _ _ | exact Bx.newAt (by first | omega | (simp only [Heap.next_alloc, Heap.next_set]; omega)) | refine Bx.put (by first | omega | (simp only [Heap.next_alloc, Heap.next_set]; omega)) _ _ | refine Bx.alloc ?_ _ | refine Bx.set ?_ (by first | omega | (simp only [Heap.next_alloc, Heap.next_set]; omega)) _)
    rintro X2 ⟨gx2, e2⟩
    (repeat first | refine V.seq ?_ | refine V.block ?_ | refine V.scope ?_ | refine V.skip ?_ | refine V.close ?_)
    refine V.run ?_
    refine VI.steps' 1 (by simp +contextual (maxSteps := 1000000) (disch := (first | omega | (simp only [nx]; omega))) only [D4, Int.reduceNegSucc, Int.reduceEq, Nat.reduceLeDiff, Nat.reduceSub, Nat.reduceAdd, D5, hF, hA, ↓reduceIte, Nat.reduceEqDiff, Nat.reduceLT, e2.2]; with_reducible rfl) ?_
    simp only [List.drop_succ_cons, List.drop_zero]
    refine VI.callA rfl (f21_ok a b c k _) (by simp only [D6, D5, hF, hA, ↓reduceIte, Nat.reduceEqDiff, Nat.reduceLT]; try rfl) (fun X3 gx3 => ?_)
    refine VI.steps' 1 (by simp +contextual (maxSteps := 1000000) (disch := (first | omega | (simp only [nx]; omega))) only [D4, Int.reduceNegSucc, Int.reduceEq, Nat.reduceLeDiff, Nat.reduceSub, Nat.reduceAdd, D5, hF, hA, ↓reduceIte, Nat.reduceEqDiff, Nat.reduceLT]; with_reducible rfl) ?_
    simp only [List.drop_succ_cons, List.drop_zero]
    refine VI.callA rfl (f26_ok a b c k u _) (by simp only [D6, D5, hF, hA, ↓reduceIte, Nat.reduceEqDiff, Nat.reduceLT]; try rfl) (fun X4 gx4 => ?_)
    rw [cf_nat hr, hr]
    refine VI.line' (by simp +contextual (maxSteps := 1000000) (disch := (first | omega | (simp only [nx]; omega))) only [D4, Int.reduceNegSucc, Int.reduceEq, Nat.reduceLeDiff, Nat.reduceSub, Nat.reduceAdd, D5, hF, hA, ↓reduceIte, Nat.reduceEqDiff, Nat.reduceLT]; with_reducible rfl) ?_
    refine V.heap (fun Y => Grow X4 Y ∧ Bx Y X4.next (fr (part a u c k) (ch (a + u) c)) 36) ⟨?_, ?_⟩ ?_
    · (repeat first | assumption | exact Grow.refl _ | refine Grow.alloc ?_ _ | refine Grow.set ?_ (by first | omega | (simp only [Heap.next_alloc, Heap.next_set]; omega)) _)
    · (repeat first | assumption | exact Bx.new _ _ _ | exact Bx.newAt (by first | omega | (simp only [Heap.next_alloc, Heap.next_set]; omega)) | refine Bx.put (by first | omega | (simp only [Heap.next_alloc, Heap.next_set]; omega)) _ _ | refine Bx.alloc ?_ _ | refine Bx.set ?_ (by first | omega | (simp only [Heap.next_alloc, Heap.next_set]; omega)) _)
    rintro X5 ⟨gx5, e5⟩
    (repeat first | refine V.seq ?_ | refine V.block ?_ | refine V.scope ?_ | refine V.skip ?_ | refine V.close ?_)
    refine V.run ?_
    refine VI.steps' 3 (by simp +contextual (maxSteps := 1000000) (disch := (first | omega | (simp only [nx]; omega))) only [D4, Int.reduceNegSucc, Int.reduceEq, Nat.reduceLeDiff, Nat.reduceSub, Nat.reduceAdd, D5, hF, hA, ↓reduceIte, Nat.reduceEqDiff, Nat.reduceLT, e5.2]; with_reducible rfl) ?_
    simp only [List.drop_succ_cons, List.drop_zero]
    refine VI.callA rfl (f50_ok (s := psum a u c 0 k) hpk hcp hcb (by omega) _) (by simp only [D6, D5, hF, hA, ↓reduceIte, Nat.reduceEqDiff, Nat.reduceLT]; try rfl) (fun X6 gx6 => ?_)
    refine VI.line' (by simp +contextual (maxSteps := 1000000) (disch := (first | omega | (simp only [nx]; omega))) only [D4, Int.reduceNegSucc, Int.reduceEq, Nat.reduceLeDiff, Nat.reduceSub, Nat.reduceAdd, D5, hF, hA, ↓reduceIte, Nat.reduceEqDiff, Nat.reduceLT]; with_reducible rfl) ?_
    (repeat first | refine V.seq ?_ | refine V.block ?_ | refine V.scope ?_ | refine V.skip ?_ | refine V.close ?_)
    refine V.line' (by simp +contextual (maxSteps := 1000000) (disch := (first | omega | (simp only [nx]; omega))) only [D4, Int.reduceNegSucc, Int.reduceEq, Nat.reduceLeDiff, Nat.reduceSub, Nat.reduceAdd, D5, hF, hA, ↓reduceIte, Nat.reduceEqDiff, Nat.reduceLT, ne_eq, not_true_eq_false]; with_reducible rfl) ?_
    (repeat first | refine V.seq ?_ | refine V.block ?_ | refine V.scope ?_ | refine V.skip ?_ | refine V.close ?_)
    refine V.condF (by simp only [D6, D5, hF, hA, ↓reduceIte, Nat.reduceEqDiff, Nat.reduceLT]) ?_
    (repeat first | refine V.seq ?_ | refine V.block ?_ | refine V.scope ?_ | refine V.skip ?_ | refine V.close ?_)
    refine V.line' (by simp +contextual (maxSteps := 1000000) (disch := (first | omega | (simp only [nx]; omega))) only [D4, Int.reduceNegSucc, Int.reduceEq, Nat.reduceLeDiff, Nat.reduceSub, Nat.reduceAdd, D5, hF, hA, ↓reduceIte, Nat.reduceEqDiff, Nat.reduceLT]; with_reducible rfl) ?_
    (repeat first | refine V.seq ?_ | refine V.block ?_ | refine V.scope ?_ | refine V.skip ?_ | refine V.close ?_)
    refine V.re [(2, PT H.next), (5, I u), (6, I ((ch (a + u) c : Nat) : Int)), (7, I ((psum a u c 0 k + part a u c k : Nat) : Int)), (8, I k)] (N := 127) (by intro i; simp only [full_st, hF]) (by simp only [Kn, D5, hF, hA, ↓reduceIte, Nat.reduceEqDiff, Nat.reduceLT, and_self, and_true, true_and]; try (repeat' constructor)) ?_
    clear hF hA
    intro t hF hA
    simp only [Kn, and_true] at hA
    have e3 : (k : Int) + 1 = ((k + 1 : Nat) : Int) := rfl
    refine V.line' (by simp +contextual (maxSteps := 1000000) (disch := (first | omega | (simp only [nx]; omega))) only [D4, Int.reduceNegSucc, Int.reduceEq, Nat.reduceLeDiff, Nat.reduceSub, Nat.reduceAdd, D5, hF, hA, ↓reduceIte, Nat.reduceEqDiff, Nat.reduceLT, e3]; with_reducible rfl) ?_
    refine V.nil (Or.inl ⟨rfl, c + 1 - (k + 1), by omega, ?_⟩)
    have e4 : psum a u c 0 (k + 1) = psum a u c 0 k + part a u c k := by rw [psum_s, Nat.zero_add]
    refine ⟨k + 1, by omega, rfl, rfl, ((((hg.trans gx2).trans gx3).trans gx4).trans gx5).trans gx6, ?_⟩
    rw [e4]
    exact ⟨(by intro i; simp only [full_st, hF]), (by simp only [Kn, D5, hF, hA, ↓reduceIte, Nat.reduceEqDiff, Nat.reduceLT, and_self, and_true, true_and]; try (repeat' constructor))⟩
  · obtain rfl : k = c + 1 := by omega
    rw [psum_all] at hA
    refine V.exit ?_
    (repeat first | refine V.pass ?_ | refine V.here ?_ | refine V.out (by decide) ?_)
    refine V.nil (Or.inr ⟨by simp, ?_⟩)
    (repeat first | refine V.pass ?_ | refine V.here ?_ | refine V.out (by decide) ?_)
    (repeat first | refine V.seq ?_ | refine V.block ?_ | refine V.scope ?_ | refine V.skip ?_ | refine V.close ?_)
    refine V.line' (by simp +contextual (maxSteps := 1000000) (disch := (first | omega | (simp only [nx]; omega))) only [D4, Int.reduceNegSucc, Int.reduceEq, Nat.reduceLeDiff, Nat.reduceSub, Nat.reduceAdd, D5, hF, hA, ↓reduceIte, Nat.reduceEqDiff, Nat.reduceLT, ne_eq, not_true_eq_false]; with_reducible rfl) ?_
    (repeat first | refine V.seq ?_ | refine V.block ?_ | refine V.scope ?_ | refine V.skip ?_ | refine V.close ?_)
    refine V.condF (by simp only [D6, D5, hF, hA, ↓reduceIte, Nat.reduceEqDiff, Nat.reduceLT]) ?_
    (repeat first | refine V.seq ?_ | refine V.block ?_ | refine V.scope ?_ | refine V.skip ?_ | refine V.close ?_)
    refine V.line' (by simp +contextual (maxSteps := 1000000) (disch := (first | omega | (simp only [nx]; omega))) only [D4, Int.reduceNegSucc, Int.reduceEq, Nat.reduceLeDiff, Nat.reduceSub, Nat.reduceAdd, D5, hF, hA, ↓reduceIte, Nat.reduceEqDiff, Nat.reduceLT, bx.2]; with_reducible rfl) ?_
    (repeat first | refine V.seq ?_ | refine V.block ?_ | refine V.scope ?_ | refine V.skip ?_ | refine V.close ?_)
    refine V.condP (by simp only [D6, D5, hF, hA, ↓reduceIte, Nat.reduceEqDiff, Nat.reduceLT]; rfl) (fun h5 => ?_) (fun h5 => ?_)
    · (repeat first | refine V.seq ?_ | refine V.block ?_ | refine V.scope ?_ | refine V.skip ?_ | refine V.close ?_)
      refine V.run ?_
      refine VI.callA rfl (f24_ok _) (by simp only [D6, D5, hF, hA, ↓reduceIte, Nat.reduceEqDiff, Nat.reduceLT]; try rfl) (fun H4 g4 => ?_)
      refine VI.line' (by simp +contextual (maxSteps := 1000000) (disch := (first | omega | (simp only [nx]; omega))) only [D4, Int.reduceNegSucc, Int.reduceEq, Nat.reduceLeDiff, Nat.reduceSub, Nat.reduceAdd, D5, hF, hA, ↓reduceIte, Nat.reduceEqDiff, Nat.reduceLT]; with_reducible rfl) ?_
      (repeat first | refine V.seq ?_ | refine V.block ?_ | refine V.scope ?_ | refine V.skip ?_ | refine V.close ?_)
      refine V.ret (V.rets rfl (Lv.retF (by simp +contextual (disch := (first | omega | (simp only [nx]; omega))) only [D1, cells_alloc_at, cells_alloc_ne, cells_set_at, cells_set_ne, yres, yres1, yresL, Nat.reduceLeDiff, Nat.reduceSub, Nat.reduceAdd, D5, hF, hA, ↓reduceIte, Nat.reduceEqDiff, Nat.reduceLT]; rfl) ?_))
      rfl
    have hdc : d < c := by omega
    have hr1 := rd_of k1 (u := u) (by omega) k3 k4
    have hr2 := rd_of (d := d + 1) k1 (u := u) (by omega) k3 (by omega)
    have e1 : (d : Int) + 1 = ((d + 1 : Nat) : Int) := rfl
    have s1 := sm_shift (fun f => part a u c (0 + f)) (d + 1) (c + 1 - (d + 1))
    have s2 := psum_all a u c
    have s3 : psum a u c 0 (d + 1) + psum a u c (d + 1) (c + 1 - (d + 1)) = ch (a + u) c := by
      rw [← s2]
      have e : d + 1 + (c + 1 - (d + 1)) = c + 1 := by omega
      rw [e] at s1
      unfold psum
      rw [s1]
      simp only [Nat.zero_add]
    (repeat first | refine V.seq ?_ | refine V.block ?_ | refine V.scope ?_ | refine V.skip ?_ | refine V.close ?_)
    refine V.line' (by simp +contextual (maxSteps := 1000000) (disch := (first | omega | (simp only [nx]; omega))) only [D4, Int.reduceNegSucc, Int.reduceEq, Nat.reduceLeDiff, Nat.reduceSub, Nat.reduceAdd, D5, hF, hA, ↓reduceIte, Nat.reduceEqDiff, Nat.reduceLT, bx.2]; with_reducible rfl) ?_
    refine V.heap (fun Y => Grow X Y ∧ Bx Y X.next (A4 a b c d) 23) ⟨?_, ?_⟩ ?_
    · (repeat first | assumption | exact Grow.refl _ | refine Grow.alloc ?_ _ | refine Grow.set ?_ (by first | omega | (simp only [Heap.next_alloc, Heap.next_set]; omega)) _)
    · (repeat first | assumption | exact Bx.new _ _ _ | exact Bx.newAt (by first | omega | (simp only [Heap.next_alloc, Heap.next_set]; omega)) | refine Bx.put (by first | omega | (simp only [Heap.next_alloc, Heap.next_set]; omega)) _ _ | refine Bx.alloc ?_ _ | refine Bx.set ?_ (by first | omega | (simp only [Heap.next_alloc, Heap.next_set]; omega)) _)
    rintro X1 ⟨gx1, q1⟩
    (repeat first | refine V.seq ?_ | refine V.block ?_ | refine V.scope ?_ | refine V.skip ?_ | refine V.close ?_)
    refine V.line' (by simp +contextual (maxSteps := 1000000) (disch := (first | omega | (simp only [nx]; omega))) only [D4, Int.reduceNegSucc, Int.reduceEq, Nat.reduceLeDiff, Nat.reduceSub, Nat.reduceAdd, D5, hF, hA, ↓reduceIte, Nat.reduceEqDiff, Nat.reduceLT, q1.2, e1]; with_reducible rfl) ?_
    refine V.heap (fun Y => Grow X Y ∧ Bx Y X.next (A4 a b c ((d + 1 : Nat) : Int)) 23) ⟨?_, ?_⟩ ?_
    · have := gx1.1; (repeat first | assumption | exact Grow.refl _ | refine Grow.alloc ?_ _ | refine Grow.set ?_ (by first | omega | (simp only [Heap.next_alloc, Heap.next_set]; omega)) _)
    · have := q1.1; (repeat first | assumption | exact Bx.new _ _ _ | exact Bx.newAt (by first | omega | (simp only [Heap.next_alloc, Heap.next_set]; omega)) | refine Bx.put (by first | omega | (simp only [Heap.next_alloc, Heap.next_set]; omega)) _ _ | refine Bx.alloc ?_ _ | refine Bx.set ?_ (by first | omega | (simp only [Heap.next_alloc, Heap.next_set]; omega)) _)
    rintro X2 ⟨gx2, q2⟩
    have b4 := bx.grow gx2
    (repeat first | refine V.seq ?_ | refine V.block ?_ | refine V.scope ?_ | refine V.skip ?_ | refine V.close ?_)
    refine V.re [(2, PT H.next), (5, I u), (6, I ((ch (a + u) c : Nat) : Int)), (14, PT X.next)] (N := 127) (by intro i; simp only [full_st, hF]) (by simp only [Kn, D5, hF, hA, ↓reduceIte, Nat.reduceEqDiff, Nat.reduceLT, and_self, and_true, true_and]; try (repeat' constructor)) ?_
    clear hF hA
    intro t hF hA
    simp only [Kn, and_true] at hA
    refine V.run ?_
    refine VI.steps' 1 (by simp +contextual (maxSteps := 1000000) (disch := (first | omega | (simp only [nx]; omega))) only [D4, Int.reduceNegSucc, Int.reduceEq, Nat.reduceLeDiff, Nat.reduceSub, Nat.reduceAdd, D5, hF, hA, ↓reduceIte, Nat.reduceEqDiff, Nat.reduceLT, b4.2]; with_reducible rfl) ?_
    simp only [List.drop_succ_cons, List.drop_zero]
    refine VI.callA rfl (f21_ok a b c d _) (by simp only [D6, D5, hF, hA, ↓reduceIte, Nat.reduceEqDiff, Nat.reduceLT]; try rfl) (fun X3 gx3 => ?_)
    refine VI.steps' 1 (by simp +contextual (maxSteps := 1000000) (disch := (first | omega | (simp only [nx]; omega))) only [D4, Int.reduceNegSucc, Int.reduceEq, Nat.reduceLeDiff, Nat.reduceSub, Nat.reduceAdd, D5, hF, hA, ↓reduceIte, Nat.reduceEqDiff, Nat.reduceLT]; with_reducible rfl) ?_
    simp only [List.drop_succ_cons, List.drop_zero]
    refine VI.callA rfl (f27_ok a b c d u true _) (by simp only [D6, D5, hF, hA, ↓reduceIte, Nat.reduceEqDiff, Nat.reduceLT]; try rfl) (fun X4 gx4 => ?_)
    have g34 := gx3.trans gx4
    have b5 := b4.grow g34
    have q5 := q2.grow g34
    rw [tf_nat hr1, hr1, if_pos rfl]
    refine VI.line' (by simp +contextual (maxSteps := 1000000) (disch := (first | omega | (simp only [nx]; omega))) only [D4, Int.reduceNegSucc, Int.reduceEq, Nat.reduceLeDiff, Nat.reduceSub, Nat.reduceAdd, D5, hF, hA, ↓reduceIte, Nat.reduceEqDiff, Nat.reduceLT]; with_reducible rfl) ?_
    refine V.heap (fun Y => Grow X4 Y ∧ Bx Y X4.next (fr (psum a u c 0 (d + 1)) (ch (a + u) c)) 36) ⟨?_, ?_⟩ ?_
    · (repeat first | assumption | exact Grow.refl _ | refine Grow.alloc ?_ _ | refine Grow.set ?_ (by first | omega | (simp only [Heap.next_alloc, Heap.next_set]; omega)) _)
    · (repeat first | assumption | exact Bx.new _ _ _ | exact Bx.newAt (by first | omega | (simp only [Heap.next_alloc, Heap.next_set]; omega)) | refine Bx.put (by first | omega | (simp only [Heap.next_alloc, Heap.next_set]; omega)) _ _ | refine Bx.alloc ?_ _ | refine Bx.set ?_ (by first | omega | (simp only [Heap.next_alloc, Heap.next_set]; omega)) _)
    rintro X5 ⟨gx5, m5⟩
    have q6 := q5.grow gx5
    (repeat first | refine V.seq ?_ | refine V.block ?_ | refine V.scope ?_ | refine V.skip ?_ | refine V.close ?_)
    refine V.re [(2, PT H.next), (5, I u), (6, I ((ch (a + u) c : Nat) : Int)), (14, PT X.next), (15, PT X4.next), (16, I 0)] (N := 127) (by intro i; simp only [full_st, hF]) (by simp only [Kn, D5, hF, hA, ↓reduceIte, Nat.reduceEqDiff, Nat.reduceLT, and_self, and_true, true_and]; try (repeat' constructor)) ?_
    clear hF hA
    intro t hF hA
    simp only [Kn, and_true] at hA
    refine V.run ?_
    refine VI.steps' 1 (by simp +contextual (maxSteps := 1000000) (disch := (first | omega | (simp only [nx]; omega))) only [D4, Int.reduceNegSucc, Int.reduceEq, Nat.reduceLeDiff, Nat.reduceSub, Nat.reduceAdd, D5, hF, hA, ↓reduceIte, Nat.reduceEqDiff, Nat.reduceLT, q6.2]; with_reducible rfl) ?_
    simp only [List.drop_succ_cons, List.drop_zero]
    refine VI.callA rfl (f21_ok a b c ((d + 1 : Nat) : Int) _) (by simp only [D6, D5, hF, hA, ↓reduceIte, Nat.reduceEqDiff, Nat.reduceLT]; try rfl) (fun X6 gx6 => ?_)
    refine VI.steps' 1 (by simp +contextual (maxSteps := 1000000) (disch := (first | omega | (simp only [nx]; omega))) only [D4, Int.reduceNegSucc, Int.reduceEq, Nat.reduceLeDiff, Nat.reduceSub, Nat.reduceAdd, D5, hF, hA, ↓reduceIte, Nat.reduceEqDiff, Nat.reduceLT]; with_reducible rfl) ?_
    simp only [List.drop_succ_cons, List.drop_zero]
    refine VI.callA rfl (f27_ok a b c ((d + 1 : Nat) : Int) u false _) (by simp only [D6, D5, hF, hA, ↓reduceIte, Nat.reduceEqDiff, Nat.reduceLT]; try rfl) (fun X7 gx7 => ?_)
    have m7 := m5.grow (gx6.trans gx7)
    rw [tf_nat hr2, hr2, if_neg (by decide)]
    refine VI.line' (by simp +contextual (maxSteps := 1000000) (disch := (first | omega | (simp only [nx]; omega))) only [D4, Int.reduceNegSucc, Int.reduceEq, Nat.reduceLeDiff, Nat.reduceSub, Nat.reduceAdd, D5, hF, hA, ↓reduceIte, Nat.reduceEqDiff, Nat.reduceLT]; with_reducible rfl) ?_
    refine V.heap (fun Y => Grow X7 Y ∧ Bx Y X7.next (fr (psum a u c (d + 1) (c + 1 - (d + 1))) (ch (a + u) c)) 36) ⟨?_, ?_⟩ ?_
    · (repeat first | assumption | exact Grow.refl _ | refine Grow.alloc ?_ _ | refine Grow.set ?_ (by first | omega | (simp only [Heap.next_alloc, Heap.next_set]; omega)) _)
    · (repeat first | assumption | exact Bx.new _ _ _ | exact Bx.newAt (by first | omega | (simp only [Heap.next_alloc, Heap.next_set]; omega)) | refine Bx.put (by first | omega | (simp only [Heap.next_alloc, Heap.next_set]; omega)) _ _ | refine Bx.alloc ?_ _ | refine Bx.set ?_ (by first | omega | (simp only [Heap.next_alloc, Heap.next_set]; omega)) _)
    rintro X8 ⟨gx8, n8⟩
    have m8 := m7.grow gx8
    (repeat first | refine V.seq ?_ | refine V.block ?_ | refine V.scope ?_ | refine V.skip ?_ | refine V.close ?_)
    refine V.re [(6, I ((ch (a + u) c : Nat) : Int)), (15, PT X4.next), (16, I 0), (17, PT X7.next), (18, I 0)] (N := 127) (by intro i; simp only [full_st, hF]) (by simp only [Kn, D5, hF, hA, ↓reduceIte, Nat.reduceEqDiff, Nat.reduceLT, and_self, and_true, true_and]; try (repeat' constructor)) ?_
    clear hF hA
    intro t hF hA
    simp only [Kn, and_true] at hA
    refine V.run ?_
    refine VI.steps' 2 (by simp +contextual (maxSteps := 1000000) (disch := (first | omega | (simp only [nx]; omega))) only [D4, Int.reduceNegSucc, Int.reduceEq, Nat.reduceLeDiff, Nat.reduceSub, Nat.reduceAdd, D5, hF, hA, ↓reduceIte, Nat.reduceEqDiff, Nat.reduceLT, m8.2]; with_reducible rfl) ?_
    simp only [List.drop_succ_cons, List.drop_zero]
    have z0 : Gives Try.prog 50 [I 0, .agg ⟨fr (psum a u c 0 (d + 1)) (ch (a + u) c)⟩, I ((ch (a + u) c : Nat) : Int)] X8 (.tuple ⟨[I ((0 + psum a u c 0 (d + 1) : Nat) : Int), .bool true]⟩) := f50_ok (s := 0) (n := psum a u c 0 (d + 1)) (by omega) hcp hcb (by omega) _
    refine VI.callA rfl (z0) (by simp only [D6, D5, hF, hA, ↓reduceIte, Nat.reduceEqDiff, Nat.reduceLT]; try rfl) (fun X9 gx9 => ?_)
    have n9 := n8.grow gx9
    refine VI.line' (by simp +contextual (maxSteps := 1000000) (disch := (first | omega | (simp only [nx]; omega))) only [D4, Int.reduceNegSucc, Int.reduceEq, Nat.reduceLeDiff, Nat.reduceSub, Nat.reduceAdd, D5, hF, hA, ↓reduceIte, Nat.reduceEqDiff, Nat.reduceLT]; with_reducible rfl) ?_
    (repeat first | refine V.seq ?_ | refine V.block ?_ | refine V.scope ?_ | refine V.skip ?_ | refine V.close ?_)
    refine V.run ?_
    refine VI.steps' 3 (by simp +contextual (maxSteps := 1000000) (disch := (first | omega | (simp only [nx]; omega))) only [D4, Int.reduceNegSucc, Int.reduceEq, Nat.reduceLeDiff, Nat.reduceSub, Nat.reduceAdd, D5, hF, hA, ↓reduceIte, Nat.reduceEqDiff, Nat.reduceLT, n9.2]; with_reducible rfl) ?_
    simp only [List.drop_succ_cons, List.drop_zero]
    refine VI.callA rfl (f50_ok (s := psum a u c 0 (d + 1)) (n := psum a u c (d + 1) (c + 1 - (d + 1))) (by omega) hcp hcb (by omega) _) (by simp only [D6, D5, hF, hA, ↓reduceIte, Nat.reduceEqDiff, Nat.reduceLT]; try rfl) (fun X10 gx10 => ?_)
    rw [s3]
    refine VI.line' (by simp +contextual (maxSteps := 1000000) (disch := (first | omega | (simp only [nx]; omega))) only [D4, Int.reduceNegSucc, Int.reduceEq, Nat.reduceLeDiff, Nat.reduceSub, Nat.reduceAdd, D5, hF, hA, ↓reduceIte, Nat.reduceEqDiff, Nat.reduceLT]; with_reducible rfl) ?_
    (repeat first | refine V.seq ?_ | refine V.block ?_ | refine V.scope ?_ | refine V.skip ?_ | refine V.close ?_)
    refine V.re [(6, I ((ch (a + u) c : Nat) : Int)), (16, I 0), (18, I 0), (20, .bool true), (21, I ((ch (a + u) c : Nat) : Int)), (22, .bool true)] (N := 127) (by intro i; simp only [full_st, hF]) (by simp only [Kn, D5, hF, hA, ↓reduceIte, Nat.reduceEqDiff, Nat.reduceLT, and_self, and_true, true_and]; try (repeat' constructor)) ?_
    clear hF hA
    intro t hF hA
    simp only [Kn, and_true] at hA
    refine V.run ?_
    refine VI.steps' 9 (by simp +contextual (maxSteps := 1000000) (disch := (first | omega | (simp only [nx]; omega))) only [D4, Int.reduceNegSucc, Int.reduceEq, Nat.reduceLeDiff, Nat.reduceSub, Nat.reduceAdd, D5, hF, hA, ↓reduceIte, Nat.reduceEqDiff, Nat.reduceLT]; with_reducible rfl) ?_
    simp only [List.drop_succ_cons, List.drop_zero]
    refine VI.steps' 9 (by simp +contextual (maxSteps := 1000000) (disch := (first | omega | (simp only [nx]; omega))) only [D4, Int.reduceNegSucc, Int.reduceEq, Nat.reduceLeDiff, Nat.reduceSub, Nat.reduceAdd, D5, hF, hA, ↓reduceIte, Nat.reduceEqDiff, Nat.reduceLT]; with_reducible rfl) ?_
    simp only [List.drop_succ_cons, List.drop_zero]
    refine VI.callAT (by simp only [D5, hF, hA, ↓reduceIte, Nat.reduceEqDiff, Nat.reduceLT]; try rfl) rfl (f24_ok _) (by simp only [D6, D5, hF, hA, ↓reduceIte, Nat.reduceEqDiff, Nat.reduceLT]; try rfl) (fun X11 gx11 => ?_)
    refine VI.line' (by simp +contextual (maxSteps := 1000000) (disch := (first | omega | (simp only [nx]; omega))) only [D4, Int.reduceNegSucc, Int.reduceEq, Nat.reduceLeDiff, Nat.reduceSub, Nat.reduceAdd, D5, hF, hA, ↓reduceIte, Nat.reduceEqDiff, Nat.reduceLT]; with_reducible rfl) ?_
    (repeat first | refine V.seq ?_ | refine V.block ?_ | refine V.scope ?_ | refine V.skip ?_ | refine V.close ?_)
    refine V.ret (V.rets rfl (Lv.retF (by simp +contextual (disch := (first | omega | (simp only [nx]; omega))) only [D1, cells_alloc_at, cells_alloc_ne, cells_set_at, cells_set_ne, yres, yres1, yresL, Nat.reduceLeDiff, Nat.reduceSub, Nat.reduceAdd, D5, hF, hA, ↓reduceIte, Nat.reduceEqDiff, Nat.reduceLT]; rfl) ?_))
    rfl
end Go.Xe.TMX
