/- What the statement AgeTables comes to. Conditions: none. -/
import Derived.Test.YtefoodhfkkcmcaaZr
import Derived.Test.YtefoodhfkkcmcaaTAK
-- MOD TA
namespace Go.Xe.TAX
open Go Go.Xe Go.Proofs
set_option maxRecDepth 100000
set_option maxHeartbeats 3200000
set_option linter.unusedSimpArgs false
noncomputable def d17 : FCode := (.seq (.run (.go (.box 23 (.tmp (pth 0))) (pth 3) ::
.go (.move (.con (.bool false))) (pth 6) ::
[])) (.seq (.seq (.run (.go (.loadN 4 (.tmp (pth 3))) (pth 16) ::
.go (.call (.con (.func (.func 25) ⟨[]⟩ ⟨[]⟩)) [(.tmp (pth 16))]) (pth 17) ::
.go (.un .not (.tmp (pth 17))) (pth 18) ::
.go (.move (.tmp (pth 18))) (pth 19) ::
.gd (pth 19) false (.move (.tmp (pth 1))) (pth 20) ::
.gd (pth 19) false (.len 0 (.tmp (pth 20))) (pth 21) ::
.gd (pth 19) false (.bin .gtr 3 (.tmp (pth 21)) (.con (.int .i64 (.ofNat 200)))) (pth 22) ::
.go (.pick (.tmp (pth 19)) (.con (.bool true)) (.tmp (pth 22))) (pth 23) ::
[])) (.cond (.tmp (pth 23)) (.seq (.run (.go (.call (.con (.func (.func 26) ⟨[]⟩ ⟨[]⟩)) []) (pth 24) ::
.go (.move (.tmp (pth 24))) (pth 6) ::
[])) .ret) .skip)) (.seq (.run (.go (.move (.con (.slice none 0 0))) (pth 7) ::
[])) (.seq (.seq (.run (.go (.move (.con (.int .i64 (.ofNat 0)))) (pth 8) ::
[])) (.block 0 (.loop (.seq (.seq (.run (.go (.move (.tmp (pth 8))) (pth 25) ::
.go (.move (.tmp (pth 1))) (pth 26) ::
.go (.len 0 (.tmp (pth 26))) (pth 27) ::
.go (.bin .lss 3 (.tmp (pth 25)) (.tmp (pth 27))) (pth 28) ::
[])) (.cond (.tmp (pth 28)) .skip (.exit 0))) (.seq (.block 1 (.draw 12 (.go (.move (.tmp (pth 7))) (pth 31) ::
.go (.loadN 4 (.tmp (pth 3))) (pth 32) ::
.go (.move (.tmp (pth 1))) (pth 33) ::
.go (.move (.tmp (pth 8))) (pth 34) ::
.go (.indexAddr none 1 (.tmp (pth 33)) (.tmp (pth 34))) (pth 35) ::
.go (.load1 (.tmp (pth 35))) (pth 36) ::
.go (.conv .i64 (.tmp (pth 36))) (pth 37) ::
.go (.bin .rem 3 (.tmp (pth 37)) (.con (.int .i64 (.ofNat 121)))) (pth 38) ::
.go (.call (.con (.func (.func 28) ⟨[]⟩ ⟨[]⟩)) [(.tmp (pth 32)),(.tmp (pth 38))]) (pth 39) ::
.go (.buildSlice 3 1 [(.int .i64 (.ofNat 0))] [(0,1,(.tmp (pth 39)))]) (pth 40) ::
.go (.append 3 1 8 (.tmp (pth 31)) (.tmp (pth 40))) (pth 41) ::
.go (.move (.tmp (pth 41))) (pth 7) ::
[]) [.ok,.ok,.ok,.ok,.ok,.ok,.ok,.ok,.ok,.ok,.ok,.ok])) (.run (.go (.move (.tmp (pth 8))) (pth 29) ::
.go (.bin .add 3 (.tmp (pth 29)) (.con (.int .i64 (.ofNat 1)))) (pth 30) ::
.go (.move (.tmp (pth 30))) (pth 8) ::
[]))))))) (.seq (.run (.go (.move (.tmp (pth 2))) (pth 42) ::
.go (.conv .i64 (.tmp (pth 42))) (pth 43) ::
.go (.bin .rem 3 (.tmp (pth 43)) (.con (.int .i64 (.ofNat 120)))) (pth 44) ::
.go (.bin .add 3 (.con (.int .i64 (.ofNat 1))) (.tmp (pth 44))) (pth 45) ::
.go (.move (.tmp (pth 45))) (pth 9) ::
[])) (.seq (.run (.go (.loadN 4 (.tmp (pth 3))) (pth 47) ::
.go (.call (.con (.func (.func 22) ⟨[]⟩ ⟨[]⟩)) [(.tmp (pth 47))]) (pth 48) ::
.go (.move (.tmp (pth 7))) (pth 49) ::
.go (.call (.con (.func (.func 33) ⟨[]⟩ ⟨[]⟩)) [(.tmp (pth 49))]) (pth 50) ::
.go (.move (.tmp (pth 9))) (pth 51) ::
.go (.bin .sub 3 (.tmp (pth 51)) (.con (.int .i64 (.ofNat 1)))) (pth 52) ::
.go (.call (.con (.func (.func 34) ⟨[]⟩ ⟨[]⟩)) [(.con (.int .i64 (.ofNat 0))),(.tmp (pth 52))]) (pth 53) ::
.go (.call (.con (.func (.func 32) ⟨[]⟩ ⟨[]⟩)) [(.tmp (pth 48)),(.tmp (pth 50)),(.tmp (pth 53))]) (pth 54) ::
.go (.move (.tmp (pth 54))) (pth 46) ::
.go (.extract (.tmp (pth 46)) 0) (pth 55) ::
.go (.extract (.tmp (pth 46)) 1) (pth 56) ::
.go (.alloc 48 [(.int .i64 (.ofNat 0)),(.int .i64 (.ofNat 0))]) (pth 10) ::
.un (.store 2 (.tmp (pth 10)) (.tmp (pth 55))) ::
.go (.move (.tmp (pth 56))) (pth 11) ::
[])) (.seq (.run (.go (.loadN 4 (.tmp (pth 3))) (pth 58) ::
.go (.call (.con (.func (.func 22) ⟨[]⟩ ⟨[]⟩)) [(.tmp (pth 58))]) (pth 59) ::
.go (.move (.tmp (pth 7))) (pth 60) ::
.go (.call (.con (.func (.func 33) ⟨[]⟩ ⟨[]⟩)) [(.tmp (pth 60))]) (pth 61) ::
.go (.move (.tmp (pth 9))) (pth 62) ::
.go (.call (.con (.func (.func 34) ⟨[]⟩ ⟨[]⟩)) [(.tmp (pth 62)),(.con (.int .i64 (.ofNat 120)))]) (pth 63) ::
.go (.call (.con (.func (.func 32) ⟨[]⟩ ⟨[]⟩)) [(.tmp (pth 59)),(.tmp (pth 61)),(.tmp (pth 63))]) (pth 64) ::
.go (.move (.tmp (pth 64))) (pth 57) ::
.go (.extract (.tmp (pth 57)) 0) (pth 65) ::
.go (.extract (.tmp (pth 57)) 1) (pth 66) ::
.go (.alloc 48 [(.int .i64 (.ofNat 0)),(.int .i64 (.ofNat 0))]) (pth 12) ::
.un (.store 2 (.tmp (pth 12)) (.tmp (pth 65))) ::
.go (.move (.tmp (pth 66))) (pth 13) ::
[])) (.seq (.run (.go (.loadN 4 (.tmp (pth 3))) (pth 68) ::
.go (.call (.con (.func (.func 22) ⟨[]⟩ ⟨[]⟩)) [(.tmp (pth 68))]) (pth 69) ::
.go (.move (.tmp (pth 7))) (pth 70) ::
.go (.call (.con (.func (.func 33) ⟨[]⟩ ⟨[]⟩)) [(.tmp (pth 70))]) (pth 71) ::
.go (.call (.con (.func (.func 34) ⟨[]⟩ ⟨[]⟩)) [(.con (.int .i64 (.ofNat 0))),(.con (.int .i64 (.ofNat 120)))]) (pth 72) ::
.go (.call (.con (.func (.func 32) ⟨[]⟩ ⟨[]⟩)) [(.tmp (pth 69)),(.tmp (pth 71)),(.tmp (pth 72))]) (pth 73) ::
.go (.move (.tmp (pth 73))) (pth 67) ::
.go (.extract (.tmp (pth 67)) 0) (pth 74) ::
.go (.extract (.tmp (pth 67)) 1) (pth 75) ::
.go (.alloc 48 [(.int .i64 (.ofNat 0)),(.int .i64 (.ofNat 0))]) (pth 14) ::
.un (.store 2 (.tmp (pth 14)) (.tmp (pth 74))) ::
.go (.move (.tmp (pth 75))) (pth 15) ::
[])) (.seq (.draw 43 (.go (.move (.tmp (pth 11))) (pth 76) ::
.go (.bin .eql 24 (.tmp (pth 76)) (.con (.int .i64 (.ofNat 0)))) (pth 77) ::
.go (.move (.tmp (pth 77))) (pth 78) ::
.gd (pth 78) true (.move (.tmp (pth 13))) (pth 79) ::
.gd (pth 78) true (.bin .eql 24 (.tmp (pth 79)) (.con (.int .i64 (.ofNat 0)))) (pth 80) ::
.go (.pick (.tmp (pth 78)) (.tmp (pth 80)) (.con (.bool false))) (pth 81) ::
.go (.move (.tmp (pth 81))) (pth 82) ::
.gd (pth 82) true (.fieldAddr 0 (.tmp (pth 10))) (pth 83) ::
.gd (pth 82) true (.load1 (.tmp (pth 83))) (pth 84) ::
.gd (pth 82) true (.fieldAddr 1 (.tmp (pth 12))) (pth 85) ::
.gd (pth 82) true (.load1 (.tmp (pth 85))) (pth 86) ::
.gd (pth 82) true (.bin .add 3 (.tmp (pth 84)) (.tmp (pth 86))) (pth 87) ::
.gd (pth 82) true (.move (.tmp (pth 7))) (pth 88) ::
.gd (pth 82) true (.len 0 (.tmp (pth 88))) (pth 89) ::
.gd (pth 82) true (.bin .eql 3 (.tmp (pth 87)) (.tmp (pth 89))) (pth 90) ::
.go (.pick (.tmp (pth 82)) (.tmp (pth 90)) (.con (.bool false))) (pth 91) ::
.go (.move (.tmp (pth 91))) (pth 92) ::
.gd (pth 92) true (.fieldAddr 1 (.tmp (pth 10))) (pth 93) ::
.gd (pth 92) true (.load1 (.tmp (pth 93))) (pth 94) ::
.gd (pth 92) true (.fieldAddr 0 (.tmp (pth 12))) (pth 95) ::
.gd (pth 92) true (.load1 (.tmp (pth 95))) (pth 96) ::
.gd (pth 92) true (.bin .add 3 (.tmp (pth 94)) (.tmp (pth 96))) (pth 97) ::
.gd (pth 92) true (.move (.tmp (pth 7))) (pth 98) ::
.gd (pth 92) true (.len 0 (.tmp (pth 98))) (pth 99) ::
.gd (pth 92) true (.bin .eql 3 (.tmp (pth 97)) (.tmp (pth 99))) (pth 100) ::
.go (.pick (.tmp (pth 92)) (.tmp (pth 100)) (.con (.bool false))) (pth 101) ::
.go (.move (.tmp (pth 101))) (pth 102) ::
.gd (pth 102) true (.move (.tmp (pth 15))) (pth 103) ::
.gd (pth 102) true (.bin .eql 24 (.tmp (pth 103)) (.con (.int .i64 (.ofNat 0)))) (pth 104) ::
.go (.pick (.tmp (pth 102)) (.tmp (pth 104)) (.con (.bool false))) (pth 105) ::
.go (.move (.tmp (pth 105))) (pth 106) ::
.gd (pth 106) true (.loadN 2 (.tmp (pth 14))) (pth 107) ::
.gd (pth 106) true (.move (.tmp (pth 7))) (pth 108) ::
.gd (pth 106) true (.len 0 (.tmp (pth 108))) (pth 109) ::
.gd (pth 106) true (.move (.tmp (pth 7))) (pth 110) ::
.gd (pth 106) true (.len 0 (.tmp (pth 110))) (pth 111) ::
.gd (pth 106) true (.call (.con (.func (.func 34) ⟨[]⟩ ⟨[]⟩)) [(.tmp (pth 109)),(.tmp (pth 111))]) (pth 112) ::
.gd (pth 106) true (.bin .eql 48 (.tmp (pth 107)) (.tmp (pth 112))) (pth 113) ::
.go (.pick (.tmp (pth 106)) (.tmp (pth 113)) (.con (.bool false))) (pth 114) ::
.go (.move (.tmp (pth 114))) (pth 115) ::
.gd (pth 115) true (.call (.con (.func (.func 26) ⟨[]⟩ ⟨[]⟩)) []) (pth 116) ::
.go (.pick (.tmp (pth 115)) (.tmp (pth 116)) (.con (.bool false))) (pth 117) ::
.go (.move (.tmp (pth 117))) (pth 6) ::
[]) [.ok,.ok,.ok,.ok,.ok,.ok,.ok,.ok,.ok,.ok,.ok,.ok,.ok,.ok,.ok,.ok,.ok,.ok,.ok,.ok,.ok,.ok,.ok,.ok,.ok,.ok,.ok,.ok,.ok,.ok,.ok,.rd (some ((pth 106),true)) (.loadN 2 (.tmp (pth 14))) (some (pth 107)) [37],.ok,.ok,.ok,.ok,.ok,.ok,.ok,.ok,.ok,.ok,.ok]) .ret)))))))))
theorem de17 : @compF Try.prog (Gl.none Try.prog) Try.f17 3 = .mk d17 (mkTT 118) [(pth 0),(pth 1),(pth 2)] [.tmp (pth 6)] := by kernel_rfl
theorem dg17 : Try.prog.funcs[17]? = some Try.f17 := Try.func17
theorem do17 : okF Try.prog Try.f17 = true := by kernel_rfl
abbrev By (n : Int) : Value := .int .u8 n
theorem maptake {l : List Int} {k : Nat} (f : Int → Int) (h : k < l.length) : ((l.take k).map f).map I ++ [I (f l[k])] = ((l.take (k + 1)).map f).map I := by
  rw [List.take_succ_eq_append_getElem h, List.map_append, List.map_append]; rfl
/-- What is written for somebody of y years, the years counted anew behind 120. -/
def wn (a b c y : Int) : Int := wr a b c (y.tmod 121)
theorem tm121 {y : Int} (h : 0 ≤ y) : 0 ≤ y.tmod 121 ∧ y.tmod 121 ≤ 120 := by
  have := tm_le h (b := 121) (by omega); omega
theorem wr_in {a b c n : Int} (hb : 1 ≤ b ∧ b ≤ 12) (hn : 0 ≤ n ∧ n ≤ 120) : 0 ≤ wr a b c n ∧ wr a b c n ≤ 140 := by
  unfold wr
  split
  · omega
  split
  · have := tm_le (x := n + b / 2) (b := b) (by omega) (by omega); omega
  · have := tm_le (x := n) (b := b) (by omega) (by omega); omega
theorem ct_cut (p : Nat → Bool) (k : Int) (hk : 0 ≤ k ∧ k ≤ 120) : ∀ n, n ≤ 121 → ct p 0 (k - 1) n + ct p k 120 n = ct p 0 120 n
  | 0, _ => rfl
  | n + 1, hn => by
    have ih := ct_cut p k hk n (by omega)
    rw [ct_succ, ct_succ, ct_succ]
    by_cases hp : p n = true
    · by_cases h : (n : Int) ≤ k - 1
      · rw [if_pos ⟨hp, by omega, h⟩, if_neg (fun x => by have := x.2.1; omega), if_pos ⟨hp, by omega, by omega⟩]; omega
      · rw [if_neg (fun x => h x.2.2), if_pos ⟨hp, by omega, by omega⟩, if_pos ⟨hp, by omega, by omega⟩]; omega
    · rw [if_neg (fun x => hp x.1), if_neg (fun x => hp x.1), if_neg (fun x => hp x.1)]; omega
theorem ct_pos (p : Nat → Bool) {i : Nat} (hp : p i = true) (hi : i ≤ 120) : ∀ n, i < n → 0 < ct p 0 120 n
  | 0, h => by omega
  | n + 1, h => by
    rw [ct_succ]
    by_cases e : n = i
    · subst e; rw [if_pos ⟨hp, by omega, by omega⟩]; omega
    · have := ct_pos p hp hi n (by omega); omega
theorem cn_own {a b c d y : Int} (hv : rv a b c d) (hy : 0 ≤ y ∧ y ≤ 120) : cn a b c d (wr a b c y) y := ⟨y, by have := hv.2.2.2; omega, by have := hv.2.2.2; omega, rfl⟩
theorem filt_compl {q r : Int → Bool} : ∀ {l : List Int}, (∀ x ∈ l, q x = !r x) → (l.filter q).length + (l.filter r).length = l.length
  | [], _ => rfl
  | x :: l, h => by
    have ih := filt_compl (l := l) (fun y hy => h y (by simp [hy]))
    have hx := h x (by simp)
    rw [List.filter_cons, List.filter_cons, hx]
    cases r x <;> simp <;> omega
/-- What age.Count answers for numbers that were written for ages. -/
theorem cw_wn {a b c d : Int} (hv : rv a b c d) {l : List Int} (hl : ∀ x ∈ l, 0 ≤ x ∧ x ≤ 255) (hn : l.length ≤ 200) {lo hi : Int} (h1 : 0 ≤ lo) (h2 : lo ≤ hi) (h3 : hi ≤ 120) :
    cw a b c d (l.map (wn a b c)) lo hi = ((lowC (pp a b c d) lo hi (l.map (wn a b c)) : Int), (highC (pp a b c d) lo hi (l.map (wn a b c)) : Int), (0 : Int)) ∧ ∀ x ∈ l.map (wn a b c), 0 < ct (pp a b c d x) 0 120 121 := by
  have hin : ∀ x ∈ l.map (wn a b c), 0 ≤ x ∧ x ≤ 140 := by
    intro x hx
    obtain ⟨y, hy, rfl⟩ := List.mem_map.1 hx
    exact wr_in hv.2.1 (tm121 (hl y hy).1)
  have hpos : ∀ x ∈ l.map (wn a b c), 0 < ct (pp a b c d x) 0 120 121 := by
    intro x hx
    obtain ⟨y, hy, rfl⟩ := List.mem_map.1 hx
    have ht := tm121 (hl y hy).1
    refine ct_pos _ (i := (y.tmod 121).toNat) ?_ (by omega) 121 (by omega)
    unfold pp
    have e : (((y.tmod 121).toNat : Nat) : Int) = y.tmod 121 := by omega
    rw [e]
    exact decide_eq_true (cn_own hv ht)
  refine ⟨?_, hpos⟩
  unfold cw
  rw [if_neg (not_not_intro hv), if_neg (by rw [List.length_map]; omega), if_neg (not_not_intro ⟨List.all_eq_true.2 fun x hx => by simpa using hin x hx, h1, h2, h3⟩)]
  unfold cw2
  rw [if_neg]
  rw [List.any_eq_true]
  rintro ⟨x, hx, h⟩
  have := hpos x hx
  simp at h
  omega
theorem cw_sum {a b c d : Int} (hv : rv a b c d) {l : List Int} (hl : ∀ x ∈ l, 0 ≤ x ∧ x ≤ 255) (hn : l.length ≤ 200) {k : Int} (hk : 1 ≤ k ∧ k ≤ 120) :
    (lowC (pp a b c d) 0 (k - 1) (l.map (wn a b c)) : Int) + highC (pp a b c d) k 120 (l.map (wn a b c)) = l.length ∧
    (highC (pp a b c d) 0 (k - 1) (l.map (wn a b c)) : Int) + lowC (pp a b c d) k 120 (l.map (wn a b c)) = l.length ∧
    lowC (pp a b c d) 0 120 (l.map (wn a b c)) = l.length ∧ highC (pp a b c d) 0 120 (l.map (wn a b c)) = l.length := by
  have hpos := (cw_wn hv hl hn (lo := 0) (hi := 120) (by omega) (by omega) (by omega)).2
  have e1 := filt_compl (l := l.map (wn a b c)) (q := fun x => decide (ct (pp a b c d x) 0 (k - 1) 121 = ct (pp a b c d x) 0 120 121)) (r := fun x => decide (0 < ct (pp a b c d x) k 120 121)) (fun x hx => by
    have h1 := ct_cut (pp a b c d x) k (by omega) 121 (by omega)
    by_cases h : 0 < ct (pp a b c d x) k 120 121
    · simp [h]; omega
    · simp [h]; omega)
  have e2 := filt_compl (l := l.map (wn a b c)) (q := fun x => decide (0 < ct (pp a b c d x) 0 (k - 1) 121)) (r := fun x => decide (ct (pp a b c d x) k 120 121 = ct (pp a b c d x) 0 120 121)) (fun x hx => by
    have h1 := ct_cut (pp a b c d x) k (by omega) 121 (by omega)
    by_cases h : ct (pp a b c d x) k 120 121 = ct (pp a b c d x) 0 120 121
    · simp [h]; omega
    · simp [h]; omega)
  have e3 : (l.map (wn a b c)).filter (fun x => decide (ct (pp a b c d x) 0 120 121 = ct (pp a b c d x) 0 120 121)) = l.map (wn a b c) := List.filter_eq_self.2 (fun x hx => by simp)
  have e4 : (l.map (wn a b c)).filter (fun x => decide (0 < ct (pp a b c d x) 0 120 121)) = l.map (wn a b c) := List.filter_eq_self.2 (fun x hx => by simpa using hpos x hx)
  have e5 : (l.map (wn a b c)).length = l.length := List.length_map _
  refine ⟨?_, ?_, ?_, ?_⟩
  · unfold lowC highC; omega
  · unfold lowC highC; omega
  · unfold lowC; rw [e3, e5]
  · unfold highC; rw [e4, e5]
theorem f17_ok {a b c d : Int} {H : Heap} {v : Value} {l : List Int} {s : Int} (hS : Sl H v (l.map By)) (hl : ∀ x ∈ l, 0 ≤ x ∧ x ≤ 255) (hs : 0 ≤ s ∧ s ≤ 255) : F Try.prog 17 ⟨[.agg ⟨R4 a b c d⟩, v, By s]⟩ H (fun w _ => w = .bool true) := by
  have hlen : ∀ H', Grow H H' → ylen 0 H' v = some (I l.length) := fun H' g => by rw [(hS.grow g).len, List.length_map]
  refine F.entryL rfl dg17 do17 de17 rfl (by kernel_rfl) ?_
  simp only [sets]
  refine V.re [(0, .agg ⟨R4 a b c d⟩), (1, v), (2, By s)] (N := 118) (by intro i; simp only [full_st, Full.mk]) (by simp only [Kn, gt_st, full_st, Full.mk, ↓reduceIte, Nat.reduceEqDiff, Nat.reduceLT, decide_true, and_self]) ?_
  intro t hF hA
  simp only [Kn, and_true] at hA
  (repeat first | refine V.seq ?_ | refine V.block ?_ | refine V.scope ?_ | refine V.skip ?_ | refine V.close ?_)
  refine V.line' (by simp +contextual (maxSteps := 1000000) (disch := (first | omega | (simp only [Heap.next_alloc, Heap.next_set]; omega))) only [D3, mm_max, mm_min, cells_alloc_at, cells_alloc_ne, cells_set_at, cells_set_ne, dop, dA, sets, yfield1, yfieldN, yfieldAddr, Int.reduceNegSucc, Int.reduceEq, Nat.reduceLeDiff, Nat.reduceSub, Nat.reduceAdd, gt_st, full_st, hF, hA, ↓reduceIte, Nat.reduceEqDiff, Nat.reduceLT, decide_true, decide_false, Bool.false_eq_true]; with_reducible rfl) ?_
  (repeat first | refine V.seq ?_ | refine V.block ?_ | refine V.scope ?_ | refine V.skip ?_ | refine V.close ?_)
  refine V.run ?_
  refine VI.steps' 1 (by simp +contextual (maxSteps := 1000000) (disch := (first | omega | (simp only [Heap.next_alloc, Heap.next_set]; omega))) only [D3, mm_max, mm_min, cells_alloc_at, cells_alloc_ne, cells_set_at, cells_set_ne, dop, dA, sets, yfield1, yfieldN, yfieldAddr, Int.reduceNegSucc, Int.reduceEq, Nat.reduceLeDiff, Nat.reduceSub, Nat.reduceAdd, gt_st, full_st, hF, hA, ↓reduceIte, Nat.reduceEqDiff, Nat.reduceLT, decide_true, decide_false, Bool.false_eq_true]; with_reducible rfl) ?_
  simp only [List.drop_succ_cons, List.drop_zero]
  refine VI.callA rfl (f25_ok a b c d _) (by simp only [List.map_cons, List.map_nil, dA, gt_st, full_st, hF, hA, ↓reduceIte, Nat.reduceEqDiff, Nat.reduceLT, decide_true, decide_false, Bool.false_eq_true, List.nil_append, List.append_nil, List.cons_append]; try rfl) (fun H1 g1 => ?_)
  have b1 : Bx H1 H.next (R4 a b c d) 23 := (Bx.new _ _ _).grow g1
  have g1 : Grow H H1 := ((Grow.refl H).alloc _).trans g1
  refine VI.line' (by simp +contextual (maxSteps := 1000000) (disch := (first | omega | (simp only [Heap.next_alloc, Heap.next_set]; omega))) only [D3, mm_max, mm_min, cells_alloc_at, cells_alloc_ne, cells_set_at, cells_set_ne, dop, dA, sets, yfield1, yfieldN, yfieldAddr, Int.reduceNegSucc, Int.reduceEq, Nat.reduceLeDiff, Nat.reduceSub, Nat.reduceAdd, gt_st, full_st, hF, hA, ↓reduceIte, Nat.reduceEqDiff, Nat.reduceLT, decide_true, decide_false, Bool.false_eq_true, hlen _ g1]; with_reducible rfl) ?_
  (repeat first | refine V.seq ?_ | refine V.block ?_ | refine V.scope ?_ | refine V.skip ?_ | refine V.close ?_)
  refine V.condP (by simp only [dA, gt_st, full_st, hF, hA, ↓reduceIte, Nat.reduceEqDiff, Nat.reduceLT, decide_true, decide_false, Bool.false_eq_true]; rfl) (fun h1 => ?_) (fun h1 => ?_)
  · (repeat first | refine V.seq ?_ | refine V.block ?_ | refine V.scope ?_ | refine V.skip ?_ | refine V.close ?_)
    refine V.run ?_
    refine VI.callA rfl (f26_ok _) (by simp only [List.map_cons, List.map_nil, dA, gt_st, full_st, hF, hA, ↓reduceIte, Nat.reduceEqDiff, Nat.reduceLT, decide_true, decide_false, Bool.false_eq_true, List.nil_append, List.append_nil, List.cons_append]; try rfl) (fun H2 g2 => ?_)
    refine VI.line' (by simp +contextual (maxSteps := 1000000) (disch := (first | omega | (simp only [Heap.next_alloc, Heap.next_set]; omega))) only [D3, mm_max, mm_min, cells_alloc_at, cells_alloc_ne, cells_set_at, cells_set_ne, dop, dA, sets, yfield1, yfieldN, yfieldAddr, Int.reduceNegSucc, Int.reduceEq, Nat.reduceLeDiff, Nat.reduceSub, Nat.reduceAdd, gt_st, full_st, hF, hA, ↓reduceIte, Nat.reduceEqDiff, Nat.reduceLT, decide_true, decide_false, Bool.false_eq_true]; with_reducible rfl) ?_
    (repeat first | refine V.seq ?_ | refine V.block ?_ | refine V.scope ?_ | refine V.skip ?_ | refine V.close ?_)
    refine V.ret (V.rets rfl (Lv.retF (by simp +contextual (disch := (first | omega | (simp only [Heap.next_alloc, Heap.next_set]; omega))) only [D1, cells_alloc_at, cells_alloc_ne, cells_set_at, cells_set_ne, yres, yres1, yresL, Nat.reduceLeDiff, Nat.reduceSub, Nat.reduceAdd, gt_st, full_st, hF, hA, ↓reduceIte, Nat.reduceEqDiff, Nat.reduceLT, decide_true, decide_false, Bool.false_eq_true]; rfl) ?_))
    rfl
  have hv : rv a b c d := Decidable.by_contra fun h => h1 (.inl h)
  have hn : l.length ≤ 200 := by have := fun h => h1 (.inr h); omega
  clear h1
  (repeat first | refine V.seq ?_ | refine V.block ?_ | refine V.scope ?_ | refine V.skip ?_ | refine V.close ?_)
  refine V.line' (by simp +contextual (maxSteps := 1000000) (disch := (first | omega | (simp only [Heap.next_alloc, Heap.next_set]; omega))) only [D3, mm_max, mm_min, cells_alloc_at, cells_alloc_ne, cells_set_at, cells_set_ne, dop, dA, sets, yfield1, yfieldN, yfieldAddr, Int.reduceNegSucc, Int.reduceEq, Nat.reduceLeDiff, Nat.reduceSub, Nat.reduceAdd, gt_st, full_st, hF, hA, ↓reduceIte, Nat.reduceEqDiff, Nat.reduceLT, decide_true, decide_false, Bool.false_eq_true]; with_reducible rfl) ?_
  (repeat first | refine V.seq ?_ | refine V.block ?_ | refine V.scope ?_ | refine V.skip ?_ | refine V.close ?_)
  refine V.line' (by simp +contextual (maxSteps := 1000000) (disch := (first | omega | (simp only [Heap.next_alloc, Heap.next_set]; omega))) only [D3, mm_max, mm_min, cells_alloc_at, cells_alloc_ne, cells_set_at, cells_set_ne, dop, dA, sets, yfield1, yfieldN, yfieldAddr, Int.reduceNegSucc, Int.reduceEq, Nat.reduceLeDiff, Nat.reduceSub, Nat.reduceAdd, gt_st, full_st, hF, hA, ↓reduceIte, Nat.reduceEqDiff, Nat.reduceLT, decide_true, decide_false, Bool.false_eq_true]; with_reducible rfl) ?_
  (repeat first | refine V.seq ?_ | refine V.block ?_ | refine V.scope ?_ | refine V.skip ?_ | refine V.close ?_)
  refine V.loop (fun n t m H' => ∃ (k : Nat) (w7 : Value), k ≤ l.length ∧ n = l.length - k ∧ Ow H1 H' 3 w7 (((l.take k).map (wn a b c)).map I) ∧ m = [] ∧ Grow H1 H' ∧ Full 118 t ∧ Kn [(1, v), (2, By s), (3, .pointer (some ⟨H.next, 0, none⟩)), (7, w7), (8, I k)] t) l.length ?_ ?_
  · exact ⟨0, _, by omega, by omega, .nil, rfl, .refl _, (by intro i; simp only [full_st, hF]), (by simp only [Kn, gt_st, full_st, hF, hA, ↓reduceIte, Nat.reduceEqDiff, Nat.reduceLT, decide_true, decide_false, Bool.false_eq_true, and_self, and_true, true_and]; try (repeat' constructor))⟩
  clear hF hA
  rintro n t m H' ⟨k, w7, hk, rfl, ho7, rfl, hg, hF, hA⟩
  simp only [Kn, and_true] at hA
  have bb := b1.grow hg
  (repeat first | refine V.seq ?_ | refine V.block ?_ | refine V.scope ?_ | refine V.skip ?_ | refine V.close ?_)
  refine V.line' (by simp +contextual (maxSteps := 1000000) (disch := (first | omega | (simp only [Heap.next_alloc, Heap.next_set]; omega))) only [D3, mm_max, mm_min, cells_alloc_at, cells_alloc_ne, cells_set_at, cells_set_ne, dop, dA, sets, yfield1, yfieldN, yfieldAddr, Int.reduceNegSucc, Int.reduceEq, Nat.reduceLeDiff, Nat.reduceSub, Nat.reduceAdd, gt_st, full_st, hF, hA, ↓reduceIte, Nat.reduceEqDiff, Nat.reduceLT, decide_true, decide_false, Bool.false_eq_true, hlen _ (g1.trans hg)]; with_reducible rfl) ?_
  (repeat first | refine V.seq ?_ | refine V.block ?_ | refine V.scope ?_ | refine V.skip ?_ | refine V.close ?_)
  refine V.condP (by simp only [dA, gt_st, full_st, hF, hA, ↓reduceIte, Nat.reduceEqDiff, Nat.reduceLT, decide_true, decide_false, Bool.false_eq_true]; rfl) (fun h5 => ?_) (fun h5 => ?_)
  · have hlt' : k < l.length := by omega
    obtain ⟨q, hq1, hq2⟩ := hS.get (n := k) (k := k) (x := By l[k]) (kd := .i64) (by simp [hlt']) rfl
    have hk0 := hl l[k] (by simp)
    have w2 : IntKind.i64.wrap l[k] = l[k] := wrap_i64 (by omega) (by omega)
    have n1 : ¬ ((121 : Int) = 0) := by omega
    have ht := tm121 hk0.1
    (repeat first | refine V.seq ?_ | refine V.block ?_ | refine V.scope ?_ | refine V.skip ?_ | refine V.close ?_)
    refine V.draw ?_
    refine VD.dins 8 (by simp +contextual (maxSteps := 1000000) (disch := (first | omega | (simp only [Heap.next_alloc, Heap.next_set]; omega))) only [D3, mm_max, mm_min, cells_alloc_at, cells_alloc_ne, cells_set_at, cells_set_ne, dop, dA, sets, yfield1, yfieldN, yfieldAddr, Int.reduceNegSucc, Int.reduceEq, Nat.reduceLeDiff, Nat.reduceSub, Nat.reduceAdd, gt_st, full_st, hF, hA, ↓reduceIte, Nat.reduceEqDiff, Nat.reduceLT, decide_true, decide_false, Bool.false_eq_true, bb.2, hq1, hq2 _ (g1.trans hg), w2, n1]; with_reducible rfl) ?_
    simp only [List.drop_succ_cons, List.drop_zero]
    refine VD.callA (by simp only [dA, gt_st, full_st, hF, hA, ↓reduceIte, Nat.reduceEqDiff, Nat.reduceLT, decide_true, decide_false, Bool.false_eq_true]; try rfl) (f28_ok a b c d (l[k].tmod 121) hv.2.1 (by have := hv.2.2.1; omega) (by omega) _) (by simp only [List.map_cons, List.map_nil, dA, gt_st, full_st, hF, hA, ↓reduceIte, Nat.reduceEqDiff, Nat.reduceLT, decide_true, decide_false, Bool.false_eq_true, List.nil_append, List.append_nil, List.cons_append]; try rfl) (fun Ha ga => ?_)
    obtain ⟨u7, H2, a1, a2, a3, a4, a5, a6, a7, a8⟩ := (ho7.keep ga).push (bytes := 8) (r := [I (wn a b c l[k])]) (hg.trans ga) rfl (by simp) (by simp; omega) (by simp; omega)
    have a1 : yappend 3 1 8 (Ha.alloc (.cells ⟨[I (wr a b c (l[k].tmod 121))]⟩ 3 true)) w7 (.slice (some ⟨Ha.next, 0, none⟩) 1 1) = some (u7, H2) := a1
    rw [maptake (wn a b c) hlt'] at a2
    have n2 := ga.1
    refine VD.lineD' (by simp +contextual (maxSteps := 1000000) (disch := (first | omega | (simp only [Heap.next_alloc, Heap.next_set]; omega))) only [D3, mm_max, mm_min, cells_alloc_at, cells_alloc_ne, cells_set_at, cells_set_ne, dop, dA, sets, yfield1, yfieldN, yfieldAddr, Int.reduceNegSucc, Int.reduceEq, Nat.reduceLeDiff, Nat.reduceSub, Nat.reduceAdd, gt_st, full_st, hF, hA, ↓reduceIte, Nat.reduceEqDiff, Nat.reduceLT, decide_true, decide_false, Bool.false_eq_true, a1]; with_reducible rfl) ?_ ?_ rfl ?_
    · simp only [monoG, List.cons_append, List.nil_append, Heap.next_set, Heap.next_alloc, Nat.le_refl, true_and, and_true]; omega
    · simp only [dcAll, dcOk, wantD, List.cons_append, List.nil_append, true_and, and_true]
    refine V.re [(1, v), (2, By s), (3, .pointer (some ⟨H.next, 0, none⟩)), (7, u7), (8, I k)] (N := 118) (by intro i; simp only [full_st, hF]) (by simp only [Kn, gt_st, full_st, hF, hA, ↓reduceIte, Nat.reduceEqDiff, Nat.reduceLT, decide_true, decide_false, Bool.false_eq_true, and_self, and_true, true_and]; try (repeat' constructor)) ?_
    clear hF hA
    intro t hF hA
    simp only [Kn, and_true] at hA
    (repeat first | refine V.seq ?_ | refine V.block ?_ | refine V.scope ?_ | refine V.skip ?_ | refine V.close ?_)
    refine V.line' (by simp +contextual (maxSteps := 1000000) (disch := (first | omega | (simp only [Heap.next_alloc, Heap.next_set]; omega))) only [D3, mm_max, mm_min, cells_alloc_at, cells_alloc_ne, cells_set_at, cells_set_ne, dop, dA, sets, yfield1, yfieldN, yfieldAddr, Int.reduceNegSucc, Int.reduceEq, Nat.reduceLeDiff, Nat.reduceSub, Nat.reduceAdd, gt_st, full_st, hF, hA, ↓reduceIte, Nat.reduceEqDiff, Nat.reduceLT, decide_true, decide_false, Bool.false_eq_true]; with_reducible rfl) ?_
    refine V.nil (Or.inl ⟨rfl, l.length - (k + 1), by omega, ?_⟩)
    exact ⟨k + 1, u7, by omega, rfl, a2, rfl, a3, (by intro i; simp only [full_st, hF]), (by simp only [Kn, gt_st, full_st, hF, hA, ↓reduceIte, Nat.reduceEqDiff, Nat.reduceLT, decide_true, decide_false, Bool.false_eq_true, and_self, and_true, true_and]; try (repeat' constructor))⟩
  have hkl : l.take k = l := List.take_of_length_le (by omega)
  rw [hkl] at ho7
  have hgg := g1.trans hg
  clear hlen hS
  refine V.exit ?_
  (repeat first | refine V.pass ?_ | refine V.here ?_ | refine V.out (by decide) ?_)
  refine V.nil (Or.inr ⟨by simp, ?_⟩)
  (repeat first | refine V.pass ?_ | refine V.here ?_ | refine V.out (by decide) ?_)
  have ts := tm_le hs.1 (b := 120) (by omega)
  have ws : IntKind.i64.wrap s = s := wrap_i64 (by omega) (by omega)
  have n1 : ¬ ((120 : Int) = 0) := by omega
  (repeat first | refine V.seq ?_ | refine V.block ?_ | refine V.scope ?_ | refine V.skip ?_ | refine V.close ?_)
  refine V.line' (by simp +contextual (maxSteps := 1000000) (disch := (first | omega | (simp only [Heap.next_alloc, Heap.next_set]; omega))) only [D3, mm_max, mm_min, cells_alloc_at, cells_alloc_ne, cells_set_at, cells_set_ne, dop, dA, sets, yfield1, yfieldN, yfieldAddr, Int.reduceNegSucc, Int.reduceEq, Nat.reduceLeDiff, Nat.reduceSub, Nat.reduceAdd, gt_st, full_st, hF, hA, ↓reduceIte, Nat.reduceEqDiff, Nat.reduceLT, decide_true, decide_false, Bool.false_eq_true, ws, n1]; with_reducible rfl) ?_
  generalize hK : 1 + s.tmod 120 = K at hA ⊢
  have hK : 1 ≤ K ∧ K ≤ 120 := by omega
  have c1 := cw_wn hv hl hn (lo := 0) (hi := K - 1) (by omega) (by omega) (by omega)
  have c2 := cw_wn hv hl hn (lo := K) (hi := 120) (by omega) (by omega) (by omega)
  have c3 := cw_wn hv hl hn (lo := 0) (hi := 120) (by omega) (by omega) (by omega)
  have cs := cw_sum hv hl hn hK
  have d1 := c1.1
  have d2 := c2.1
  have d3 := c3.1
  clear c1 c2 c3
  have q1 : lowC (pp a b c d) 0 (K - 1) (l.map (wn a b c)) ≤ 200 := by have := List.length_filter_le (fun x => decide (ct (pp a b c d x) 0 (K - 1) 121 = ct (pp a b c d x) 0 120 121)) (l.map (wn a b c)); rw [List.length_map] at this; exact Nat.le_trans this hn
  have q2 : highC (pp a b c d) 0 (K - 1) (l.map (wn a b c)) ≤ 200 := by have := List.length_filter_le (fun x => decide (0 < ct (pp a b c d x) 0 (K - 1) 121)) (l.map (wn a b c)); rw [List.length_map] at this; exact Nat.le_trans this hn
  generalize lowC (pp a b c d) 0 (K - 1) (l.map (wn a b c)) = x1 at d1 cs q1
  generalize highC (pp a b c d) 0 (K - 1) (l.map (wn a b c)) = y1 at d1 cs q2
  generalize lowC (pp a b c d) K 120 (l.map (wn a b c)) = x2 at d2 cs
  generalize highC (pp a b c d) K 120 (l.map (wn a b c)) = y2 at d2 cs
  generalize lowC (pp a b c d) 0 120 (l.map (wn a b c)) = x3 at d3 cs
  generalize highC (pp a b c d) 0 120 (l.map (wn a b c)) = y3 at d3 cs
  obtain ⟨s1, s2, s3, s4⟩ := cs
  subst s3 s4
  refine V.re [(3, .pointer (some ⟨H.next, 0, none⟩)), (7, w7), (9, I K)] (N := 118) (by intro i; simp only [full_st, hF]) (by simp only [Kn, gt_st, full_st, hF, hA, ↓reduceIte, Nat.reduceEqDiff, Nat.reduceLT, decide_true, decide_false, Bool.false_eq_true, and_self, and_true, true_and]; try (repeat' constructor)) ?_
  clear hF hA
  intro t hF hA
  simp only [Kn, and_true] at hA
  (repeat first | refine V.seq ?_ | refine V.block ?_ | refine V.scope ?_ | refine V.skip ?_ | refine V.close ?_)
  refine V.run ?_
  refine VI.steps' 1 (by simp +contextual (maxSteps := 1000000) (disch := (first | omega | (simp only [Heap.next_alloc, Heap.next_set]; omega))) only [D3, mm_max, mm_min, cells_alloc_at, cells_alloc_ne, cells_set_at, cells_set_ne, dop, dA, sets, yfield1, yfieldN, yfieldAddr, Int.reduceNegSucc, Int.reduceEq, Nat.reduceLeDiff, Nat.reduceSub, Nat.reduceAdd, gt_st, full_st, hF, hA, ↓reduceIte, Nat.reduceEqDiff, Nat.reduceLT, decide_true, decide_false, Bool.false_eq_true, bb.2]; with_reducible rfl) ?_
  simp only [List.drop_succ_cons, List.drop_zero]
  refine VI.callA rfl (f22_ok a b c d _) (by simp only [List.map_cons, List.map_nil, dA, gt_st, full_st, hF, hA, ↓reduceIte, Nat.reduceEqDiff, Nat.reduceLT, decide_true, decide_false, Bool.false_eq_true, List.nil_append, List.append_nil, List.cons_append]; try rfl) (fun H2 g2 => ?_)
  have b2 := bb.grow g2
  refine VI.steps' 1 (by simp +contextual (maxSteps := 1000000) (disch := (first | omega | (simp only [Heap.next_alloc, Heap.next_set]; omega))) only [D3, mm_max, mm_min, cells_alloc_at, cells_alloc_ne, cells_set_at, cells_set_ne, dop, dA, sets, yfield1, yfieldN, yfieldAddr, Int.reduceNegSucc, Int.reduceEq, Nat.reduceLeDiff, Nat.reduceSub, Nat.reduceAdd, gt_st, full_st, hF, hA, ↓reduceIte, Nat.reduceEqDiff, Nat.reduceLT, decide_true, decide_false, Bool.false_eq_true]; with_reducible rfl) ?_
  simp only [List.drop_succ_cons, List.drop_zero]
  refine VI.callR rfl (f33_ok (ho7.sl.grow g2) (by simp; omega)) (by simp only [List.map_cons, List.map_nil, dA, gt_st, full_st, hF, hA, ↓reduceIte, Nat.reduceEqDiff, Nat.reduceLT, decide_true, decide_false, Bool.false_eq_true, List.nil_append, List.append_nil, List.cons_append]; try rfl) (fun w8 H3 ⟨o8, g3⟩ => ?_)
  have b3 := b2.grow g3
  refine VI.steps' 2 (by simp +contextual (maxSteps := 1000000) (disch := (first | omega | (simp only [Heap.next_alloc, Heap.next_set]; omega))) only [D3, mm_max, mm_min, cells_alloc_at, cells_alloc_ne, cells_set_at, cells_set_ne, dop, dA, sets, yfield1, yfieldN, yfieldAddr, Int.reduceNegSucc, Int.reduceEq, Nat.reduceLeDiff, Nat.reduceSub, Nat.reduceAdd, gt_st, full_st, hF, hA, ↓reduceIte, Nat.reduceEqDiff, Nat.reduceLT, decide_true, decide_false, Bool.false_eq_true]; with_reducible rfl) ?_
  simp only [List.drop_succ_cons, List.drop_zero]
  refine VI.callA rfl (f34_ok 0 (K - 1) _) (by simp only [List.map_cons, List.map_nil, dA, gt_st, full_st, hF, hA, ↓reduceIte, Nat.reduceEqDiff, Nat.reduceLT, decide_true, decide_false, Bool.false_eq_true, List.nil_append, List.append_nil, List.cons_append]; try rfl) (fun H4 g4 => ?_)
  refine VI.callA rfl (f32_ok (lo := 0) (hi := K - 1) (o8.sl.grow g4) (by simp; omega)) (by simp only [List.map_cons, List.map_nil, dA, gt_st, full_st, hF, hA, ↓reduceIte, Nat.reduceEqDiff, Nat.reduceLT, decide_true, decide_false, Bool.false_eq_true, List.nil_append, List.append_nil, List.cons_append]; try rfl) (fun H5 g5 => ?_)
  have b5 := (b3.grow g4).grow g5
  have g15 := hg.trans (((g2.trans g3).trans g4).trans g5)
  have o5 := ho7.keep (((g2.trans g3).trans g4).trans g5)
  rw [d1]
  refine VI.line' (by simp +contextual (maxSteps := 1000000) (disch := (first | omega | (simp only [Heap.next_alloc, Heap.next_set]; omega))) only [D3, mm_max, mm_min, cells_alloc_at, cells_alloc_ne, cells_set_at, cells_set_ne, dop, dA, sets, yfield1, yfieldN, yfieldAddr, Int.reduceNegSucc, Int.reduceEq, Nat.reduceLeDiff, Nat.reduceSub, Nat.reduceAdd, gt_st, full_st, hF, hA, ↓reduceIte, Nat.reduceEqDiff, Nat.reduceLT, decide_true, decide_false, Bool.false_eq_true]; with_reducible rfl) ?_
  refine V.re [(3, .pointer (some ⟨H.next, 0, none⟩)), (7, w7), (9, I K), (10, .pointer (some ⟨H5.next, 0, none⟩)), (11, I 0)] (N := 118) (by intro i; simp only [full_st, hF]) (by simp only [Kn, gt_st, full_st, hF, hA, ↓reduceIte, Nat.reduceEqDiff, Nat.reduceLT, decide_true, decide_false, Bool.false_eq_true, and_self, and_true, true_and]; try (repeat' constructor)) ?_
  clear hF hA
  intro t hF hA
  simp only [Kn, and_true] at hA
  refine V.heap (fun H6 => Grow H5 H6 ∧ Bx H6 H5.next (A2 x1 y1) 48) ⟨?_, ?_⟩ ?_
  · (repeat first | assumption | exact Grow.refl _ | refine Grow.alloc ?_ _ | refine Grow.set ?_ (by first | omega | (simp only [Heap.next_alloc, Heap.next_set]; omega)) _)
  · (repeat first | assumption | exact Bx.new _ _ _ | exact Bx.newAt (by first | omega | (simp only [Heap.next_alloc, Heap.next_set]; omega)) | refine Bx.put (by first | omega | (simp only [Heap.next_alloc, Heap.next_set]; omega)) _ _ | refine Bx.alloc ?_ _ | refine Bx.set ?_ (by first | omega | (simp only [Heap.next_alloc, Heap.next_set]; omega)) _)
  rintro H6 ⟨g6, e6⟩
  have b6 := b5.grow g6
  have o6 := o5.keep g6
  (repeat first | refine V.seq ?_ | refine V.block ?_ | refine V.scope ?_ | refine V.skip ?_ | refine V.close ?_)
  refine V.run ?_
  refine VI.steps' 1 (by simp +contextual (maxSteps := 1000000) (disch := (first | omega | (simp only [Heap.next_alloc, Heap.next_set]; omega))) only [D3, mm_max, mm_min, cells_alloc_at, cells_alloc_ne, cells_set_at, cells_set_ne, dop, dA, sets, yfield1, yfieldN, yfieldAddr, Int.reduceNegSucc, Int.reduceEq, Nat.reduceLeDiff, Nat.reduceSub, Nat.reduceAdd, gt_st, full_st, hF, hA, ↓reduceIte, Nat.reduceEqDiff, Nat.reduceLT, decide_true, decide_false, Bool.false_eq_true, b6.2]; with_reducible rfl) ?_
  simp only [List.drop_succ_cons, List.drop_zero]
  refine VI.callA rfl (f22_ok a b c d _) (by simp only [List.map_cons, List.map_nil, dA, gt_st, full_st, hF, hA, ↓reduceIte, Nat.reduceEqDiff, Nat.reduceLT, decide_true, decide_false, Bool.false_eq_true, List.nil_append, List.append_nil, List.cons_append]; try rfl) (fun H7 g7 => ?_)
  refine VI.steps' 1 (by simp +contextual (maxSteps := 1000000) (disch := (first | omega | (simp only [Heap.next_alloc, Heap.next_set]; omega))) only [D3, mm_max, mm_min, cells_alloc_at, cells_alloc_ne, cells_set_at, cells_set_ne, dop, dA, sets, yfield1, yfieldN, yfieldAddr, Int.reduceNegSucc, Int.reduceEq, Nat.reduceLeDiff, Nat.reduceSub, Nat.reduceAdd, gt_st, full_st, hF, hA, ↓reduceIte, Nat.reduceEqDiff, Nat.reduceLT, decide_true, decide_false, Bool.false_eq_true]; with_reducible rfl) ?_
  simp only [List.drop_succ_cons, List.drop_zero]
  refine VI.callR rfl (f33_ok (o6.sl.grow g7) (by simp; omega)) (by simp only [List.map_cons, List.map_nil, dA, gt_st, full_st, hF, hA, ↓reduceIte, Nat.reduceEqDiff, Nat.reduceLT, decide_true, decide_false, Bool.false_eq_true, List.nil_append, List.append_nil, List.cons_append]; try rfl) (fun w9 H8 ⟨o9, g8⟩ => ?_)
  refine VI.steps' 1 (by simp +contextual (maxSteps := 1000000) (disch := (first | omega | (simp only [Heap.next_alloc, Heap.next_set]; omega))) only [D3, mm_max, mm_min, cells_alloc_at, cells_alloc_ne, cells_set_at, cells_set_ne, dop, dA, sets, yfield1, yfieldN, yfieldAddr, Int.reduceNegSucc, Int.reduceEq, Nat.reduceLeDiff, Nat.reduceSub, Nat.reduceAdd, gt_st, full_st, hF, hA, ↓reduceIte, Nat.reduceEqDiff, Nat.reduceLT, decide_true, decide_false, Bool.false_eq_true]; with_reducible rfl) ?_
  simp only [List.drop_succ_cons, List.drop_zero]
  refine VI.callA rfl (f34_ok K 120 _) (by simp only [List.map_cons, List.map_nil, dA, gt_st, full_st, hF, hA, ↓reduceIte, Nat.reduceEqDiff, Nat.reduceLT, decide_true, decide_false, Bool.false_eq_true, List.nil_append, List.append_nil, List.cons_append]; try rfl) (fun H9 g9 => ?_)
  refine VI.callA rfl (f32_ok (lo := K) (hi := 120) (o9.sl.grow g9) (by simp; omega)) (by simp only [List.map_cons, List.map_nil, dA, gt_st, full_st, hF, hA, ↓reduceIte, Nat.reduceEqDiff, Nat.reduceLT, decide_true, decide_false, Bool.false_eq_true, List.nil_append, List.append_nil, List.cons_append]; try rfl) (fun H10 g10 => ?_)
  have g16 := ((g7.trans g8).trans g9).trans g10
  have b10 := b6.grow g16
  have e10 := e6.grow g16
  have o10 := o6.keep g16
  rw [d2]
  refine VI.line' (by simp +contextual (maxSteps := 1000000) (disch := (first | omega | (simp only [Heap.next_alloc, Heap.next_set]; omega))) only [D3, mm_max, mm_min, cells_alloc_at, cells_alloc_ne, cells_set_at, cells_set_ne, dop, dA, sets, yfield1, yfieldN, yfieldAddr, Int.reduceNegSucc, Int.reduceEq, Nat.reduceLeDiff, Nat.reduceSub, Nat.reduceAdd, gt_st, full_st, hF, hA, ↓reduceIte, Nat.reduceEqDiff, Nat.reduceLT, decide_true, decide_false, Bool.false_eq_true]; with_reducible rfl) ?_
  refine V.re [(3, .pointer (some ⟨H.next, 0, none⟩)), (7, w7), (9, I K), (10, .pointer (some ⟨H5.next, 0, none⟩)), (11, I 0), (12, .pointer (some ⟨H10.next, 0, none⟩)), (13, I 0)] (N := 118) (by intro i; simp only [full_st, hF]) (by simp only [Kn, gt_st, full_st, hF, hA, ↓reduceIte, Nat.reduceEqDiff, Nat.reduceLT, decide_true, decide_false, Bool.false_eq_true, and_self, and_true, true_and]; try (repeat' constructor)) ?_
  clear hF hA
  intro t hF hA
  simp only [Kn, and_true] at hA
  refine V.heap (fun H6 => Grow H10 H6 ∧ Bx H6 H10.next (A2 x2 y2) 48) ⟨?_, ?_⟩ ?_
  · (repeat first | assumption | exact Grow.refl _ | refine Grow.alloc ?_ _ | refine Grow.set ?_ (by first | omega | (simp only [Heap.next_alloc, Heap.next_set]; omega)) _)
  · (repeat first | assumption | exact Bx.new _ _ _ | exact Bx.newAt (by first | omega | (simp only [Heap.next_alloc, Heap.next_set]; omega)) | refine Bx.put (by first | omega | (simp only [Heap.next_alloc, Heap.next_set]; omega)) _ _ | refine Bx.alloc ?_ _ | refine Bx.set ?_ (by first | omega | (simp only [Heap.next_alloc, Heap.next_set]; omega)) _)
  rintro H11 ⟨g11, f11⟩
  have b11 := b10.grow g11
  have e11 := e10.grow g11
  have o11 := o10.keep g11
  (repeat first | refine V.seq ?_ | refine V.block ?_ | refine V.scope ?_ | refine V.skip ?_ | refine V.close ?_)
  refine V.run ?_
  refine VI.steps' 1 (by simp +contextual (maxSteps := 1000000) (disch := (first | omega | (simp only [Heap.next_alloc, Heap.next_set]; omega))) only [D3, mm_max, mm_min, cells_alloc_at, cells_alloc_ne, cells_set_at, cells_set_ne, dop, dA, sets, yfield1, yfieldN, yfieldAddr, Int.reduceNegSucc, Int.reduceEq, Nat.reduceLeDiff, Nat.reduceSub, Nat.reduceAdd, gt_st, full_st, hF, hA, ↓reduceIte, Nat.reduceEqDiff, Nat.reduceLT, decide_true, decide_false, Bool.false_eq_true, b11.2]; with_reducible rfl) ?_
  simp only [List.drop_succ_cons, List.drop_zero]
  refine VI.callA rfl (f22_ok a b c d _) (by simp only [List.map_cons, List.map_nil, dA, gt_st, full_st, hF, hA, ↓reduceIte, Nat.reduceEqDiff, Nat.reduceLT, decide_true, decide_false, Bool.false_eq_true, List.nil_append, List.append_nil, List.cons_append]; try rfl) (fun H12 g12 => ?_)
  refine VI.steps' 1 (by simp +contextual (maxSteps := 1000000) (disch := (first | omega | (simp only [Heap.next_alloc, Heap.next_set]; omega))) only [D3, mm_max, mm_min, cells_alloc_at, cells_alloc_ne, cells_set_at, cells_set_ne, dop, dA, sets, yfield1, yfieldN, yfieldAddr, Int.reduceNegSucc, Int.reduceEq, Nat.reduceLeDiff, Nat.reduceSub, Nat.reduceAdd, gt_st, full_st, hF, hA, ↓reduceIte, Nat.reduceEqDiff, Nat.reduceLT, decide_true, decide_false, Bool.false_eq_true]; with_reducible rfl) ?_
  simp only [List.drop_succ_cons, List.drop_zero]
  refine VI.callR rfl (f33_ok (o11.sl.grow g12) (by simp; omega)) (by simp only [List.map_cons, List.map_nil, dA, gt_st, full_st, hF, hA, ↓reduceIte, Nat.reduceEqDiff, Nat.reduceLT, decide_true, decide_false, Bool.false_eq_true, List.nil_append, List.append_nil, List.cons_append]; try rfl) (fun w10 H13 ⟨o13, g13⟩ => ?_)
  refine VI.callA rfl (f34_ok 0 120 _) (by simp only [List.map_cons, List.map_nil, dA, gt_st, full_st, hF, hA, ↓reduceIte, Nat.reduceEqDiff, Nat.reduceLT, decide_true, decide_false, Bool.false_eq_true, List.nil_append, List.append_nil, List.cons_append]; try rfl) (fun H14 g14 => ?_)
  refine VI.callA rfl (f32_ok (lo := 0) (hi := 120) (o13.sl.grow g14) (by simp; omega)) (by simp only [List.map_cons, List.map_nil, dA, gt_st, full_st, hF, hA, ↓reduceIte, Nat.reduceEqDiff, Nat.reduceLT, decide_true, decide_false, Bool.false_eq_true, List.nil_append, List.append_nil, List.cons_append]; try rfl) (fun H15 g15 => ?_)
  have g17 := ((g12.trans g13).trans g14).trans g15
  have e15 := e11.grow g17
  have f15 := f11.grow g17
  have o15 := o11.keep g17
  rw [d3]
  refine VI.line' (by simp +contextual (maxSteps := 1000000) (disch := (first | omega | (simp only [Heap.next_alloc, Heap.next_set]; omega))) only [D3, mm_max, mm_min, cells_alloc_at, cells_alloc_ne, cells_set_at, cells_set_ne, dop, dA, sets, yfield1, yfieldN, yfieldAddr, Int.reduceNegSucc, Int.reduceEq, Nat.reduceLeDiff, Nat.reduceSub, Nat.reduceAdd, gt_st, full_st, hF, hA, ↓reduceIte, Nat.reduceEqDiff, Nat.reduceLT, decide_true, decide_false, Bool.false_eq_true]; with_reducible rfl) ?_
  refine V.re [(3, .pointer (some ⟨H.next, 0, none⟩)), (7, w7), (9, I K), (10, .pointer (some ⟨H5.next, 0, none⟩)), (11, I 0), (12, .pointer (some ⟨H10.next, 0, none⟩)), (13, I 0), (14, .pointer (some ⟨H15.next, 0, none⟩)), (15, I 0)] (N := 118) (by intro i; simp only [full_st, hF]) (by simp only [Kn, gt_st, full_st, hF, hA, ↓reduceIte, Nat.reduceEqDiff, Nat.reduceLT, decide_true, decide_false, Bool.false_eq_true, and_self, and_true, true_and]; try (repeat' constructor)) ?_
  clear hF hA
  intro t hF hA
  simp only [Kn, and_true] at hA
  refine V.heap (fun H6 => Grow H15 H6 ∧ Bx H6 H15.next (A2 l.length l.length) 48) ⟨?_, ?_⟩ ?_
  · (repeat first | assumption | exact Grow.refl _ | refine Grow.alloc ?_ _ | refine Grow.set ?_ (by first | omega | (simp only [Heap.next_alloc, Heap.next_set]; omega)) _)
  · (repeat first | assumption | exact Bx.new _ _ _ | exact Bx.newAt (by first | omega | (simp only [Heap.next_alloc, Heap.next_set]; omega)) | refine Bx.put (by first | omega | (simp only [Heap.next_alloc, Heap.next_set]; omega)) _ _ | refine Bx.alloc ?_ _ | refine Bx.set ?_ (by first | omega | (simp only [Heap.next_alloc, Heap.next_set]; omega)) _)
  rintro H16 ⟨g18, h16⟩
  have e16 := e15.grow g18
  have f16 := f15.grow g18
  have o16 := o15.keep g18
  have hl7 : ylen 0 H16 w7 = some (I l.length) := by have := o16.length; simpa using this
  clear b1 bb b5 b6 b10 b11 e6 e10 e11 e15 f11 f15 o5 o6 o10 o11 o15 ho7 d1 d2 d3
  have wl : (Lit.int .i64 (l.length : Int)).wf = true := wf_small ⟨by omega, by omega⟩
  have we := eq48 wl wl wl wl
  (repeat first | refine V.seq ?_ | refine V.block ?_ | refine V.scope ?_ | refine V.skip ?_ | refine V.close ?_)
  refine V.draw ?_
  refine VD.dins 9 (by simp +contextual (maxSteps := 1000000) (disch := (first | omega | (simp only [Heap.next_alloc, Heap.next_set]; omega))) only [D3, mm_max, mm_min, cells_alloc_at, cells_alloc_ne, cells_set_at, cells_set_ne, dop, dA, sets, yfield1, yfieldN, yfieldAddr, Int.reduceNegSucc, Int.reduceEq, Nat.reduceLeDiff, Nat.reduceSub, Nat.reduceAdd, gt_st, full_st, hF, hA, ↓reduceIte, Nat.reduceEqDiff, Nat.reduceLT, decide_true, decide_false, Bool.false_eq_true, e16.2, f16.2, hl7, s1]; with_reducible rfl) ?_
  simp only [List.drop_succ_cons, List.drop_zero]
  refine VD.dins 8 (by simp +contextual (maxSteps := 1000000) (disch := (first | omega | (simp only [Heap.next_alloc, Heap.next_set]; omega))) only [D3, mm_max, mm_min, cells_alloc_at, cells_alloc_ne, cells_set_at, cells_set_ne, dop, dA, sets, yfield1, yfieldN, yfieldAddr, Int.reduceNegSucc, Int.reduceEq, Nat.reduceLeDiff, Nat.reduceSub, Nat.reduceAdd, gt_st, full_st, hF, hA, ↓reduceIte, Nat.reduceEqDiff, Nat.reduceLT, decide_true, decide_false, Bool.false_eq_true, e16.2, f16.2, hl7, s1]; with_reducible rfl) ?_
  simp only [List.drop_succ_cons, List.drop_zero]
  refine VD.re [(7, w7), (10, .pointer (some ⟨H5.next, 0, none⟩)), (12, .pointer (some ⟨H10.next, 0, none⟩)), (14, .pointer (some ⟨H15.next, 0, none⟩)), (15, I 0), (92, .bool true)] (N := 118) (by intro i; simp only [full_st, hF]) (by simp only [Kn, gt_st, full_st, hF, hA, ↓reduceIte, Nat.reduceEqDiff, Nat.reduceLT, decide_true, decide_false, Bool.false_eq_true, and_self, and_true, true_and]; try (repeat' constructor)) ?_
  clear hF hA
  intro t hF hA
  simp only [Kn, and_true] at hA
  refine VD.dins 9 (by simp +contextual (maxSteps := 1000000) (disch := (first | omega | (simp only [Heap.next_alloc, Heap.next_set]; omega))) only [D3, mm_max, mm_min, cells_alloc_at, cells_alloc_ne, cells_set_at, cells_set_ne, dop, dA, sets, yfield1, yfieldN, yfieldAddr, Int.reduceNegSucc, Int.reduceEq, Nat.reduceLeDiff, Nat.reduceSub, Nat.reduceAdd, gt_st, full_st, hF, hA, ↓reduceIte, Nat.reduceEqDiff, Nat.reduceLT, decide_true, decide_false, Bool.false_eq_true, e16.2, f16.2, h16.2, hl7, s2]; with_reducible rfl) ?_
  simp only [List.drop_succ_cons, List.drop_zero]
  refine VD.dins 9 (by simp +contextual (maxSteps := 1000000) (disch := (first | omega | (simp only [Heap.next_alloc, Heap.next_set]; omega))) only [D3, mm_max, mm_min, cells_alloc_at, cells_alloc_ne, cells_set_at, cells_set_ne, dop, dA, sets, yfield1, yfieldN, yfieldAddr, Int.reduceNegSucc, Int.reduceEq, Nat.reduceLeDiff, Nat.reduceSub, Nat.reduceAdd, gt_st, full_st, hF, hA, ↓reduceIte, Nat.reduceEqDiff, Nat.reduceLT, decide_true, decide_false, Bool.false_eq_true, e16.2, f16.2, h16.2, hl7, s2]; with_reducible rfl) ?_
  simp only [List.drop_succ_cons, List.drop_zero]
  refine VD.dins 1 (by simp +contextual (maxSteps := 1000000) (disch := (first | omega | (simp only [Heap.next_alloc, Heap.next_set]; omega))) only [D3, mm_max, mm_min, cells_alloc_at, cells_alloc_ne, cells_set_at, cells_set_ne, dop, dA, sets, yfield1, yfieldN, yfieldAddr, Int.reduceNegSucc, Int.reduceEq, Nat.reduceLeDiff, Nat.reduceSub, Nat.reduceAdd, gt_st, full_st, hF, hA, ↓reduceIte, Nat.reduceEqDiff, Nat.reduceLT, decide_true, decide_false, Bool.false_eq_true, e16.2, f16.2, h16.2, hl7, s2]; with_reducible rfl) ?_
  simp only [List.drop_succ_cons, List.drop_zero]
  refine VD.callAT (by simp only [gt_st, full_st, hF, hA, ↓reduceIte, Nat.reduceEqDiff, Nat.reduceLT, decide_true, decide_false, Bool.false_eq_true]; try rfl) (by simp only [dA, gt_st, full_st, hF, hA, ↓reduceIte, Nat.reduceEqDiff, Nat.reduceLT, decide_true, decide_false, Bool.false_eq_true]; try rfl) (f34_ok l.length l.length _) (by simp only [List.map_cons, List.map_nil, dA, gt_st, full_st, hF, hA, ↓reduceIte, Nat.reduceEqDiff, Nat.reduceLT, decide_true, decide_false, Bool.false_eq_true, List.nil_append, List.append_nil, List.cons_append]; try rfl) (fun Ha ga => ?_)
  refine VD.dins 3 (by simp +contextual (maxSteps := 1000000) (disch := (first | omega | (simp only [Heap.next_alloc, Heap.next_set]; omega))) only [D3, mm_max, mm_min, cells_alloc_at, cells_alloc_ne, cells_set_at, cells_set_ne, dop, dA, sets, yfield1, yfieldN, yfieldAddr, Int.reduceNegSucc, Int.reduceEq, Nat.reduceLeDiff, Nat.reduceSub, Nat.reduceAdd, gt_st, full_st, hF, hA, ↓reduceIte, Nat.reduceEqDiff, Nat.reduceLT, decide_true, decide_false, Bool.false_eq_true, we]; with_reducible rfl) ?_
  simp only [List.drop_succ_cons, List.drop_zero]
  refine VD.callAT (by simp only [gt_st, full_st, hF, hA, ↓reduceIte, Nat.reduceEqDiff, Nat.reduceLT, decide_true, decide_false, Bool.false_eq_true]; try rfl) (by simp only [dA, gt_st, full_st, hF, hA, ↓reduceIte, Nat.reduceEqDiff, Nat.reduceLT, decide_true, decide_false, Bool.false_eq_true]; try rfl) (f26_ok _) (by simp only [List.map_cons, List.map_nil, dA, gt_st, full_st, hF, hA, ↓reduceIte, Nat.reduceEqDiff, Nat.reduceLT, decide_true, decide_false, Bool.false_eq_true, List.nil_append, List.append_nil, List.cons_append]; try rfl) (fun Hb gb => ?_)
  have h17 := h16.grow ga
  refine VD.lineD' (by simp +contextual (maxSteps := 1000000) (disch := (first | omega | (simp only [Heap.next_alloc, Heap.next_set]; omega))) only [D3, mm_max, mm_min, cells_alloc_at, cells_alloc_ne, cells_set_at, cells_set_ne, dop, dA, sets, yfield1, yfieldN, yfieldAddr, Int.reduceNegSucc, Int.reduceEq, Nat.reduceLeDiff, Nat.reduceSub, Nat.reduceAdd, gt_st, full_st, hF, hA, ↓reduceIte, Nat.reduceEqDiff, Nat.reduceLT, decide_true, decide_false, Bool.false_eq_true]; with_reducible rfl) ?_ ?_ rfl ?_
  · have n3 := ga.1
    have n4 := gb.1
    simp only [monoG, List.cons_append, List.nil_append, Heap.next_set, Heap.next_alloc, Nat.le_refl, true_and, and_true]; omega
  · simp only [dcAll, dcOk, wantD, List.cons_append, List.nil_append, true_and, and_true]
    exact fun _ q hq => by simp only [List.mem_cons, List.not_mem_nil, or_false] at hq; first | (subst hq; exact ⟨_, _, _, rfl, (by simp +contextual (maxSteps := 1000000) (disch := (first | omega | (simp only [Heap.next_alloc, Heap.next_set]; omega))) only [D3, mm_max, mm_min, cells_alloc_at, cells_alloc_ne, cells_set_at, cells_set_ne, dop, dA, sets, yfield1, yfieldN, yfieldAddr, Int.reduceNegSucc, Int.reduceEq, Nat.reduceLeDiff, Nat.reduceSub, Nat.reduceAdd, gt_st, full_st, hF, hA, ↓reduceIte, Nat.reduceEqDiff, Nat.reduceLT, decide_true, decide_false, Bool.false_eq_true, h16.2, h17.2]; with_reducible rfl), fun p hp => by cases hp; simp only [gt_st, full_st, hF, hA, ↓reduceIte, Nat.reduceEqDiff, Nat.reduceLT, decide_true, decide_false, Bool.false_eq_true]; first | exact vEq_An | simp [vEq, vEq0, all2]⟩) | (rcases hq with rfl | rfl <;> exact ⟨_, _, _, rfl, (by simp +contextual (maxSteps := 1000000) (disch := (first | omega | (simp only [Heap.next_alloc, Heap.next_set]; omega))) only [D3, mm_max, mm_min, cells_alloc_at, cells_alloc_ne, cells_set_at, cells_set_ne, dop, dA, sets, yfield1, yfieldN, yfieldAddr, Int.reduceNegSucc, Int.reduceEq, Nat.reduceLeDiff, Nat.reduceSub, Nat.reduceAdd, gt_st, full_st, hF, hA, ↓reduceIte, Nat.reduceEqDiff, Nat.reduceLT, decide_true, decide_false, Bool.false_eq_true, h16.2, h17.2]; with_reducible rfl), fun p hp => by cases hp; simp only [gt_st, full_st, hF, hA, ↓reduceIte, Nat.reduceEqDiff, Nat.reduceLT, decide_true, decide_false, Bool.false_eq_true]; first | exact vEq_An | simp [vEq, vEq0, all2]⟩) | (rcases hq with rfl | rfl | rfl <;> exact ⟨_, _, _, rfl, (by simp +contextual (maxSteps := 1000000) (disch := (first | omega | (simp only [Heap.next_alloc, Heap.next_set]; omega))) only [D3, mm_max, mm_min, cells_alloc_at, cells_alloc_ne, cells_set_at, cells_set_ne, dop, dA, sets, yfield1, yfieldN, yfieldAddr, Int.reduceNegSucc, Int.reduceEq, Nat.reduceLeDiff, Nat.reduceSub, Nat.reduceAdd, gt_st, full_st, hF, hA, ↓reduceIte, Nat.reduceEqDiff, Nat.reduceLT, decide_true, decide_false, Bool.false_eq_true, h16.2, h17.2]; with_reducible rfl), fun p hp => by cases hp; simp only [gt_st, full_st, hF, hA, ↓reduceIte, Nat.reduceEqDiff, Nat.reduceLT, decide_true, decide_false, Bool.false_eq_true]; first | exact vEq_An | simp [vEq, vEq0, all2]⟩)
  (repeat first | refine V.seq ?_ | refine V.block ?_ | refine V.scope ?_ | refine V.skip ?_ | refine V.close ?_)
  refine V.ret (V.rets rfl (Lv.retF (by simp +contextual (disch := (first | omega | (simp only [Heap.next_alloc, Heap.next_set]; omega))) only [D1, cells_alloc_at, cells_alloc_ne, cells_set_at, cells_set_ne, yres, yres1, yresL, Nat.reduceLeDiff, Nat.reduceSub, Nat.reduceAdd, gt_st, full_st, hF, hA, ↓reduceIte, Nat.reduceEqDiff, Nat.reduceLT, decide_true, decide_false, Bool.false_eq_true]; rfl) ?_))
  rfl
end Go.Xe.TAX
