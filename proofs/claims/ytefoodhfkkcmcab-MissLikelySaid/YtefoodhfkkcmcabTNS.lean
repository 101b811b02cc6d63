/- What the statement MissLikely comes to. Conditions: none. -/
import Derived.Test.YtefoodhfkkcmcabTNR
-- MOD TM
namespace Go.Xe.TMX
open Go Go.Xe Go.Proofs Go.Xe.Mth
open Nat (reduceLeDiff reduceSub reduceAdd reduceEqDiff reduceLT)
open Int (reduceNegSucc reduceEq)
set_option maxRecDepth 100000
set_option maxHeartbeats 3200000
set_option linter.unusedSimpArgs false
noncomputable def d33 : FCode := (.seq (.run (.go (.move (.con (.bool false))) (pth 4)::
[])) (.seq (.seq (.run (.go (.move (.tmp (pth 0))) (pth 6)::
.go (.len 0 (.tmp (pth 6))) (pth 7)::
.go (.move (.tmp (pth 1))) (pth 8)::
.go (.len 0 (.tmp (pth 8))) (pth 9)::
.go (.bin .neq 3 (.tmp (pth 7)) (.tmp (pth 9))) (pth 10)::
[])) (.cond (.tmp (pth 10)) (.seq (.run (.go (.move (.con (.bool false))) (pth 4)::
[])) .ret) .skip)) (.seq (.seq (.run (.go (.move (.con (.int .i64 (.ofNat 0)))) (pth 5)::
[])) (.block 0 (.loop (.seq (.seq (.run (.go (.move (.tmp (pth 5))) (pth 11)::
.go (.move (.tmp (pth 0))) (pth 12)::
.go (.len 0 (.tmp (pth 12))) (pth 13)::
.go (.bin .lss 3 (.tmp (pth 11)) (.tmp (pth 13))) (pth 14)::
[])) (.cond (.tmp (pth 14)) .skip (.exit 0))) (.seq (.block 1 (.seq (.draw 9 (.go (.move (.tmp (pth 0))) (pth 17)::
.go (.move (.tmp (pth 5))) (pth 18)::
.go (.indexAddr none 1 (.tmp (pth 17)) (.tmp (pth 18))) (pth 19)::
.go (.load1 (.tmp (pth 19))) (pth 20)::
.go (.move (.tmp (pth 1))) (pth 21)::
.go (.move (.tmp (pth 5))) (pth 22)::
.go (.indexAddr none 1 (.tmp (pth 21)) (.tmp (pth 22))) (pth 23)::
.go (.load1 (.tmp (pth 23))) (pth 24)::
.go (.bin .neq 3 (.tmp (pth 20)) (.tmp (pth 24))) (pth 25)::
[]) [.ok,.ok,.ok,.ok,.ok,.ok,.ok,.ok,.ok]) (.cond (.tmp (pth 25)) (.seq (.run (.go (.move (.con (.bool false))) (pth 4)::
[])) .ret) .skip))) (.run (.go (.move (.tmp (pth 5))) (pth 15)::
.go (.bin .add 3 (.tmp (pth 15)) (.con (.int .i64 (.ofNat 1)))) (pth 16)::
.go (.move (.tmp (pth 16))) (pth 5)::
[]))))))) (.seq (.run (.go (.move (.con (.bool true))) (pth 4)::
[])) .ret))))
theorem de33 : @compF Try.prog (Gl.none Try.prog) Try.f33 2 = .mk d33 (mkTT 26) [(pth 0),(pth 1)] [.tmp (pth 4)] := by kernel_rfl
theorem dg33 : Try.prog.funcs[33]? = some Try.f33 := Try.func33
theorem do33 : okF Try.prog Try.f33 = true := by kernel_rfl
noncomputable def d31 : FCode := (.seq (.run (.go (.box 28 (.tmp (pth 0))) (pth 1)::
.go (.move (.con (.slice none 0 0))) (pth 2)::
.go (.move (.con (.int .i64 (.ofNat 0)))) (pth 3)::
[])) (.seq (.seq (.run (.go (.loadN 4 (.tmp (pth 1))) (pth 6)::
.go (.call (.con (.func (.func 20) ⟨[]⟩ ⟨[]⟩)) [(.tmp (pth 6))]) (pth 7)::
.go (.move (.tmp (pth 7))) (pth 4)::
[])) (.seq (.run (.go (.move (.tmp (pth 4))) (pth 8)::
.go (.bin .neq 24 (.tmp (pth 8)) (.con (.int .i64 (.ofNat 0)))) (pth 9)::
[])) (.cond (.tmp (pth 9)) (.seq (.run (.go (.move (.tmp (pth 4))) (pth 10)::
.go (.move (.con (.slice none 0 0))) (pth 2)::
.go (.move (.tmp (pth 10))) (pth 3)::
[])) .ret) .skip))) (.seq (.draw 5 (.go (.loadN 4 (.tmp (pth 1))) (pth 11)::
.go (.call (.con (.func (.func 53) ⟨[]⟩ ⟨[]⟩)) []) (pth 12)::
.go (.build [(.int .i64 (.ofNat 0)),(.int .i64 (.ofNat 0)),(.int .i64 (.ofNat 0)),(.int .i64 (.ofNat 0)),.nilFunc] [(0,4,(.tmp (pth 11))),(4,1,(.tmp (pth 12)))]) (pth 13)::
.go (.call (.con (.func (.func 63) ⟨[]⟩ ⟨[]⟩)) [(.tmp (pth 13))]) (pth 14)::
.go (.move (.tmp (pth 14))) (pth 5)::
[]) [.rd none (.loadN 4 (.tmp (pth 1))) (some (pth 11)) [2],.ok,.ok,.ok,.ok]) (.seq (.seq (.run (.go (.move (.tmp (pth 5))) (pth 15)::
.go (.len 0 (.tmp (pth 15))) (pth 16)::
.go (.bin .eql 3 (.tmp (pth 16)) (.con (.int .i64 (.ofNat 0)))) (pth 17)::
[])) (.cond (.tmp (pth 17)) (.seq (.run (.go (.move (.con (.slice none 0 0))) (pth 2)::
.go (.move (.con (.int .i64 (.ofNat 9)))) (pth 3)::
[])) .ret) .skip)) (.seq (.run (.go (.move (.tmp (pth 5))) (pth 18)::
.go (.move (.tmp (pth 18))) (pth 2)::
.go (.move (.con (.int .i64 (.ofNat 0)))) (pth 3)::
[])) .ret)))))
theorem de31 : @compF Try.prog (Gl.none Try.prog) Try.f31 1 = .mk d31 (mkTT 19) [(pth 0)] [.tmp (pth 2),.tmp (pth 3)] := by kernel_rfl
theorem dg31 : Try.prog.funcs[31]? = some Try.f31 := Try.func31
theorem do31 : okF Try.prog Try.f31 = true := by kernel_rfl
theorem mul3_le {p W P w wk pk : Nat} (hW : 0 < W) (h1 : p * W ≤ P * w) (h2 : P * wk ≤ pk * W) : p * wk ≤ pk * w := by
  have a1 := Nat.mul_le_mul_right wk h1
  have a2 := Nat.mul_le_mul_right w h2
  have e1 : p * W * wk = p * wk * W := Nat.mul_right_comm _ _ _
  have e2 : P * w * wk = P * wk * w := Nat.mul_right_comm _ _ _
  have e3 : pk * W * w = pk * w * W := Nat.mul_right_comm _ _ _
  exact Nat.le_of_mul_le_mul_right (show p * wk * W ≤ pk * w * W by omega) hW
theorem mul3_lt {p W P w wk pk : Nat} (hw : 0 < w) (h1 : p * W ≤ P * w) (h2 : P * wk < pk * W) : p * wk < pk * w := by
  have a1 := Nat.mul_le_mul_right wk h1
  have a2 := Nat.mul_lt_mul_of_pos_right h2 hw
  have e1 : p * W * wk = p * wk * W := Nat.mul_right_comm _ _ _
  have e2 : P * w * wk = P * wk * w := Nat.mul_right_comm _ _ _
  have e3 : pk * W * w = pk * w * W := Nat.mul_right_comm _ _ _
  exact Nat.lt_of_mul_lt_mul_right (a := W) (show p * wk * W < pk * w * W by omega)
theorem lkS_max {a c d : Nat} (hd : d ≤ c) (hc : c ≤ a) : ∀ k, a + k ≤ 51 → (∀ u, u < k → part a u c d * (lkS a c d k).2.1 ≤ (lkS a c d k).1 * ch (a + u) c) ∧ ((lkS a c d k).1 = 0 ∨ ∃ u, u < k ∧ (lkS a c d k).1 = part a u c d ∧ (lkS a c d k).2.1 = ch (a + u) c) ∧
    (lkS a c d k).2.2 = ((List.range k).filter fun u => decide (part a u c d * (lkS a c d k).2.1 = (lkS a c d k).1 * ch (a + u) c ∧ 0 < part a u c d)).map fun u => ((u : Nat) : Int)
  | 0, _ => ⟨fun u h => absurd h (by omega), .inl rfl, rfl⟩
  | k + 1, h => by
    obtain ⟨i1, i2, i3⟩ := lkS_max hd hc k (by omega)
    obtain ⟨s1, _, _, _⟩ := lkS_ok hd hc k (by omega)
    have hw : ∀ u, 0 < ch (a + u) c := fun u => ch_pos (by omega)
    have hstep : lkS a c d (k + 1) = if (lkS a c d k).1 * ch (a + k) c < part a k c d * (lkS a c d k).2.1 then (part a k c d, ch (a + k) c, [(k : Int)]) else if part a k c d * (lkS a c d k).2.1 = (lkS a c d k).1 * ch (a + k) c ∧ 0 < part a k c d then ((lkS a c d k).1, (lkS a c d k).2.1, (lkS a c d k).2.2 ++ [(k : Int)]) else lkS a c d k := rfl
    rw [hstep]
    clear hstep
    generalize lkS a c d k = T at *
    obtain ⟨P, W, l⟩ := T
    simp only at i1 i2 i3 s1 ⊢
    rw [List.range_succ, List.filter_append, List.map_append]
    by_cases hlt : P * ch (a + k) c < part a k c d * W
    · have hp0 : 0 < part a k c d := by
        rcases Nat.eq_zero_or_pos (part a k c d) with hz | hp
        · rw [hz, Nat.zero_mul] at hlt; omega
        · exact hp
      rw [if_pos hlt]
      simp only
      refine ⟨fun u hu => ?_, .inr ⟨k, by omega, rfl, rfl⟩, ?_⟩
      · rcases Nat.lt_or_ge u k with hu' | hu'
        · exact mul3_le s1 (i1 u hu') (by omega)
        · obtain rfl : u = k := by omega
          exact Nat.le_refl _
      · have e0 : (List.range k).filter (fun u => decide (part a u c d * ch (a + k) c = part a k c d * ch (a + u) c ∧ 0 < part a u c d)) = [] := by
          refine List.filter_eq_nil_iff.2 (fun u hu => ?_)
          have := mul3_lt (hw u) (i1 u (List.mem_range.1 hu)) hlt
          simp only [decide_eq_true_eq]
          omega
        rw [e0]
        simp [hp0]
    · rw [if_neg hlt]
      by_cases he : part a k c d * W = P * ch (a + k) c ∧ 0 < part a k c d
      · rw [if_pos he]
        simp only
        refine ⟨fun u hu => ?_, ?_, ?_⟩
        · rcases Nat.lt_or_ge u k with hu' | hu'
          · exact i1 u hu'
          · obtain rfl : u = k := by omega
            omega
        · rcases i2 with h | ⟨u, h1, h2, h3⟩
          · exact .inl h
          · exact .inr ⟨u, by omega, h2, h3⟩
        · rw [← i3]
          simp [he]
      · rw [if_neg he]
        simp only
        refine ⟨fun u hu => ?_, ?_, ?_⟩
        · rcases Nat.lt_or_ge u k with hu' | hu'
          · exact i1 u hu'
          · obtain rfl : u = k := by omega
            omega
        · rcases i2 with h | ⟨u, h1, h2, h3⟩
          · exact .inl h
          · exact .inr ⟨u, by omega, h2, h3⟩
        · rw [← i3]
          simp [he]
def lik (a b c d u : Nat) : Prop := 0 < part a u c d ∧ ∀ v, v < b + 1 → ¬ part a u c d * ch (a + v) c < part a v c d * ch (a + u) c
instance (a b c d u : Nat) : Decidable (lik a b c d u) := by unfold lik; infer_instance
def likL (a b c d k : Nat) : List Int := ((List.range k).filter fun u => decide (lik a b c d u)).map fun u => ((u : Nat) : Int)
theorem lik_eq {a b c d : Nat} (hab : a + b ≤ 50) (hd : d ≤ c) (hc : c ≤ a) : (lkS a c d (b + 1)).2.2 = likL a b c d (b + 1) := by
  obtain ⟨i1, i2, i3⟩ := lkS_max hd hc (b + 1) (by omega)
  obtain ⟨s1, _, _, _⟩ := lkS_ok hd hc (b + 1) (by omega)
  rw [i3]
  unfold likL
  congr 1
  refine List.filter_congr (fun u hu => ?_)
  have hu := List.mem_range.1 hu
  have hw : ∀ u, 0 < ch (a + u) c := fun u => ch_pos (by omega)
  generalize lkS a c d (b + 1) = T at *
  obtain ⟨P, W, l⟩ := T
  simp only at i1 i2 s1 ⊢
  refine decide_eq_decide.2 ⟨fun h => ⟨h.2, fun v hv hlt => ?_⟩, fun h => ⟨?_, h.1⟩⟩
  · have := mul3_le s1 (i1 v hv) (show P * ch (a + u) c ≤ part a u c d * W by omega)
    omega
  · have h1 := i1 u hu
    rcases i2 with h0 | ⟨m, hm, h2, h3⟩
    · subst h0
      have := Nat.mul_pos h.1 s1
      omega
    · have := h.2 m hm
      subst h2 h3
      omega
theorem f33_ok {H : Heap} {v w : Value} {l1 l2 : List Int} (h1 : Sl H v (l1.map I)) (h2 : Sl H w (l2.map I)) (hn : l1.length ≤ 1048576) : Gives Try.prog 33 [v, w] H (.bool (decide (l1 = l2))) := by
  have q1 : ∀ X, Grow H X → ylen 0 X v = some (I l1.length) := fun X g => by rw [(h1.grow g).len, List.length_map]
  have q2 : ∀ X, Grow H X → ylen 0 X w = some (I l2.length) := fun X g => by rw [(h2.grow g).len, List.length_map]
  have p1 := q1 H (.refl _)
  have p2 := q2 H (.refl _)
  refine F.entryL rfl dg33 do33 de33 rfl (by kernel_rfl) ?_
  simp only [sets]
  refine V.re [(0, v), (1, w)] (N := 26) (by intro i; simp only [full_st, Full.mk]) (by simp only [Kn, gt_st, full_st, Full.mk, ↓reduceIte, reduceEqDiff, reduceLT, decide_true, and_self]) ?_
  intro t hF hA
  simp only [Kn, and_true] at hA
  (repeat first|apply V.seq|apply V.block|apply V.scope|apply V.skip|apply V.close)
  refine V.line' (by simp +contextual (disch := first|omega|simp only [nx];omega) only [D4,reduceNegSucc,reduceEq,reduceLeDiff,reduceSub,reduceAdd,D5,hF,hA,↓reduceIte,reduceEqDiff,reduceLT]; with_reducible rfl) ?_
  (repeat first|apply V.seq|apply V.block|apply V.scope|apply V.skip|apply V.close)
  refine V.line' (by simp +contextual (disch := first|omega|simp only [nx];omega) only [D4,reduceNegSucc,reduceEq,reduceLeDiff,reduceSub,reduceAdd,D5,hF,hA,↓reduceIte,reduceEqDiff,reduceLT, p1, p2, ne_eq]; with_reducible rfl) ?_
  (repeat first|apply V.seq|apply V.block|apply V.scope|apply V.skip|apply V.close)
  refine V.condP (by simp only [D6,D5,hF,hA,↓reduceIte,reduceEqDiff,reduceLT]; rfl) (fun hne => ?_) (fun hne => ?_)
  · (repeat first|apply V.seq|apply V.block|apply V.scope|apply V.skip|apply V.close)
    refine V.line' (by simp +contextual (disch := first|omega|simp only [nx];omega) only [D4,reduceNegSucc,reduceEq,reduceLeDiff,reduceSub,reduceAdd,D5,hF,hA,↓reduceIte,reduceEqDiff,reduceLT]; with_reducible rfl) ?_
    (repeat first|apply V.seq|apply V.block|apply V.scope|apply V.skip|apply V.close)
    refine V.ret (V.rets rfl (Lv.retG (by simp +contextual (disch := first|omega|simp only [nx];omega) only [D1, cells_alloc_at, cells_alloc_ne, cells_set_at, cells_set_ne, yres, yres1, yresL, reduceLeDiff, reduceSub, reduceAdd, D5,hF,hA,↓reduceIte,reduceEqDiff,reduceLT]; rfl) ?_ ?_))
    · exact .refl _
    · congr 1
      exact (decide_eq_false (fun h => hne (by rw [h]))).symm
  have hlen : l1.length = l2.length := by omega
  (repeat first|apply V.seq|apply V.block|apply V.scope|apply V.skip|apply V.close)
  refine V.line' (by simp +contextual (disch := first|omega|simp only [nx];omega) only [D4,reduceNegSucc,reduceEq,reduceLeDiff,reduceSub,reduceAdd,D5,hF,hA,↓reduceIte,reduceEqDiff,reduceLT]; with_reducible rfl) ?_
  (repeat first|apply V.seq|apply V.block|apply V.scope|apply V.skip|apply V.close)
  refine V.loop (fun r t m X => ∃ k : Nat, k ≤ l1.length ∧ r = l1.length - k ∧ l1.take k = l2.take k ∧ m = [] ∧ X = H ∧ Full 26 t ∧ Kn [(0, v), (1, w), (5, I k)] t) l1.length ?_ ?_
  · exact ⟨0, by omega, by omega, by simp, rfl, rfl, (by intro i; simp only [full_st, hF]), (by simp only [Kn, D5,hF,hA,↓reduceIte,reduceEqDiff,reduceLT, and_self, and_true, true_and]; try (repeat' constructor))⟩
  clear hF hA
  rintro r t m X ⟨k, hk, rfl, htk, rfl, rfl, hF, hA⟩
  simp only [Kn, and_true] at hA
  (repeat first|apply V.seq|apply V.block|apply V.scope|apply V.skip|apply V.close)
  refine V.line' (by simp +contextual (disch := first|omega|simp only [nx];omega) only [D4,reduceNegSucc,reduceEq,reduceLeDiff,reduceSub,reduceAdd,D5,hF,hA,↓reduceIte,reduceEqDiff,reduceLT, p1]; with_reducible rfl) ?_
  (repeat first|apply V.seq|apply V.block|apply V.scope|apply V.skip|apply V.close)
  refine V.condP (by simp only [D6,D5,hF,hA,↓reduceIte,reduceEqDiff,reduceLT]; rfl) (fun hlt => ?_) (fun hlt => ?_)
  · have hlt1 : k < l1.length := by omega
    have hlt2 : k < l2.length := by omega
    obtain ⟨a1, a2, a3⟩ := h1.get (n := k) (k := k) (x := I l1[k]) (kd := .i64) (by simp [hlt1]) rfl
    obtain ⟨b1, b2, b3⟩ := h2.get (n := k) (k := k) (x := I l2[k]) (kd := .i64) (by simp [hlt2]) rfl
    have a4 := a3 _ (.refl _)
    have b4 := b3 _ (.refl _)
    (repeat first|apply V.seq|apply V.block|apply V.scope|apply V.skip|apply V.close)
    refine V.lineD' (by simp +contextual (disch := first|omega|simp only [nx];omega) only [D4,reduceNegSucc,reduceEq,reduceLeDiff,reduceSub,reduceAdd,D5,hF,hA,↓reduceIte,reduceEqDiff,reduceLT, a2, a4, b2, b4, ne_eq]; with_reducible rfl) ?_ ?_ rfl ?_
    · simp only [monoG, List.cons_append, List.nil_append, Heap.next_set, Heap.next_alloc, Nat.le_refl, true_and, and_true] <;> omega
    · simp only [dcAll, dcOk, wantD, List.cons_append, List.nil_append, true_and, and_true]
    (repeat first|apply V.seq|apply V.block|apply V.scope|apply V.skip|apply V.close)
    refine V.condP (by simp only [D6,D5,hF,hA,↓reduceIte,reduceEqDiff,reduceLT]; rfl) (fun hd => ?_) (fun hd => ?_)
    · (repeat first|apply V.seq|apply V.block|apply V.scope|apply V.skip|apply V.close)
      refine V.line' (by simp +contextual (disch := first|omega|simp only [nx];omega) only [D4,reduceNegSucc,reduceEq,reduceLeDiff,reduceSub,reduceAdd,D5,hF,hA,↓reduceIte,reduceEqDiff,reduceLT]; with_reducible rfl) ?_
      (repeat first|apply V.seq|apply V.block|apply V.scope|apply V.skip|apply V.close)
      refine V.ret (V.rets rfl (Or.inr ⟨by simp, V.rets rfl (Lv.retG (by simp +contextual (disch := first|omega|simp only [nx];omega) only [D1, cells_alloc_at, cells_alloc_ne, cells_set_at, cells_set_ne, yres, yres1, yresL, reduceLeDiff, reduceSub, reduceAdd, D5,hF,hA,↓reduceIte,reduceEqDiff,reduceLT]; rfl) ?_ ?_)⟩))
      · exact .refl _
      · congr 1
        exact (decide_eq_false (fun h => hd (by subst h; rfl))).symm
    · (repeat first|apply V.seq|apply V.block|apply V.scope|apply V.skip|apply V.close)
      have ek : (k : Int) + 1 = ((k + 1 : Nat) : Int) := rfl
      refine V.line' (by simp +contextual (disch := first|omega|simp only [nx];omega) only [D4,reduceNegSucc,reduceEq,reduceLeDiff,reduceSub,reduceAdd,D5,hF,hA,↓reduceIte,reduceEqDiff,reduceLT, ek]; with_reducible rfl) ?_
      refine V.nil (Or.inl ⟨rfl, l1.length - (k + 1), by omega, ?_⟩)
      refine ⟨k + 1, by omega, rfl, ?_, rfl, rfl, (by intro i; simp only [full_st, hF]), (by simp only [Kn, D5,hF,hA,↓reduceIte,reduceEqDiff,reduceLT, and_self, and_true, true_and]; try (repeat' constructor))⟩
      rw [tk hlt1, tk hlt2, htk]
      congr 2
      exact Decidable.not_not.1 hd
  · refine V.exit ?_
    (repeat first | refine V.pass ?_ | refine V.here ?_ | refine V.out (by decide) ?_)
    refine V.nil (Or.inr ⟨by simp, ?_⟩)
    (repeat first | refine V.pass ?_ | refine V.here ?_ | refine V.out (by decide) ?_)
    (repeat first|apply V.seq|apply V.block|apply V.scope|apply V.skip|apply V.close)
    refine V.line' (by simp +contextual (disch := first|omega|simp only [nx];omega) only [D4,reduceNegSucc,reduceEq,reduceLeDiff,reduceSub,reduceAdd,D5,hF,hA,↓reduceIte,reduceEqDiff,reduceLT]; with_reducible rfl) ?_
    (repeat first|apply V.seq|apply V.block|apply V.scope|apply V.skip|apply V.close)
    refine V.ret (V.rets rfl (Lv.retG (by simp +contextual (disch := first|omega|simp only [nx];omega) only [D1, cells_alloc_at, cells_alloc_ne, cells_set_at, cells_set_ne, yres, yres1, yresL, reduceLeDiff, reduceSub, reduceAdd, D5,hF,hA,↓reduceIte,reduceEqDiff,reduceLT]; rfl) ?_ ?_))
    · exact .refl _
    · congr 1
      have e1 : l1.take k = l1 := List.take_of_length_le (by omega)
      have e2 : l2.take k = l2 := List.take_of_length_le (by omega)
      rw [e1, e2] at htk
      exact (decide_eq_true htk).symm
theorem f31_ok (a b c d : Int) (H : Heap) : F Try.prog 31 ⟨[.agg ⟨A4 a b c d⟩]⟩ H (fun v H' => Grow H H' ∧ ((¬ ar a b c d ∧ v = .tuple ⟨[.slice none 0 0, I 1]⟩) ∨ ∃ a' b' c' d' : Nat, a = a' ∧ b = b' ∧ c = c' ∧ d = d' ∧ ar a b c d ∧
    ((likL a' b' c' d' (b' + 1) = [] ∧ v = .tuple ⟨[.slice none 0 0, I 9]⟩) ∨ ∃ s, likL a' b' c' d' (b' + 1) ≠ [] ∧ v = .tuple ⟨[s, I 0]⟩ ∧ Sl H' s ((likL a' b' c' d' (b' + 1)).map I)))) := by
  refine F.entryL rfl dg31 do31 de31 rfl (by kernel_rfl) ?_
  simp only [sets]
  refine V.re [(0, .agg ⟨A4 a b c d⟩)] (N := 19) (by intro i; simp only [full_st, Full.mk]) (by simp only [Kn, gt_st, full_st, Full.mk, ↓reduceIte, reduceEqDiff, reduceLT, decide_true, and_self]) ?_
  intro t hF hA
  simp only [Kn, and_true] at hA
  (repeat first|apply V.seq|apply V.block|apply V.scope|apply V.skip|apply V.close)
  refine V.line' (by simp +contextual (disch := first|omega|simp only [nx];omega) only [D4,reduceNegSucc,reduceEq,reduceLeDiff,reduceSub,reduceAdd,D5,hF,hA,↓reduceIte,reduceEqDiff,reduceLT]; with_reducible rfl) ?_
  refine V.heap (fun X => Grow H X ∧ Bx X H.next (A4 a b c d) 28) ⟨?_, ?_⟩ ?_
  · (repeat first | assumption | exact Grow.refl _ | refine Grow.alloc ?_ _ | refine Grow.set ?_ (by first|omega|simp only [nx];omega) _)
  · (repeat first | assumption | exact Bx.new _ _ _ | exact Bx.newAt (by first|omega|simp only [nx];omega) | refine Bx.put (by first|omega|simp only [nx];omega) _ _ | refine Bx.alloc ?_ _ | refine Bx.set ?_ (by first|omega|simp only [nx];omega) _)
  rintro H1 ⟨g1, b1⟩
  (repeat first|apply V.seq|apply V.block|apply V.scope|apply V.skip|apply V.close)
  refine V.run ?_
  refine VI.steps' 1 (by simp +contextual (disch := first|omega|simp only [nx];omega) only [D4,reduceNegSucc,reduceEq,reduceLeDiff,reduceSub,reduceAdd,D5,hF,hA,↓reduceIte,reduceEqDiff,reduceLT, b1.2]; with_reducible rfl) ?_
  simp only [ds]
  refine VI.callA rfl (f20_ok a b c d _) (by simp only [D6,D5,hF,hA,↓reduceIte,reduceEqDiff,reduceLT]; try rfl) (fun H2 g2 => ?_)
  have b2 := b1.grow g2
  refine VI.line' (by simp +contextual (disch := first|omega|simp only [nx];omega) only [D4,reduceNegSucc,reduceEq,reduceLeDiff,reduceSub,reduceAdd,D5,hF,hA,↓reduceIte,reduceEqDiff,reduceLT]; with_reducible rfl) ?_
  (repeat first|apply V.seq|apply V.block|apply V.scope|apply V.skip|apply V.close)
  refine V.line' (by simp +contextual (disch := first|omega|simp only [nx];omega) only [D4,reduceNegSucc,reduceEq,reduceLeDiff,reduceSub,reduceAdd,D5,hF,hA,↓reduceIte,reduceEqDiff,reduceLT, ne_eq]; with_reducible rfl) ?_
  (repeat first|apply V.seq|apply V.block|apply V.scope|apply V.skip|apply V.close)
  by_cases hv : ar a b c d
  · rw [if_pos hv] at *
    refine V.condP (by simp only [D6,D5,hF,hA,↓reduceIte,reduceEqDiff,reduceLT]; rfl) (fun h => ?_) (fun h => ?_)
    · exact absurd h (by simp)
    obtain ⟨a, b, c, d, rfl, rfl, rfl, rfl, k1, k3, k4⟩ := ar_nat hv
    (repeat first|apply V.seq|apply V.block|apply V.scope|apply V.skip|apply V.close)
    refine V.draw ?_
    refine VD.dins 1 (by simp +contextual (disch := first|omega|simp only [nx];omega) only [D4,reduceNegSucc,reduceEq,reduceLeDiff,reduceSub,reduceAdd,D5,hF,hA,↓reduceIte,reduceEqDiff,reduceLT, b2.2]; with_reducible rfl) ?_
    simp only [ds]
    refine VD.callR (by simp only [D6,D5,hF,hA,↓reduceIte,reduceEqDiff,reduceLT]; try rfl) (f53_ok _) (by simp only [D6,D5,hF,hA,↓reduceIte,reduceEqDiff,reduceLT]; try rfl) (fun v3 H3 ⟨i, j, x, q3, hi, hj, hx, g3, w3⟩ => ?_)
    subst q3
    have b3 := b2.grow g3
    refine VD.dins 1 (by simp +contextual (disch := first|omega|simp only [nx];omega) only [D4,reduceNegSucc,reduceEq,reduceLeDiff,reduceSub,reduceAdd,D5,hF,hA,↓reduceIte,reduceEqDiff,reduceLT]; with_reducible rfl) ?_
    simp only [ds]
    refine VD.callR (by simp only [D6,D5,hF,hA,↓reduceIte,reduceEqDiff,reduceLT]; try rfl) (f63_ok (a := a) (b := b) (c := c) (d := d) k1 k3 k4 w3) (by simp only [D6,D5,hF,hA,↓reduceIte,reduceEqDiff,reduceLT]; try rfl) (fun v4 H4 ⟨g4, w4, s4⟩ => ?_)
    rw [lik_eq k1 k4 k3] at s4
    have nb := b2.1
    have b4 := b3.growX g4 (by omega)
    have g04 : Grow H H4 := GrowX.grow (GrowX.trans (g3.x x) g4) (g1.trans g2) (by omega)
    refine VD.lineD' (by simp +contextual (disch := first|omega|simp only [nx];omega) only [D4,reduceNegSucc,reduceEq,reduceLeDiff,reduceSub,reduceAdd,D5,hF,hA,↓reduceIte,reduceEqDiff,reduceLT]; with_reducible rfl) ?_ ?_ rfl ?_
    · have := g3.1
      have := g4.1
      simp only [monoG, List.cons_append, List.nil_append, Heap.next_set, Heap.next_alloc, Nat.le_refl, true_and, and_true] <;> omega
    · simp only [dcAll, dcOk, wantD, List.cons_append, List.nil_append, true_and, and_true]
      exact fun _ q hq => by simp only [List.mem_cons, List.not_mem_nil, or_false] at hq; (repeat (rcases hq with rfl | hq; exact ⟨_, _, _, rfl, (by simp +contextual (disch := first|omega|simp only [nx];omega) only [D4,reduceNegSucc,reduceEq,reduceLeDiff,reduceSub,reduceAdd,D5,hF,hA,↓reduceIte,reduceEqDiff,reduceLT, b2.2, b3.2, b4.2]; with_reducible rfl), fun p hp => by cases hp; simp only [D5,hF,hA,↓reduceIte,reduceEqDiff,reduceLT]; first | exact vEq_An | simp [vEq, vEq0, all2]⟩)); (try (subst hq; exact ⟨_, _, _, rfl, (by simp +contextual (disch := first|omega|simp only [nx];omega) only [D4,reduceNegSucc,reduceEq,reduceLeDiff,reduceSub,reduceAdd,D5,hF,hA,↓reduceIte,reduceEqDiff,reduceLT, b2.2, b3.2, b4.2]; with_reducible rfl), fun p hp => by cases hp; simp only [D5,hF,hA,↓reduceIte,reduceEqDiff,reduceLT]; first | exact vEq_An | simp [vEq, vEq0, all2]⟩))
    have hl4 : ylen 0 H4 v4 = some (I (likL a b c d (b + 1)).length) := by rw [s4.len, List.length_map]
    (repeat first|apply V.seq|apply V.block|apply V.scope|apply V.skip|apply V.close)
    refine V.line' (by simp +contextual (disch := first|omega|simp only [nx];omega) only [D4,reduceNegSucc,reduceEq,reduceLeDiff,reduceSub,reduceAdd,D5,hF,hA,↓reduceIte,reduceEqDiff,reduceLT, hl4]; with_reducible rfl) ?_
    (repeat first|apply V.seq|apply V.block|apply V.scope|apply V.skip|apply V.close)
    refine V.condP (by simp only [D6,D5,hF,hA,↓reduceIte,reduceEqDiff,reduceLT]; rfl) (fun h0 => ?_) (fun h0 => ?_)
    · (repeat first|apply V.seq|apply V.block|apply V.scope|apply V.skip|apply V.close)
      refine V.line' (by simp +contextual (disch := first|omega|simp only [nx];omega) only [D4,reduceNegSucc,reduceEq,reduceLeDiff,reduceSub,reduceAdd,D5,hF,hA,↓reduceIte,reduceEqDiff,reduceLT]; with_reducible rfl) ?_
      (repeat first|apply V.seq|apply V.block|apply V.scope|apply V.skip|apply V.close)
      refine V.ret (V.rets rfl (Lv.retF (by simp +contextual (disch := first|omega|simp only [nx];omega) only [D1, cells_alloc_at, cells_alloc_ne, cells_set_at, cells_set_ne, yres, yres1, yresL, reduceLeDiff, reduceSub, reduceAdd, D5,hF,hA,↓reduceIte,reduceEqDiff,reduceLT]; rfl) ?_))
      exact ⟨g04, .inr ⟨a, b, c, d, rfl, rfl, rfl, rfl, hv, .inl ⟨List.eq_nil_of_length_eq_zero (by omega), rfl⟩⟩⟩
    · (repeat first|apply V.seq|apply V.block|apply V.scope|apply V.skip|apply V.close)
      refine V.line' (by simp +contextual (disch := first|omega|simp only [nx];omega) only [D4,reduceNegSucc,reduceEq,reduceLeDiff,reduceSub,reduceAdd,D5,hF,hA,↓reduceIte,reduceEqDiff,reduceLT]; with_reducible rfl) ?_
      (repeat first|apply V.seq|apply V.block|apply V.scope|apply V.skip|apply V.close)
      refine V.ret (V.rets rfl (Lv.retF (by simp +contextual (disch := first|omega|simp only [nx];omega) only [D1, cells_alloc_at, cells_alloc_ne, cells_set_at, cells_set_ne, yres, yres1, yresL, reduceLeDiff, reduceSub, reduceAdd, D5,hF,hA,↓reduceIte,reduceEqDiff,reduceLT]; rfl) ?_))
      exact ⟨g04, .inr ⟨a, b, c, d, rfl, rfl, rfl, rfl, hv, .inr ⟨v4, fun h => h0 (by rw [h]; rfl), rfl, s4⟩⟩⟩
  · rw [if_neg hv] at *
    refine V.condP (by simp only [D6,D5,hF,hA,↓reduceIte,reduceEqDiff,reduceLT]; rfl) (fun h => ?_) (fun h => ?_)
    rotate_left
    · exact absurd (by decide) h
    (repeat first|apply V.seq|apply V.block|apply V.scope|apply V.skip|apply V.close)
    refine V.line' (by simp +contextual (disch := first|omega|simp only [nx];omega) only [D4,reduceNegSucc,reduceEq,reduceLeDiff,reduceSub,reduceAdd,D5,hF,hA,↓reduceIte,reduceEqDiff,reduceLT]; with_reducible rfl) ?_
    (repeat first|apply V.seq|apply V.block|apply V.scope|apply V.skip|apply V.close)
    refine V.ret (V.rets rfl (Lv.retF (by simp +contextual (disch := first|omega|simp only [nx];omega) only [D1, cells_alloc_at, cells_alloc_ne, cells_set_at, cells_set_ne, yres, yres1, yresL, reduceLeDiff, reduceSub, reduceAdd, D5,hF,hA,↓reduceIte,reduceEqDiff,reduceLT]; rfl) ?_))
    exact ⟨g1.trans g2, .inl ⟨hv, rfl⟩⟩
end Go.Xe.TMX
