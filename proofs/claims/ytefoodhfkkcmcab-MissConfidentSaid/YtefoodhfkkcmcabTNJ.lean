/- What the statement MissConfident comes to. Conditions: none. -/
import Derived.Test.YtefoodhfkkcmcabTNI
import Derived.Test.YtefoodhfkkcmcabTNA
-- MOD TM
namespace Go.Xe.TMX
open Go Go.Xe Go.Proofs Go.Xe.Mth
open Nat (reduceLeDiff reduceSub reduceAdd reduceEqDiff reduceLT)
open Int (reduceNegSucc reduceEq)
set_option maxRecDepth 100000
set_option maxHeartbeats 3200000
set_option linter.unusedSimpArgs false
noncomputable def d11 : FCode := (.seq (.run (.go (.box 23 (.tmp (pth 0))) (pth 3)::
.go (.box 41 (.tmp (pth 2))) (pth 5)::
.go (.move (.con (.bool false))) (pth 6)::
[])) (.seq (.seq (.run (.go (.loadN 4 (.tmp (pth 3))) (pth 18)::
.go (.call (.con (.func (.func 48) ⟨[]⟩ ⟨[]⟩)) [(.tmp (pth 18))]) (pth 19)::
.go (.un .not (.tmp (pth 19))) (pth 20)::
.go (.move (.tmp (pth 20))) (pth 21)::
.gd (pth 21) false (.loadN 2 (.tmp (pth 5))) (pth 22)::
.gd (pth 21) false (.call (.con (.func (.func 36) ⟨[]⟩ ⟨[]⟩)) [(.tmp (pth 22))]) (pth 23)::
.gd (pth 21) false (.un .not (.tmp (pth 23))) (pth 24)::
.go (.pick (.tmp (pth 21)) (.con (.bool true)) (.tmp (pth 24))) (pth 25)::
[])) (.cond (.tmp (pth 25)) (.seq (.run (.go (.call (.con (.func (.func 24) ⟨[]⟩ ⟨[]⟩)) []) (pth 26)::
.go (.move (.tmp (pth 26))) (pth 6)::
[])) .ret) .skip)) (.seq (.run (.go (.move (.tmp (pth 1))) (pth 27)::
.go (.conv .i64 (.tmp (pth 27))) (pth 28)::
.go (.fieldAddr 1 (.tmp (pth 3))) (pth 29)::
.go (.load1 (.tmp (pth 29))) (pth 30)::
.go (.bin .add 3 (.tmp (pth 30)) (.con (.int .i64 (.ofNat 1)))) (pth 31)::
.go (.bin .rem 3 (.tmp (pth 28)) (.tmp (pth 31))) (pth 32)::
.go (.move (.tmp (pth 32))) (pth 7)::
[])) (.seq (.run (.go (.loadN 4 (.tmp (pth 3))) (pth 33)::
.go (.move (.tmp (pth 7))) (pth 34)::
.go (.call (.con (.func (.func 49) ⟨[]⟩ ⟨[]⟩)) [(.tmp (pth 33)),(.tmp (pth 34))]) (pth 35)::
.go (.move (.tmp (pth 35))) (pth 8)::
.go (.move (.con (.int .i64 (.ofNat 0)))) (pth 9)::
[])) (.seq (.seq (.run (.go (.move (.con (.int .i64 (.ofNat 0)))) (pth 10)::
[])) (.block 0 (.loop (.seq (.seq (.run (.go (.move (.tmp (pth 10))) (pth 36)::
.go (.fieldAddr 2 (.tmp (pth 3))) (pth 37)::
.go (.load1 (.tmp (pth 37))) (pth 38)::
.go (.bin .leq 3 (.tmp (pth 36)) (.tmp (pth 38))) (pth 39)::
[])) (.cond (.tmp (pth 39)) .skip (.exit 0))) (.seq (.block 1 (.seq (.run (.go (.loadN 4 (.tmp (pth 3))) (pth 42)::
.go (.alloc 23 [(.int .i64 (.ofNat 0)),(.int .i64 (.ofNat 0)),(.int .i64 (.ofNat 0)),(.int .i64 (.ofNat 0))]) (pth 11)::
.un (.store 4 (.tmp (pth 11)) (.tmp (pth 42)))::
[])) (.seq (.run (.go (.move (.tmp (pth 10))) (pth 43)::
.go (.fieldAddr 3 (.tmp (pth 11))) (pth 44)::
.un (.store 1 (.tmp (pth 44)) (.tmp (pth 43)))::
[])) (.seq (.draw 11 (.go (.loadN 4 (.tmp (pth 11))) (pth 46)::
.go (.call (.con (.func (.func 21) ⟨[]⟩ ⟨[]⟩)) [(.tmp (pth 46))]) (pth 47)::
.go (.loadN 2 (.tmp (pth 5))) (pth 48)::
.go (.call (.con (.func (.func 28) ⟨[]⟩ ⟨[]⟩)) [(.tmp (pth 48))]) (pth 49)::
.go (.call (.con (.func (.func 39) ⟨[]⟩ ⟨[]⟩)) [(.tmp (pth 47)),(.tmp (pth 49))]) (pth 50)::
.go (.move (.tmp (pth 50))) (pth 45)::
.go (.extract (.tmp (pth 45)) 0) (pth 51)::
.go (.extract (.tmp (pth 45)) 1) (pth 52)::
.go (.alloc 53 [(.int .i64 (.ofNat 0)),(.int .i64 (.ofNat 0))]) (pth 12)::
.un (.store 2 (.tmp (pth 12)) (.tmp (pth 51)))::
.go (.move (.tmp (pth 52))) (pth 13)::
[]) [.ok,.ok,.rd none (.loadN 2 (.tmp (pth 5))) (some (pth 48)) [0],.ok,.ok,.ok,.ok,.ok,.nw none (some (pth 12)) 8 true,.ok,.ok]) (.seq (.seq (.run (.go (.move (.tmp (pth 13))) (pth 53)::
.go (.bin .neq 24 (.tmp (pth 53)) (.con (.int .i64 (.ofNat 0)))) (pth 54)::
.go (.move (.tmp (pth 54))) (pth 55)::
.gd (pth 55) true (.move (.tmp (pth 13))) (pth 56)::
.gd (pth 55) true (.bin .neq 24 (.tmp (pth 56)) (.con (.int .i64 (.ofNat 9)))) (pth 57)::
.go (.pick (.tmp (pth 55)) (.tmp (pth 57)) (.con (.bool false))) (pth 58)::
[])) (.cond (.tmp (pth 58)) (.seq (.run (.go (.move (.con (.bool false))) (pth 6)::
[])) .ret) .skip)) (.seq (.seq (.run (.go (.move (.tmp (pth 13))) (pth 59)::
.go (.bin .eql 24 (.tmp (pth 59)) (.con (.int .i64 (.ofNat 9)))) (pth 60)::
.go (.move (.tmp (pth 60))) (pth 61)::
.gd (pth 61) false (.move (.tmp (pth 7))) (pth 62)::
.gd (pth 61) false (.fieldAddr 0 (.tmp (pth 12))) (pth 63)::
.gd (pth 61) false (.load1 (.tmp (pth 63))) (pth 64)::
.gd (pth 61) false (.bin .lss 3 (.tmp (pth 62)) (.tmp (pth 64))) (pth 65)::
.go (.pick (.tmp (pth 61)) (.con (.bool true)) (.tmp (pth 65))) (pth 66)::
.go (.move (.tmp (pth 66))) (pth 67)::
.gd (pth 67) false (.move (.tmp (pth 7))) (pth 68)::
.gd (pth 67) false (.fieldAddr 1 (.tmp (pth 12))) (pth 69)::
.gd (pth 67) false (.load1 (.tmp (pth 69))) (pth 70)::
.gd (pth 67) false (.bin .gtr 3 (.tmp (pth 68)) (.tmp (pth 70))) (pth 71)::
.go (.pick (.tmp (pth 67)) (.con (.bool true)) (.tmp (pth 71))) (pth 72)::
[])) (.cond (.tmp (pth 72)) (.exit 1) .skip)) (.seq (.run (.go (.loadN 4 (.tmp (pth 11))) (pth 74)::
.go (.call (.con (.func (.func 21) ⟨[]⟩ ⟨[]⟩)) [(.tmp (pth 74))]) (pth 75)::
.go (.move (.tmp (pth 7))) (pth 76)::
.go (.call (.con (.func (.func 26) ⟨[]⟩ ⟨[]⟩)) [(.tmp (pth 75)),(.tmp (pth 76))]) (pth 77)::
.go (.move (.tmp (pth 77))) (pth 73)::
.go (.extract (.tmp (pth 73)) 0) (pth 78)::
.go (.extract (.tmp (pth 73)) 1) (pth 79)::
.go (.alloc 36 [(.int .i64 (.ofNat 0)),(.int .i64 (.ofNat 0))]) (pth 14)::
.un (.store 2 (.tmp (pth 14)) (.tmp (pth 78)))::
.go (.move (.tmp (pth 79))) (pth 15)::
[])) (.seq (.run (.go (.move (.tmp (pth 9))) (pth 81)::
.go (.loadN 2 (.tmp (pth 14))) (pth 82)::
.go (.move (.tmp (pth 8))) (pth 83)::
.go (.call (.con (.func (.func 50) ⟨[]⟩ ⟨[]⟩)) [(.tmp (pth 81)),(.tmp (pth 82)),(.tmp (pth 83))]) (pth 84)::
.go (.move (.tmp (pth 84))) (pth 80)::
.go (.extract (.tmp (pth 80)) 0) (pth 85)::
.go (.extract (.tmp (pth 80)) 1) (pth 86)::
.go (.move (.tmp (pth 85))) (pth 16)::
.go (.move (.tmp (pth 86))) (pth 17)::
[])) (.seq (.seq (.run (.go (.move (.tmp (pth 15))) (pth 87)::
.go (.bin .neq 24 (.tmp (pth 87)) (.con (.int .i64 (.ofNat 0)))) (pth 88)::
.go (.move (.tmp (pth 88))) (pth 89)::
.gd (pth 89) false (.move (.tmp (pth 17))) (pth 90)::
.gd (pth 89) false (.un .not (.tmp (pth 90))) (pth 91)::
.go (.pick (.tmp (pth 89)) (.con (.bool true)) (.tmp (pth 91))) (pth 92)::
[])) (.cond (.tmp (pth 92)) (.seq (.run (.go (.move (.con (.bool false))) (pth 6)::
[])) .ret) .skip)) (.run (.go (.move (.tmp (pth 16))) (pth 93)::
.go (.move (.tmp (pth 93))) (pth 9)::
[]))))))))))) (.run (.go (.move (.tmp (pth 10))) (pth 40)::
.go (.bin .add 3 (.tmp (pth 40)) (.con (.int .i64 (.ofNat 1)))) (pth 41)::
.go (.move (.tmp (pth 41))) (pth 10)::
[]))))))) (.seq (.run (.go (.move (.tmp (pth 9))) (pth 94)::
.go (.fieldAddr 1 (.tmp (pth 5))) (pth 95)::
.go (.load1 (.tmp (pth 95))) (pth 96)::
.go (.bin .mul 3 (.tmp (pth 94)) (.tmp (pth 96))) (pth 97)::
.go (.fieldAddr 1 (.tmp (pth 5))) (pth 98)::
.go (.load1 (.tmp (pth 98))) (pth 99)::
.go (.fieldAddr 0 (.tmp (pth 5))) (pth 100)::
.go (.load1 (.tmp (pth 100))) (pth 101)::
.go (.bin .mul 3 (.con (.int .i64 (.ofNat 2))) (.tmp (pth 101))) (pth 102)::
.go (.bin .sub 3 (.tmp (pth 99)) (.tmp (pth 102))) (pth 103)::
.go (.move (.tmp (pth 8))) (pth 104)::
.go (.bin .mul 3 (.tmp (pth 103)) (.tmp (pth 104))) (pth 105)::
.go (.bin .geq 3 (.tmp (pth 97)) (.tmp (pth 105))) (pth 106)::
.go (.move (.tmp (pth 106))) (pth 107)::
.gd (pth 107) true (.call (.con (.func (.func 24) ⟨[]⟩ ⟨[]⟩)) []) (pth 108)::
.go (.pick (.tmp (pth 107)) (.tmp (pth 108)) (.con (.bool false))) (pth 109)::
.go (.move (.tmp (pth 109))) (pth 6)::
[])) .ret))))))
theorem de11 : @compF Try.prog (Gl.none Try.prog) Try.f11 3 = .mk d11 (mkTT 110) [(pth 0),(pth 1),(pth 2)] [.tmp (pth 6)] := by kernel_rfl
theorem dg11 : Try.prog.funcs[11]? = some Try.f11 := Try.func11
theorem do11 : okF Try.prog Try.f11 = true := by kernel_rfl
theorem sm_rev (f : Nat → Nat) : ∀ n, sm f n = sm (fun i => f (n - 1 - i)) n
  | 0 => rfl
  | n + 1 => by
    rw [sm_first (fun i => f (n + 1 - 1 - i)), sm_s, sm_rev f n]
    have : sm (fun i => f (n + 1 - 1 - (i + 1))) n = sm (fun i => f (n - 1 - i)) n := sm_cong (fun i _ => by congr 1; omega)
    rw [this]
    have e : n + 1 - 1 - 0 = n := by omega
    rw [e]; omega
/-- A sum of those that lie below, from the first on, lies below. -/
theorem low_sum {P : Nat → Nat} {lb : Nat → Bool} {q B : Nat} : ∀ m, (∀ k, k < m → lb k = true → sm P (k + 1) * q ≤ B) → sm (fun k => if lb k = true then P k else 0) m ≤ sm P m ∧ sm (fun k => if lb k = true then P k else 0) m * q ≤ B
  | 0, _ => by simp [sm]
  | m + 1, h => by
    have ih := low_sum (P := P) (lb := lb) (q := q) (B := B) m (fun k hk => h k (by omega))
    simp only [sm_s]
    by_cases hb : lb m = true
    · have h1 := h m (by omega) hb
      rw [if_pos hb]
      rw [sm_s] at h1
      exact ⟨by omega, Nat.le_trans (Nat.mul_le_mul_right q (Nat.add_le_add_right ih.1 _)) h1⟩
    · rw [if_neg hb]
      exact ⟨by omega, by simpa using ih.2⟩
theorem conf {P : Nat → Nat} {lb ub cn : Nat → Bool} {q B c : Nat} (h : ∀ k, k ≤ c → cn k = false → lb k = true ∨ ub k = true)
    (hl : ∀ k, k ≤ c → lb k = true → sm P (k + 1) * q ≤ B) (hu : ∀ k, k ≤ c → ub k = true → sm (fun i => P (k + i)) (c + 1 - k) * q ≤ B) :
    sm P (c + 1) * q ≤ sm (fun k => if cn k = true then P k else 0) (c + 1) * q + 2 * B := by
  have h1 := (low_sum (P := P) (lb := lb) (q := q) (B := B) (c + 1) (fun k hk => hl k (by omega))).2
  have h2 := (low_sum (P := fun i => P (c - i)) (lb := fun i => ub (c - i)) (q := q) (B := B) (c + 1) (fun k hk hb => by
    have h3 := hu (c - k) (by omega) hb
    have e : c + 1 - (c - k) = k + 1 := by omega
    rw [e, sm_rev] at h3
    have e2 : sm (fun i => P (c - k + (k + 1 - 1 - i))) (k + 1) = sm (fun i => P (c - i)) (k + 1) := sm_cong (fun i hi => by congr 1; omega)
    rw [e2] at h3
    exact h3)).2
  have e3 : sm (fun k => if ub k = true then P k else 0) (c + 1) = sm (fun i => if ub (c - i) = true then P (c - i) else 0) (c + 1) := by
    rw [sm_rev]
    exact sm_cong (fun i _ => by have : c + 1 - 1 - i = c - i := by omega
                                 rw [this])
  have h4 : ∀ m, m ≤ c + 1 → sm P m ≤ sm (fun k => if cn k = true then P k else 0) m + sm (fun k => if lb k = true then P k else 0) m + sm (fun k => if ub k = true then P k else 0) m := by
    intro m
    induction m with
    | zero => intro _; simp [sm]
    | succ m ih =>
      intro hm
      have i1 := ih (by omega)
      simp only [sm_s]
      cases hc : cn m with
      | true => simp only [if_true]; omega
      | false =>
        rcases h m (by omega) hc with hb | hb
        · rw [if_pos hb]; omega
        · rw [if_pos hb]; omega
  have h5 := Nat.mul_le_mul_right q (h4 (c + 1) (Nat.le_refl _))
  rw [Nat.add_mul, Nat.add_mul, e3] at h5
  omega
theorem tot1 {z : Q4} {n q : Int} (h1 : arq z) (h2 : lv n q) : tot [z] n q = if lfq n q z = [] then (0, 0, 9) else (mn (lfq n q z), mx (lfq n q z), 0) := by
  unfold tot
  rw [if_neg (by simp), if_neg (by simpa using h1), if_neg (by simpa using h2)]
  by_cases h : lfq n q z = []
  · rw [if_pos ⟨z, by simp, h⟩, if_pos h]
  · rw [if_neg (by simpa using h), if_neg h]; simp
/-- Does the range have the number? -/
def cn (a b c u n q k : Nat) : Bool := decide ((tot [((a : Int), (b : Int), (c : Int), (k : Int))] n q).2.2 = 0 ∧ (tot [((a : Int), (b : Int), (c : Int), (k : Int))] n q).1 ≤ u ∧ (u : Int) ≤ (tot [((a : Int), (b : Int), (c : Int), (k : Int))] n q).2.1)
theorem cn_exc {a b c u n q k : Nat} (h1 : a + b ≤ 50) (hu : u ≤ b) (hc : c ≤ a) (hk : k ≤ c) (hl : lv n q) (h : cn a b c u n q k = false) : exc a u c k n q = true := by
  have ha : arq ((a : Int), (b : Int), (c : Int), (k : Int)) := by show ar a b c k; unfold ar pr; omega
  have ht := tot1 ha hl
  have e1 : lfq n q ((a : Int), (b : Int), (c : Int), (k : Int)) = leftL a b c k n q := by unfold lfq; simp only [Int.toNat_natCast]
  rw [e1] at ht
  cases he : exc a u c k n q with
  | true => rfl
  | false =>
    have hm : (u : Int) ∈ leftL a b c k n q := leftL_mem.2 ⟨u, rfl, hu, he⟩
    have hne : leftL a b c k n q ≠ [] := fun x => by rw [x] at hm; simp at hm
    rw [if_neg hne] at ht
    unfold cn at h
    rw [ht] at h
    have := of_decide_eq_false h
    exact absurd ⟨rfl, mn_le hm, mx_ge hm⟩ this
/-- What is counted. -/
def cnt (a b c u n q m : Nat) : Nat := sm (fun k => if cn a b c u n q k = true then part a u c k else 0) m
theorem cnt_le (a b c u n q : Nat) : ∀ m, cnt a b c u n q m ≤ psum a u c 0 m
  | 0 => Nat.le_refl _
  | m + 1 => by
    have ih := cnt_le a b c u n q m
    have e : cnt a b c u n q (m + 1) = cnt a b c u n q m + if cn a b c u n q m = true then part a u c m else 0 := rfl
    rw [e, psum_s, Nat.zero_add]
    split <;> omega
theorem cnt_fin {a b c u n q : Nat} (h1 : a + b ≤ 50) (hu : u ≤ b) (hc : c ≤ a) (hl : lv n q) : ((q : Int) - 2 * n) * (ch (a + u) c : Nat) ≤ (cnt a b c u n q (c + 1) : Nat) * (q : Int) := by
  have h := conf (P := part a u c) (cn := cn a b c u n q) (lb := fun k => below (psum a u c 0 (k + 1)) (ch (a + u) c) n q) (ub := fun k => below (psum a u c k (c + 1 - k)) (ch (a + u) c) n q) (q := q) (B := n * ch (a + u) c) (c := c)
    (fun k hk hf => by
      have := cn_exc h1 hu hc hk hl hf
      unfold exc at this
      simpa using this)
    (fun k hk hb => by
      have hb' := of_decide_eq_true hb
      have e : sm (part a u c) (k + 1) = psum a u c 0 (k + 1) := by unfold psum; exact sm_cong (fun i _ => by rw [Nat.zero_add])
      rw [e]; omega)
    (fun k hk hb => by
      have hb' := of_decide_eq_true hb
      have e : sm (fun i => part a u c (k + i)) (c + 1 - k) = psum a u c k (c + 1 - k) := rfl
      rw [e]; omega)
  have e : sm (part a u c) (c + 1) = ch (a + u) c := by
    rw [← psum_all]; unfold psum; exact sm_cong (fun i _ => by rw [Nat.zero_add])
  rw [e] at h
  have h' : ((ch (a + u) c * q : Nat) : Int) ≤ ((cnt a b c u n q (c + 1) * q + 2 * (n * ch (a + u) c) : Nat) : Int) := Int.ofNat_le.2 h
  push_cast at h'
  rw [Int.sub_mul, Int.mul_assoc 2, Int.mul_comm (q : Int)]
  omega
theorem tot_err {z : Q4} {n q : Int} (h1 : arq z) (h2 : lv n q) : (tot [z] n q).2.2 = 0 ∨ (tot [z] n q).2.2 = 9 := by
  rw [tot1 h1 h2]; split <;> simp
theorem f11_ok {a b c d m n q : Int} {H : Heap} (hm : 0 ≤ m ∧ m ≤ 255) : F Try.prog 11 ⟨[.agg ⟨A4 a b c d⟩, By m, .agg ⟨A2 n q⟩]⟩ H (fun w _ => w = .bool true) := by
  refine F.entryL rfl dg11 do11 de11 rfl (by kernel_rfl) ?_
  simp only [sets]
  refine V.re [(0, .agg ⟨A4 a b c d⟩), (1, By m), (2, .agg ⟨A2 n q⟩)] (N := 110) (by intro i; simp only [full_st, Full.mk]) (by simp only [Kn, gt_st, full_st, Full.mk, ↓reduceIte, reduceEqDiff, reduceLT, decide_true, and_self]) ?_
  intro t hF hA
  simp only [Kn, and_true] at hA
  (repeat first|apply V.seq|apply V.block|apply V.scope|apply V.skip|apply V.close)
  refine V.line' (by simp +contextual (disch := first|omega|simp only [nx];omega) only [D4, reduceNegSucc, reduceEq, reduceLeDiff, reduceSub, reduceAdd, D5, hF, hA, ↓reduceIte, reduceEqDiff, reduceLT]; with_reducible rfl) ?_
  refine V.heap (fun X => Grow H X ∧ Bx X H.next (A4 a b c d) 23 ∧ Bx X (H.next + 1) (A2 n q) 41) ⟨?_, ?_, ?_⟩ ?_
  · (repeat first | assumption | exact Grow.refl _ | refine Grow.alloc ?_ _ | refine Grow.set ?_ (by first|omega|simp only [nx];omega) _)
  · (repeat first | assumption | exact Bx.new _ _ _ | exact Bx.newAt (by first|omega|simp only [nx];omega) | refine Bx.put (by first|omega|simp only [nx];omega) _ _ | refine Bx.alloc ?_ _ | refine Bx.set ?_ (by first|omega|simp only [nx];omega) _)
  · (repeat first | assumption | exact Bx.new _ _ _ | exact Bx.newAt (by first|omega|simp only [nx];omega) | refine Bx.put (by first|omega|simp only [nx];omega) _ _ | refine Bx.alloc ?_ _ | refine Bx.set ?_ (by first|omega|simp only [nx];omega) _)
  rintro H1 ⟨g1, b1, c1⟩
  (repeat first|apply V.seq|apply V.block|apply V.scope|apply V.skip|apply V.close)
  refine V.run ?_
  refine VI.steps' 1 (by simp +contextual (disch := first|omega|simp only [nx];omega) only [D4, reduceNegSucc, reduceEq, reduceLeDiff, reduceSub, reduceAdd, D5, hF, hA, ↓reduceIte, reduceEqDiff, reduceLT, b1.2]; with_reducible rfl) ?_
  simp only [ds]
  refine VI.callA rfl (f48_ok a b c d _) (by simp only [D6, D5, hF, hA, ↓reduceIte, reduceEqDiff, reduceLT]; try rfl) (fun H2 g2 => ?_)
  have b2 := b1.grow g2
  have c2 := c1.grow g2
  refine VI.steps' 3 (by simp +contextual (disch := first|omega|simp only [nx];omega) only [D4, reduceNegSucc, reduceEq, reduceLeDiff, reduceSub, reduceAdd, D5, hF, hA, ↓reduceIte, reduceEqDiff, reduceLT, c2.2]; with_reducible rfl) ?_
  simp only [ds]
  first | refine VI.callGt (by simp only [D5, hF, hA, ↓reduceIte, reduceEqDiff, reduceLT]; rfl) (fun hc => by simp only [D6, D5, hF, hA, ↓reduceIte, reduceEqDiff, reduceLT, hc, and_self, and_true, true_and, not_false_eq_true]; try rfl) (fun hc => f36_ok n q _) (fun hc => by simp only [D6, D5, hF, hA, ↓reduceIte, reduceEqDiff, reduceLT, hc, and_self, and_true, true_and, not_false_eq_true]; try rfl) (fun H3 g3 => ?_) | refine VI.callGf (by simp only [D5, hF, hA, ↓reduceIte, reduceEqDiff, reduceLT]; rfl) (fun hc => by simp only [D6, D5, hF, hA, ↓reduceIte, reduceEqDiff, reduceLT, hc, and_self, and_true, true_and, not_false_eq_true]; try rfl) (fun hc => f36_ok n q _) (fun hc => by simp only [D6, D5, hF, hA, ↓reduceIte, reduceEqDiff, reduceLT, hc, and_self, and_true, true_and, not_false_eq_true]; try rfl) (fun H3 g3 => ?_)
  have b3 := b2.grow g3
  have c3 := c2.grow g3
  refine VI.line' (by simp +contextual (disch := first|omega|simp only [nx];omega) only [D4, reduceNegSucc, reduceEq, reduceLeDiff, reduceSub, reduceAdd, D5, hF, hA, ↓reduceIte, reduceEqDiff, reduceLT]; with_reducible rfl) ?_
  (repeat first|apply V.seq|apply V.block|apply V.scope|apply V.skip|apply V.close)
  refine V.condP (by simp only [D6, D5, hF, hA, ↓reduceIte, reduceEqDiff, reduceLT]; rfl) (fun h => ?_) (fun h => ?_)
  · (repeat first|apply V.seq|apply V.block|apply V.scope|apply V.skip|apply V.close)
    refine V.run ?_
    refine VI.callA rfl (f24_ok _) (by simp only [D6, D5, hF, hA, ↓reduceIte, reduceEqDiff, reduceLT]; try rfl) (fun H4 g4 => ?_)
    refine VI.line' (by simp +contextual (disch := first|omega|simp only [nx];omega) only [D4, reduceNegSucc, reduceEq, reduceLeDiff, reduceSub, reduceAdd, D5, hF, hA, ↓reduceIte, reduceEqDiff, reduceLT]; with_reducible rfl) ?_
    (repeat first|apply V.seq|apply V.block|apply V.scope|apply V.skip|apply V.close)
    refine V.ret (V.rets rfl (Lv.retF (by simp +contextual (disch := first|omega|simp only [nx];omega) only [D1, cells_alloc_at, cells_alloc_ne, cells_set_at, cells_set_ne, yres, yres1, yresL, reduceLeDiff, reduceSub, reduceAdd, D5, hF, hA, ↓reduceIte, reduceEqDiff, reduceLT]; rfl) ?_))
    rfl
  have hv : ar a b c d := by
    by_cases hx : ar a b c d
    · exact hx
    · exact absurd (by simp [hx]) h
  have hl : lv n q := by
    by_cases hx : lv n q
    · exact hx
    · exact absurd (by simp [hx]) h
  clear h
  obtain ⟨a, b, c, d, rfl, rfl, rfl, rfl, k1, k3, k4⟩ := ar_nat hv
  obtain ⟨n, q, rfl, rfl, hq1, hq2, hn2⟩ : ∃ n' q' : Nat, n = n' ∧ q = q' ∧ 1 ≤ q' ∧ q' ≤ 1000 ∧ n' ≤ q' := by
    obtain ⟨⟨k1, k2⟩, k3, k4⟩ := hl
    exact ⟨n.toNat, q.toNat, by omega, by omega, by omega, by omega, by omega⟩
  obtain ⟨u, eu, hu, _⟩ := tm_nat hm.1 (b := (b : Int) + 1) (by omega)
  have wm : IntKind.i64.wrap m = m := wrap_i64 (by omega) (by omega)
  have n0 : ¬ ((b : Int) + 1 = 0) := by omega
  have hcb : ch (a + u) c ≤ 1125899906842624 := Nat.le_trans (ch_le _ _) (Nat.le_trans (Nat.pow_le_pow_right (by omega) (show a + u ≤ 50 by omega)) (by decide))
  have hcp := ch_pos (n := a + u) (k := c) (by omega)
  (repeat first|apply V.seq|apply V.block|apply V.scope|apply V.skip|apply V.close)
  refine V.line' (by simp +contextual (disch := first|omega|simp only [nx];omega) only [D4, reduceNegSucc, reduceEq, reduceLeDiff, reduceSub, reduceAdd, D5, hF, hA, ↓reduceIte, reduceEqDiff, reduceLT, b3.2, wm, n0, eu]; with_reducible rfl) ?_
  (repeat first|apply V.seq|apply V.block|apply V.scope|apply V.skip|apply V.close)
  refine V.re [(3, PT H.next), (5, PT (H.next + 1)), (7, I u)] (N := 110) (by intro i; simp only [full_st, hF]) (by simp only [Kn, D5, hF, hA, ↓reduceIte, reduceEqDiff, reduceLT, and_self, and_true, true_and]; try (repeat' constructor)) ?_
  clear hF hA
  intro t hF hA
  simp only [Kn, and_true] at hA
  refine V.run ?_
  refine VI.steps' 2 (by simp +contextual (disch := first|omega|simp only [nx];omega) only [D4, reduceNegSucc, reduceEq, reduceLeDiff, reduceSub, reduceAdd, D5, hF, hA, ↓reduceIte, reduceEqDiff, reduceLT, b3.2]; with_reducible rfl) ?_
  simp only [ds]
  refine VI.callA rfl (f49_ok (a := a) (b := b) (c := c) (d := d) (u := u) (by omega) (by omega) _) (by simp only [D6, D5, hF, hA, ↓reduceIte, reduceEqDiff, reduceLT]; try rfl) (fun H4 g4 => ?_)
  have b4 := b3.grow g4
  have c4 := c3.grow g4
  refine VI.line' (by simp +contextual (disch := first|omega|simp only [nx];omega) only [D4, reduceNegSucc, reduceEq, reduceLeDiff, reduceSub, reduceAdd, D5, hF, hA, ↓reduceIte, reduceEqDiff, reduceLT]; with_reducible rfl) ?_
  (repeat first|apply V.seq|apply V.block|apply V.scope|apply V.skip|apply V.close)
  refine V.line' (by simp +contextual (disch := first|omega|simp only [nx];omega) only [D4, reduceNegSucc, reduceEq, reduceLeDiff, reduceSub, reduceAdd, D5, hF, hA, ↓reduceIte, reduceEqDiff, reduceLT]; with_reducible rfl) ?_
  (repeat first|apply V.seq|apply V.block|apply V.scope|apply V.skip|apply V.close)
  refine V.loop (fun r t m X => ∃ (k : Nat), k ≤ c + 1 ∧ r = c + 1 - k ∧ m = [] ∧ Grow H4 X ∧ Full 110 t ∧ Kn [(3, PT H.next), (5, PT (H.next + 1)), (7, I u), (8, I ((ch (a + u) c : Nat) : Int)), (9, I ((cnt a b c u n q k : Nat) : Int)), (10, I k)] t) (c + 1) ?_ ?_
  · exact ⟨0, by omega, by omega, rfl, .refl _, (by intro i; simp only [full_st, hF]), (by simp only [Kn, D5, hF, hA, ↓reduceIte, reduceEqDiff, reduceLT, and_self, and_true, true_and]; try (repeat' constructor))⟩
  clear hF hA
  rintro r t m X ⟨k, hk, rfl, rfl, hg, hF, hA⟩
  simp only [Kn, and_true] at hA
  have bx := b4.grow hg
  have cx := c4.grow hg
  (repeat first|apply V.seq|apply V.block|apply V.scope|apply V.skip|apply V.close)
  refine V.line' (by simp +contextual (disch := first|omega|simp only [nx];omega) only [D4, reduceNegSucc, reduceEq, reduceLeDiff, reduceSub, reduceAdd, D5, hF, hA, ↓reduceIte, reduceEqDiff, reduceLT, bx.2]; with_reducible rfl) ?_
  (repeat first|apply V.seq|apply V.block|apply V.scope|apply V.skip|apply V.close)
  refine V.condP (by simp only [D6, D5, hF, hA, ↓reduceIte, reduceEqDiff, reduceLT]; rfl) (fun hlt => ?_) (fun hlt => ?_)
  · have hk' : k ≤ c := by omega
    have hr := rd_of (d := k) k1 (u := u) (by omega) k3 hk'
    have hpk := part_le (a := a) (u := u) hk'
    have hps := psum_le (a := a) (u := u) (c := c) (f := 0) (n := k) (by omega)
    have hcl := cnt_le a b c u n q k
    have hz : arq ((a : Int), (b : Int), (c : Int), (k : Int)) := by show ar a b c k; unfold ar pr; omega
    have hte := tot_err hz hl
    have hcn : cn a b c u n q k = decide ((tot [((a : Int), (b : Int), (c : Int), (k : Int))] n q).2.2 = 0 ∧ (tot [((a : Int), (b : Int), (c : Int), (k : Int))] n q).1 ≤ u ∧ (u : Int) ≤ (tot [((a : Int), (b : Int), (c : Int), (k : Int))] n q).2.1) := rfl
    have hcs : cnt a b c u n q (k + 1) = cnt a b c u n q k + if cn a b c u n q k = true then part a u c k else 0 := rfl
    have f39 : ∀ X, Gives Try.prog 39 [.agg ⟨A4 a b c k⟩, .agg ⟨A2 n q⟩] X (.tuple ⟨[.agg ⟨A2 (tot [((a : Int), (b : Int), (c : Int), (k : Int))] n q).1 (tot [((a : Int), (b : Int), (c : Int), (k : Int))] n q).2.1⟩, I (tot [((a : Int), (b : Int), (c : Int), (k : Int))] n q).2.2]⟩) := fun X => f39_ok a b c k n q X
    generalize tot [((a : Int), (b : Int), (c : Int), (k : Int))] n q = T at *
    obtain ⟨lo, hi, e⟩ := T
    simp only at hte hcn f39
    have ek : (k : Int) + 1 = ((k + 1 : Nat) : Int) := rfl
    (repeat first|apply V.seq|apply V.block|apply V.scope|apply V.skip|apply V.close)
    refine V.line' (by simp +contextual (disch := first|omega|simp only [nx];omega) only [D4, reduceNegSucc, reduceEq, reduceLeDiff, reduceSub, reduceAdd, D5, hF, hA, ↓reduceIte, reduceEqDiff, reduceLT, bx.2]; with_reducible rfl) ?_
    refine V.heap (fun Y => Grow X Y ∧ Bx Y X.next (A4 a b c d) 23) ⟨?_, ?_⟩ ?_
    · (repeat first | assumption | exact Grow.refl _ | refine Grow.alloc ?_ _ | refine Grow.set ?_ (by first|omega|simp only [nx];omega) _)
    · (repeat first | assumption | exact Bx.new _ _ _ | exact Bx.newAt (by first|omega|simp only [nx];omega) | refine Bx.put (by first|omega|simp only [nx];omega) _ _ | refine Bx.alloc ?_ _ | refine Bx.set ?_ (by first|omega|simp only [nx];omega) _)
    rintro X1 ⟨gx1, e1⟩
    (repeat first|apply V.seq|apply V.block|apply V.scope|apply V.skip|apply V.close)
    refine V.line' (by simp +contextual (disch := first|omega|simp only [nx];omega) only [D4, reduceNegSucc, reduceEq, reduceLeDiff, reduceSub, reduceAdd, D5, hF, hA, ↓reduceIte, reduceEqDiff, reduceLT, e1.2]; with_reducible rfl) ?_
    refine V.heap (fun Y => Grow X Y ∧ Bx Y X.next (A4 a b c k) 23) ⟨?_, ?_⟩ ?_
    · have := gx1.1; (repeat first | assumption | exact Grow.refl _ | refine Grow.alloc ?_ _ | refine Grow.set ?_ (by first|omega|simp only [nx];omega) _)
    · have := e1.1; (repeat first | assumption | exact Bx.new _ _ _ | exact Bx.newAt (by first|omega|simp only [nx];omega) | refine Bx.put (by first|omega|simp only [nx];omega) _ _ | refine Bx.alloc ?_ _ | refine Bx.set ?_ (by first|omega|simp only [nx];omega) _)
    rintro X2 ⟨gx2, e2⟩
    have cx2 := cx.grow gx2
    (repeat first|apply V.seq|apply V.block|apply V.scope|apply V.skip|apply V.close)
    refine V.draw ?_
    refine VD.dins 1 (by simp +contextual (disch := first|omega|simp only [nx];omega) only [D4, reduceNegSucc, reduceEq, reduceLeDiff, reduceSub, reduceAdd, D5, hF, hA, ↓reduceIte, reduceEqDiff, reduceLT, e2.2]; with_reducible rfl) ?_
    simp only [ds]
    refine VD.callA (by simp only [D6, D5, hF, hA, ↓reduceIte, reduceEqDiff, reduceLT]; try rfl) (f21_ok a b c k _) (by simp only [D6, D5, hF, hA, ↓reduceIte, reduceEqDiff, reduceLT]; try rfl) (fun X3 gx3 => ?_)
    have cx3 := cx2.grow gx3
    refine VD.dins 1 (by simp +contextual (disch := first|omega|simp only [nx];omega) only [D4, reduceNegSucc, reduceEq, reduceLeDiff, reduceSub, reduceAdd, D5, hF, hA, ↓reduceIte, reduceEqDiff, reduceLT, cx3.2]; with_reducible rfl) ?_
    simp only [ds]
    refine VD.callA (by simp only [D6, D5, hF, hA, ↓reduceIte, reduceEqDiff, reduceLT]; try rfl) (f28_ok n q _) (by simp only [D6, D5, hF, hA, ↓reduceIte, reduceEqDiff, reduceLT]; try rfl) (fun X4 gx4 => ?_)
    have cx4 := cx3.grow gx4
    refine VD.callA (by simp only [D6, D5, hF, hA, ↓reduceIte, reduceEqDiff, reduceLT]; try rfl) (f39 _) (by simp only [D6, D5, hF, hA, ↓reduceIte, reduceEqDiff, reduceLT]; try rfl) (fun X5 gx5 => ?_)
    have cx5 := cx4.grow gx5
    refine VD.lineD' (by simp +contextual (disch := first|omega|simp only [nx];omega) only [D4, reduceNegSucc, reduceEq, reduceLeDiff, reduceSub, reduceAdd, D5, hF, hA, ↓reduceIte, reduceEqDiff, reduceLT]; with_reducible rfl) ?_ ?_ rfl ?_
    · have := gx3.1
      have := gx4.1
      have := gx5.1
      simp only [monoG, List.cons_append, List.nil_append, Heap.next_set, Heap.next_alloc, Nat.le_refl, true_and, and_true] <;> omega
    · simp only [dcAll, dcOk, wantD, List.cons_append, List.nil_append, true_and, and_true]
      exact ⟨fun _ q hq => by simp only [List.mem_cons, List.not_mem_nil, or_false] at hq; (repeat (rcases hq with rfl | hq; exact ⟨_, _, _, rfl, (by simp +contextual (disch := first|omega|simp only [nx];omega) only [D4, reduceNegSucc, reduceEq, reduceLeDiff, reduceSub, reduceAdd, D5, hF, hA, ↓reduceIte, reduceEqDiff, reduceLT, cx2.2, cx3.2, cx4.2, cx5.2]; with_reducible rfl), fun p hp => by cases hp; simp only [D5, hF, hA, ↓reduceIte, reduceEqDiff, reduceLT]; first | exact vEq_An | simp [vEq, vEq0, all2]⟩)); (try (subst hq; exact ⟨_, _, _, rfl, (by simp +contextual (disch := first|omega|simp only [nx];omega) only [D4, reduceNegSucc, reduceEq, reduceLeDiff, reduceSub, reduceAdd, D5, hF, hA, ↓reduceIte, reduceEqDiff, reduceLT, cx2.2, cx3.2, cx4.2, cx5.2]; with_reducible rfl), fun p hp => by cases hp; simp only [D5, hF, hA, ↓reduceIte, reduceEqDiff, reduceLT]; first | exact vEq_An | simp [vEq, vEq0, all2]⟩)), fun _ => ⟨_, _, _, rfl, rfl, rfl, (by simp only [D5, hF, hA, ↓reduceIte, reduceEqDiff, reduceLT]; simp [inBound]), fun _ => ⟨_, _, _, cells_alloc _ _ _ _, (by first | exact An_inb | rfl)⟩⟩⟩
    refine V.heap (fun Y => Grow X5 Y ∧ Bx Y X5.next (A2 lo hi) 53) ⟨?_, ?_⟩ ?_
    · (repeat first | assumption | exact Grow.refl _ | refine Grow.alloc ?_ _ | refine Grow.set ?_ (by first|omega|simp only [nx];omega) _)
    · (repeat first | assumption | exact Bx.new _ _ _ | exact Bx.newAt (by first|omega|simp only [nx];omega) | refine Bx.put (by first|omega|simp only [nx];omega) _ _ | refine Bx.alloc ?_ _ | refine Bx.set ?_ (by first|omega|simp only [nx];omega) _)
    rintro X6 ⟨gx6, r6⟩
    have g26 := ((gx3.trans gx4).trans gx5).trans gx6
    have e6 := e2.grow g26
    have g06 := gx2.trans g26
    (repeat first|apply V.seq|apply V.block|apply V.scope|apply V.skip|apply V.close)
    refine V.line' (by simp +contextual (disch := first|omega|simp only [nx];omega) only [D4, reduceNegSucc, reduceEq, reduceLeDiff, reduceSub, reduceAdd, D5, hF, hA, ↓reduceIte, reduceEqDiff, reduceLT]; with_reducible rfl) ?_
    (repeat first|apply V.seq|apply V.block|apply V.scope|apply V.skip|apply V.close)
    have hne : ¬ (¬ e = 0 ∧ ¬ e = 9) := by omega
    refine V.condP (by simp only [D6, D5, hF, hA, ↓reduceIte, reduceEqDiff, reduceLT]; rfl) (fun hbad => ?_) (fun hbad => ?_)
    · exact absurd hbad (by simp; omega)
    (repeat first|apply V.seq|apply V.block|apply V.scope|apply V.skip|apply V.close)
    refine V.line' (by simp +contextual (disch := first|omega|simp only [nx];omega) only [D4, reduceNegSucc, reduceEq, reduceLeDiff, reduceSub, reduceAdd, D5, hF, hA, ↓reduceIte, reduceEqDiff, reduceLT, r6.2]; with_reducible rfl) ?_
    (repeat first|apply V.seq|apply V.block|apply V.scope|apply V.skip|apply V.close)
    refine V.condP (by simp only [D6, D5, hF, hA, ↓reduceIte, reduceEqDiff, reduceLT]; rfl) (fun hout => ?_) (fun hout => ?_)
    · have hcf : cn a b c u n q k = false := by
        rw [hcn]
        refine decide_eq_false ?_
        rintro ⟨q1, q2, q3⟩
        omega
      refine V.exit ?_
      (repeat first | refine V.pass ?_ | refine V.here ?_ | refine V.out (by decide) ?_)
      (repeat first|apply V.seq|apply V.block|apply V.scope|apply V.skip|apply V.close)
      refine V.line' (by simp +contextual (disch := first|omega|simp only [nx];omega) only [D4, reduceNegSucc, reduceEq, reduceLeDiff, reduceSub, reduceAdd, D5, hF, hA, ↓reduceIte, reduceEqDiff, reduceLT, ek]; with_reducible rfl) ?_
      refine V.nil (Or.inl ⟨rfl, c + 1 - (k + 1), by omega, ?_⟩)
      have e4 : cnt a b c u n q (k + 1) = cnt a b c u n q k := by rw [hcs, hcf]; simp
      refine ⟨k + 1, by omega, rfl, rfl, hg.trans g06, ?_⟩
      rw [e4]
      exact ⟨(by intro i; simp only [full_st, hF]), (by simp only [Kn, D5, hF, hA, ↓reduceIte, reduceEqDiff, reduceLT, and_self, and_true, true_and]; try (repeat' constructor))⟩
    have hct : cn a b c u n q k = true := by
      rw [hcn]
      refine decide_eq_true ?_
      refine ⟨?_, ?_, ?_⟩ <;> omega
    (repeat first|apply V.seq|apply V.block|apply V.scope|apply V.skip|apply V.close)
    refine V.re [(3, PT H.next), (5, PT (H.next + 1)), (7, I u), (8, I ((ch (a + u) c : Nat) : Int)), (9, I ((cnt a b c u n q k : Nat) : Int)), (10, I k), (11, PT X.next)] (N := 110) (by intro i; simp only [full_st, hF]) (by simp only [Kn, D5, hF, hA, ↓reduceIte, reduceEqDiff, reduceLT, and_self, and_true, true_and]; try (repeat' constructor)) ?_
    clear hF hA
    intro t hF hA
    simp only [Kn, and_true] at hA
    refine V.run ?_
    refine VI.steps' 1 (by simp +contextual (disch := first|omega|simp only [nx];omega) only [D4, reduceNegSucc, reduceEq, reduceLeDiff, reduceSub, reduceAdd, D5, hF, hA, ↓reduceIte, reduceEqDiff, reduceLT, e6.2]; with_reducible rfl) ?_
    simp only [ds]
    refine VI.callA rfl (f21_ok a b c k _) (by simp only [D6, D5, hF, hA, ↓reduceIte, reduceEqDiff, reduceLT]; try rfl) (fun X7 gx7 => ?_)
    refine VI.steps' 1 (by simp +contextual (disch := first|omega|simp only [nx];omega) only [D4, reduceNegSucc, reduceEq, reduceLeDiff, reduceSub, reduceAdd, D5, hF, hA, ↓reduceIte, reduceEqDiff, reduceLT]; with_reducible rfl) ?_
    simp only [ds]
    refine VI.callA rfl (f26_ok a b c k u _) (by simp only [D6, D5, hF, hA, ↓reduceIte, reduceEqDiff, reduceLT]; try rfl) (fun X8 gx8 => ?_)
    rw [cf_nat hr, hr]
    refine VI.line' (by simp +contextual (disch := first|omega|simp only [nx];omega) only [D4, reduceNegSucc, reduceEq, reduceLeDiff, reduceSub, reduceAdd, D5, hF, hA, ↓reduceIte, reduceEqDiff, reduceLT]; with_reducible rfl) ?_
    refine V.heap (fun Y => Grow X8 Y ∧ Bx Y X8.next (fr (part a u c k) (ch (a + u) c)) 36) ⟨?_, ?_⟩ ?_
    · (repeat first | assumption | exact Grow.refl _ | refine Grow.alloc ?_ _ | refine Grow.set ?_ (by first|omega|simp only [nx];omega) _)
    · (repeat first | assumption | exact Bx.new _ _ _ | exact Bx.newAt (by first|omega|simp only [nx];omega) | refine Bx.put (by first|omega|simp only [nx];omega) _ _ | refine Bx.alloc ?_ _ | refine Bx.set ?_ (by first|omega|simp only [nx];omega) _)
    rintro X9 ⟨gx9, e9⟩
    (repeat first|apply V.seq|apply V.block|apply V.scope|apply V.skip|apply V.close)
    refine V.run ?_
    refine VI.steps' 3 (by simp +contextual (disch := first|omega|simp only [nx];omega) only [D4, reduceNegSucc, reduceEq, reduceLeDiff, reduceSub, reduceAdd, D5, hF, hA, ↓reduceIte, reduceEqDiff, reduceLT, e9.2]; with_reducible rfl) ?_
    simp only [ds]
    refine VI.callA rfl (f50_ok (s := cnt a b c u n q k) hpk hcp (by omega) (by omega) _) (by simp only [D6, D5, hF, hA, ↓reduceIte, reduceEqDiff, reduceLT]; try rfl) (fun X10 gx10 => ?_)
    refine VI.line' (by simp +contextual (disch := first|omega|simp only [nx];omega) only [D4, reduceNegSucc, reduceEq, reduceLeDiff, reduceSub, reduceAdd, D5, hF, hA, ↓reduceIte, reduceEqDiff, reduceLT]; with_reducible rfl) ?_
    (repeat first|apply V.seq|apply V.block|apply V.scope|apply V.skip|apply V.close)
    refine V.line' (by simp +contextual (disch := first|omega|simp only [nx];omega) only [D4, reduceNegSucc, reduceEq, reduceLeDiff, reduceSub, reduceAdd, D5, hF, hA, ↓reduceIte, reduceEqDiff, reduceLT, ne_eq, not_true_eq_false]; with_reducible rfl) ?_
    (repeat first|apply V.seq|apply V.block|apply V.scope|apply V.skip|apply V.close)
    refine V.condF (by simp only [D6, D5, hF, hA, ↓reduceIte, reduceEqDiff, reduceLT]) ?_
    (repeat first|apply V.seq|apply V.block|apply V.scope|apply V.skip|apply V.close)
    refine V.line' (by simp +contextual (disch := first|omega|simp only [nx];omega) only [D4, reduceNegSucc, reduceEq, reduceLeDiff, reduceSub, reduceAdd, D5, hF, hA, ↓reduceIte, reduceEqDiff, reduceLT]; with_reducible rfl) ?_
    (repeat first|apply V.seq|apply V.block|apply V.scope|apply V.skip|apply V.close)
    refine V.re [(3, PT H.next), (5, PT (H.next + 1)), (7, I u), (8, I ((ch (a + u) c : Nat) : Int)), (9, I ((cnt a b c u n q k + part a u c k : Nat) : Int)), (10, I k)] (N := 110) (by intro i; simp only [full_st, hF]) (by simp only [Kn, D5, hF, hA, ↓reduceIte, reduceEqDiff, reduceLT, and_self, and_true, true_and]; try (repeat' constructor)) ?_
    clear hF hA
    intro t hF hA
    simp only [Kn, and_true] at hA
    refine V.line' (by simp +contextual (disch := first|omega|simp only [nx];omega) only [D4, reduceNegSucc, reduceEq, reduceLeDiff, reduceSub, reduceAdd, D5, hF, hA, ↓reduceIte, reduceEqDiff, reduceLT, ek]; with_reducible rfl) ?_
    refine V.nil (Or.inl ⟨rfl, c + 1 - (k + 1), by omega, ?_⟩)
    have e4 : cnt a b c u n q (k + 1) = cnt a b c u n q k + part a u c k := by rw [hcs, hct]; simp
    refine ⟨k + 1, by omega, rfl, rfl, hg.trans ((((g06.trans gx7).trans gx8).trans gx9).trans gx10), ?_⟩
    rw [e4]
    exact ⟨(by intro i; simp only [full_st, hF]), (by simp only [Kn, D5, hF, hA, ↓reduceIte, reduceEqDiff, reduceLT, and_self, and_true, true_and]; try (repeat' constructor))⟩
  · obtain rfl : k = c + 1 := by omega
    have hfin := cnt_fin (q := q) (n := n) k1 (show u ≤ b by omega) k3 hl
    have hps := psum_all a u c
    have hcl := cnt_le a b c u n q (c + 1)
    have m1 : cnt a b c u n q (c + 1) * q ≤ 1125899906842624000 := Nat.le_trans (Nat.mul_le_mul (show cnt a b c u n q (c + 1) ≤ 1125899906842624 by omega) hq2) (by decide)
    have p1 : (0 : Int) ≤ (cnt a b c u n q (c + 1) : Nat) * (q : Int) := Int.mul_nonneg (by omega) (by omega)
    have p2 : (cnt a b c u n q (c + 1) : Nat) * (q : Int) ≤ 1125899906842624000 := by have := Int.ofNat_le.2 m1; rw [Int.natCast_mul] at this; omega
    have w1 : IntKind.i64.wrap ((cnt a b c u n q (c + 1) : Nat) * (q : Int)) = (cnt a b c u n q (c + 1) : Nat) * (q : Int) := wrap_i64 (by omega) (by omega)
    have w2 : IntKind.i64.wrap (((q : Int) - 2 * n) * (ch (a + u) c : Nat)) = ((q : Int) - 2 * n) * (ch (a + u) c : Nat) := by
      have b1 : ((q : Int) - 2 * n) * (ch (a + u) c : Nat) ≤ 1000 * 1125899906842624 := Int.le_trans (Int.mul_le_mul_of_nonneg_right (show (q : Int) - 2 * n ≤ 1000 by omega) (by omega)) (by omega)
      have b2 : (-1000) * 1125899906842624 ≤ ((q : Int) - 2 * n) * (ch (a + u) c : Nat) := Int.le_trans (by omega) (Int.mul_le_mul_of_nonneg_right (show (-1000 : Int) ≤ (q : Int) - 2 * n by omega) (by omega))
      exact wrap_i64 (by omega) (by omega)
    refine V.exit ?_
    (repeat first | refine V.pass ?_ | refine V.here ?_ | refine V.out (by decide) ?_)
    refine V.nil (Or.inr ⟨by simp, ?_⟩)
    (repeat first | refine V.pass ?_ | refine V.here ?_ | refine V.out (by decide) ?_)
    (repeat first|apply V.seq|apply V.block|apply V.scope|apply V.skip|apply V.close)
    refine V.run ?_
    refine VI.steps' 9 (by simp +contextual (disch := first|omega|simp only [nx];omega) only [D4, reduceNegSucc, reduceEq, reduceLeDiff, reduceSub, reduceAdd, D5, hF, hA, ↓reduceIte, reduceEqDiff, reduceLT, cx.2, w1, w2, hfin]; with_reducible rfl) ?_
    simp only [ds]
    refine VI.steps' 5 (by simp +contextual (disch := first|omega|simp only [nx];omega) only [D4, reduceNegSucc, reduceEq, reduceLeDiff, reduceSub, reduceAdd, D5, hF, hA, ↓reduceIte, reduceEqDiff, reduceLT, cx.2, w1, w2, hfin]; with_reducible rfl) ?_
    simp only [ds]
    refine VI.callAT (by simp only [D5, hF, hA, ↓reduceIte, reduceEqDiff, reduceLT]; try rfl) rfl (f24_ok _) (by simp only [D6, D5, hF, hA, ↓reduceIte, reduceEqDiff, reduceLT]; try rfl) (fun X11 gx11 => ?_)
    refine VI.line' (by simp +contextual (disch := first|omega|simp only [nx];omega) only [D4, reduceNegSucc, reduceEq, reduceLeDiff, reduceSub, reduceAdd, D5, hF, hA, ↓reduceIte, reduceEqDiff, reduceLT]; with_reducible rfl) ?_
    (repeat first|apply V.seq|apply V.block|apply V.scope|apply V.skip|apply V.close)
    refine V.ret (V.rets rfl (Lv.retF (by simp +contextual (disch := first|omega|simp only [nx];omega) only [D1, cells_alloc_at, cells_alloc_ne, cells_set_at, cells_set_ne, yres, yres1, yresL, reduceLeDiff, reduceSub, reduceAdd, D5, hF, hA, ↓reduceIte, reduceEqDiff, reduceLT]; rfl) ?_))
    rfl
end Go.Xe.TMX
