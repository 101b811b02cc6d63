/- What the functions of the layer round come to: the reference's sums, and fixes. Conditions: none. -/
import Derived.Test.YtimnlnfpblomnaaTSQ
import Derived.Test.YtimnlnfpblomnaaZu
-- MOD TR
namespace Go.Xe.TRX
open Go Go.Xe Go.Proofs
open Nat renaming reduceLeDiff → qA, reduceSub → qB, reduceAdd → qC, reduceEqDiff → qD, reduceLT → qE
open Int renaming reduceNegSucc → qF, reduceEq → qG
open Go.Xe.V renaming seq → sA, block → sB, scope → sC, skip → sD, close → sE
open Go.Xe renaming pth → P
open Go.Xe.Rnd
set_option maxRecDepth 100000
set_option maxHeartbeats 3200000
set_option linter.unusedSimpArgs false
def hol (T : Tb) (N : List (List Int)) : Prop:=∀ x∈T.F,(N.getD x.1.toNat []).getD x.2.1.toNat 0=x.2.2
instance (T : Tb) (N : List (List Int)) : Decidable (hol T N):=by unfold hol;infer_instance
def rsm (N : List (List Int)) : List Int:=N.map sm
end Go.Xe.TRX
/- What the functions of the layer round come to: the reference's IsRounding. Conditions: none. -/
-- MOD TR
namespace Go.Xe.TRX
open Go Go.Xe Go.Proofs
open Nat renaming reduceLeDiff → qA, reduceSub → qB, reduceAdd → qC, reduceEqDiff → qD, reduceLT → qE
open Int renaming reduceNegSucc → qF, reduceEq → qG
open Go.Xe.V renaming seq → sA, block → sB, scope → sC, skip → sD, close → sE
open Go.Xe renaming pth → P
open Go.Xe.Rnd
set_option maxRecDepth 100000
set_option maxHeartbeats 3200000
set_option linter.unusedSimpArgs false
def isn (b x n : Int) : Prop := x.tmod b = 0 ∧ 1 - b ≤ x - n ∧ x - n ≤ b - 1
instance (b x n : Int) : Decidable (isn b x n) := by unfold isn; infer_instance
theorem mul_eq {b x y : Int} (hb : 0 < b) (hx : x % b = 0) (hy : y % b = 0) (h1 : x - y < b) (h2 : y - x < b) : x = y := by
  obtain ⟨k, rfl⟩ := Int.dvd_of_emod_eq_zero hx
  obtain ⟨l, rfl⟩ := Int.dvd_of_emod_eq_zero hy
  rcases Int.lt_trichotomy k l with h | h | h
  · have : b * (k + 1) ≤ b * l := Int.mul_le_mul_of_nonneg_left (by omega) (by omega)
    rw [Int.mul_add] at this; omega
  · rw [h]
  · have : b * (l + 1) ≤ b * k := Int.mul_le_mul_of_nonneg_left (by omega) (by omega)
    rw [Int.mul_add] at this; omega
theorem lo_mul {b n : Int} (hb : 2 ≤ b) (hn : 0 ≤ n) : lo b n % b = 0 ∧ lo b n ≤ n ∧ n < lo b n + b ∧ 0 ≤ lo b n := by
  unfold lo
  rw [Int.tmod_eq_emod_of_nonneg hn]
  have h1 := Int.emod_nonneg n (show b ≠ 0 by omega)
  have h2 := Int.emod_lt_of_pos n (show 0 < b by omega)
  have h3 := Int.emod_add_mul_ediv n b
  have h4 : 0 ≤ b * (n / b) := Int.mul_nonneg (by omega) (Int.ediv_nonneg hn (by omega))
  refine ⟨?_, by omega, by omega, by omega⟩
  have : n - n % b = b * (n / b) := by omega
  rw [this]; simp
theorem isn_rd {b x n : Int} (hb : 2 ≤ b) (hn : 0 ≤ n) (hx : 0 ≤ x) : isn b x n ↔ rd b x n := by
  obtain ⟨l1, l2, l3, _⟩ := lo_mul hb hn
  obtain ⟨h1, h2, h3, _⟩ := lo_mul hb (show 0 ≤ n + b - 1 by omega)
  have hh : hi b n = lo b (n + b - 1) := rfl
  rw [← hh] at h1 h2 h3
  unfold isn rd
  rw [Int.tmod_eq_emod_of_nonneg hx]
  constructor
  · rintro ⟨a, b1, b2⟩
    by_cases hxn : x ≤ n
    · left; exact mul_eq (by omega) a l1 (by omega) (by omega)
    · right; exact mul_eq (by omega) a h1 (by omega) (by omega)
  · rintro (rfl | rfl)
    · exact ⟨l1, by omega, by omega⟩
    · exact ⟨h1, by omega, by omega⟩
def rir (T : Tb) (N : List (List Int)) : Prop := hol T N ∧ (∀ r, r < N.length → ∀ k, k < (N.getD r []).length → isn T.b ((N.getD r []).getD k 0) ((T.C.getD r []).getD k 0)) ∧
  (∀ r, r < N.length → isn T.b (sm (N.getD r [])) (sm (T.C.getD r []))) ∧ (∀ k, k < cols T → isn T.b (due N k) (due T.C k)) ∧ isn T.b (sm (rsm N)) (sm (rsm T.C))
theorem l4_sum : ∀ {N : List (List Int)}, (∀ r ∈ N, r.length ≤ 4) → sm (l4 (due N)) = sm (rsm N)
  | [], _ => rfl
  | r :: N, h => by
    have ih := l4_sum (N := N) (fun x hx => h x (by simp [hx]))
    have hr := h r (by simp)
    have hd : ∀ i, due (r :: N) i = r.getD i 0 + due N i := fun i => by simp [due, sm]
    have hrs : r.getD 0 0 + r.getD 1 0 + r.getD 2 0 + r.getD 3 0 = sm r := by
      match r, hr with
      | [], _ => simp [sm]
      | [a], _ => simp [sm]
      | [a, b], _ => simp [sm]
      | [a, b, c], _ => simp [sm]; omega
      | [a, b, c, d], _ => simp [sm]; omega
      | _ :: _ :: _ :: _ :: _ :: _, h => simp at h
    have e : sm (rsm (r :: N)) = sm r + sm (rsm N) := rfl
    rw [e, ← ih]
    simp only[l4, sm, hd]
    omega
theorem due_out {N : List (List Int)} {n i : Nat} (h : ∀ r ∈ N, r.length = n) (hi : n ≤ i) : due N i = 0 := by
  unfold due
  have : N.map (fun r => r.getD i 0) = N.map (fun _ => (0 : Int)) := by
    apply List.map_congr_left
    intro r hr
    rw [List.getD_eq_getElem?_getD, List.getElem?_eq_none (by rw [h r hr]; exact hi)]; rfl
  rw [this]
  clear this h
  induction N with
  | nil => rfl
  | cons r N ih => simp only[List.map_cons, sm, ih]; rfl
theorem due_nn {N : List (List Int)} (h : ∀ r ∈ N, ∀ v ∈ r, 0 ≤ v ∧ v ≤ 20000) (i : Nat) : 0 ≤ due N i := (due_bd h i).1
theorem rir_isr {T : Tb} {N : List (List Int)} (hf : fits T) (hv : valid T) (hc : can T N) : rir T N ↔ isr T N := by
  obtain ⟨f1, f2, f3⟩ := hf
  obtain ⟨hb, v2, v3, v4⟩ := hv
  obtain ⟨c1, c2⟩ := hc
  have nC : ∀ r ∈ T.C, ∀ v ∈ r, 0 ≤ v ∧ v ≤ 20000 := fun r hr v hv => by have := (v3 r hr).2 v hv; omega
  have nN : ∀ r ∈ N, ∀ v ∈ r, 0 ≤ v ∧ v ≤ 20000 := fun r hr v hv => by have := (c2 r hr).2 v hv; omega
  have hcell : ∀ r, r < N.length → ∀ k, k < (N.getD r []).length → (isn T.b ((N.getD r []).getD k 0) ((T.C.getD r []).getD k 0) ↔ rd T.b ((N.getD r []).getD k 0) ((T.C.getD r []).getD k 0)) := by
    intro r hr k hk
    rw [gdl hr] at hk ⊢
    have hrc : r < T.C.length := by omega
    rw [gdl hrc]
    have q1 := (c2 _ (List.getElem_mem hr)).1
    have q2 := (v3 _ (List.getElem_mem hrc)).1
    exact isn_rd hb.1 (nC _ (List.getElem_mem hrc) _ (getD_mem (by omega))).1 (nN _ (List.getElem_mem hr) _ (getD_mem hk)).1
  have hrow : ∀ r, r < N.length → (isn T.b (sm (N.getD r [])) (sm (T.C.getD r [])) ↔ rd T.b (sm (N.getD r [])) (sm (T.C.getD r []))) := by
    intro r hr
    have hrc : r < T.C.length := by omega
    rw [gdl hr, gdl hrc]
    exact isn_rd hb.1 (sm_bound (nC _ (List.getElem_mem hrc))).1 (sm_bound (nN _ (List.getElem_mem hr))).1
  have hcol : ∀ k, isn T.b (due N k) (due T.C k) ↔ rd T.b (due N k) (due T.C k) := fun k => isn_rd hb.1 (due_nn nC k) (due_nn nN k)
  have hsum : ∀ M : List (List Int), (∀ r ∈ M, ∀ v ∈ r, 0 ≤ v ∧ v ≤ 20000) → 0 ≤ sm (rsm M) := by
    intro M hM
    induction M with
    | nil => exact Int.le_refl _
    | cons r M ih =>
      have h1 := (sm_bound (hM r (by simp))).1
      have h2 := ih (fun x hx => hM x (by simp [hx]))
      have : sm (rsm (r :: M)) = sm r + sm (rsm M) := rfl
      omega
  have htot : isn T.b (sm (rsm N)) (sm (rsm T.C)) ↔ rd T.b (sm (rsm N)) (sm (rsm T.C)) := isn_rd hb.1 (hsum _ nC) (hsum _ nN)
  have hl4N := l4_sum (N := N) (fun r hr => by have := (c2 r hr).1; have := (v3 r); have hcl : cols T ≤ 4 := by
                                                rw [← cols_0 (T := T) (by
                                                  have := List.length_pos_of_mem hr
                                                  omega)]
                                                exact f3 _ (List.getElem_mem _)
                                               omega)
  have hl4C := l4_sum (N := T.C) f3
  have hholkp : hol T N ↔ ∀ r, r < N.length → kp T r (N.getD r []) := by
    constructor
    · intro h r hr k hk x hx e1 e2
      have := h x hx
      rw [e1, e2, Int.toNat_natCast, Int.toNat_natCast] at this
      rw [← this, gD hk]
    · intro h x hx
      have hfx := v4 x hx
      unfold fixOk at hfx
      have hr : x.1.toNat < N.length := by omega
      have q1 := (c2 _ (List.getElem_mem hr)).1
      have hk : x.2.1.toNat < (N.getD x.1.toNat []).length := by rw [gdl hr]; omega
      have := h x.1.toNat hr x.2.1.toNat hk x hx (by omega) (by omega)
      rw [this, gD hk]
  unfold rir isr al als
  rw [hholkp, hl4N, hl4C]
  constructor
  · rintro ⟨a, b, c, d, e⟩
    refine ⟨fun r hr => ⟨fun k hk => (hcell r hr k hk).1 (b r hr k hk), (hrow r hr).1 (c r hr), a r hr⟩, fun i _ => ?_, htot.1 e⟩
    by_cases hi : i < cols T
    · exact (hcol i).1 (d i hi)
    · rw [due_out (fun r hr => (c2 r hr).1) (by omega), due_out (fun r hr => (v3 r hr).1) (by omega)]
      left; unfold lo; simp
  · rintro ⟨a, b, c⟩
    exact ⟨fun r hr => (a r hr).2.2, fun r hr k hk => (hcell r hr k hk).2 ((a r hr).1 k hk), fun r hr => (hrow r hr).2 (a r hr).2.1, fun k hk => (hcol k).2 (b k (by
      have : cols T ≤ 4 := by
        by_cases h0 : 0 < T.C.length
        · rw [← cols_0 h0]; exact f3 _ (List.getElem_mem h0)
        · have : T.C = [] := List.length_eq_zero_iff.1 (by omega)
          simp [cols, this]
      omega)), htot.2 c⟩
end Go.Xe.TRX
/- What the functions of the layer round come to: the reference's IsRounding, the function. Conditions: none. -/
-- MOD TR
namespace Go.Xe.TRX
open Go Go.Xe Go.Proofs
open Nat renaming reduceLeDiff → qA, reduceSub → qB, reduceAdd → qC, reduceEqDiff → qD, reduceLT → qE
open Int renaming reduceNegSucc → qF, reduceEq → qG
open Go.Xe.V renaming seq → sA, block → sB, scope → sC, skip → sD, close → sE
open Go.Xe renaming pth → P
open Go.Xe.Rnd
set_option maxRecDepth 100000
set_option maxHeartbeats 3200000
set_option linter.unusedSimpArgs false
instance (T : Tb) (N : List (List Int)) : Decidable (rir T N):=by unfold rir;infer_instance
end Go.Xe.TRX
/- The statement RoundChanges: the function. Conditions: none. -/
-- MOD TR
namespace Go.Xe.TRX
open Go Go.Xe Go.Proofs
open Nat renaming reduceLeDiff → qA, reduceSub → qB, reduceAdd → qC, reduceEqDiff → qD, reduceLT → qE
open Int renaming reduceNegSucc → qF, reduceEq → qG
open Go.Xe.V renaming seq → sA, block → sB, scope → sC, skip → sD, close → sE
open Go.Xe renaming pth → P
open Go.Xe.Rnd
set_option maxRecDepth 100000
set_option maxHeartbeats 3200000
set_option linter.unusedSimpArgs false
noncomputable def d16 : FCode:=(.seq (.run (.go (.move (.con (.bool false))) (P 2)::
[])) (.seq (.seq (.run (.go (.move (.con (.int .i64 (.ofNat 0)))) (P 3)::
[])) (.block 0 (.loop (.seq (.seq (.run (.go (.move (tm 3)) (P 4)::
.go (.move (tm 0)) (P 5)::
.go (.len 0 (tm 5)) (P 6)::
.go (.bin .lss 3 (tm 4) (tm 6)) (P 7)::
.go (.move (tm 7)) (P 8)::
.gd (P 8) true (.move (tm 3)) (P 9)::
.gd (P 8) true (.bin .lss 3 (tm 9) (.con (.int .i64 (.ofNat 9)))) (P 10)::
.go (.pick (tm 8) (tm 10) (.con (.bool false))) (P 11)::
[])) (.cond (tm 11) .skip (.exit 0))) (.seq (.block 1 (.seq (.run (.go (.move (tm 0)) (P 14)::
.go (.move (tm 3)) (P 15)::
.go (.indexAddr none 1 (tm 14) (tm 15)) (P 16)::
.go (.load1 (tm 16)) (P 17)::
.go (.len 0 (tm 17)) (P 18)::
.go (.bin .gtr 3 (tm 18) (.con (.int .i64 (.ofNat 7)))) (P 19)::
[])) (.cond (tm 19) (.seq (.run (.go (.move (.con (.bool false))) (P 2)::
[])) .ret) .skip))) (.run (.go (.move (tm 3)) (P 12)::
.go (.bin .add 3 (tm 12) (.con (.int .i64 (.ofNat 1)))) (P 13)::
.go (.move (tm 13)) (P 3)::
[]))))))) (.seq (.run (.go (.move (tm 0)) (P 20)::
.go (.len 0 (tm 20)) (P 21)::
.go (.bin .leq 3 (tm 21) (.con (.int .i64 (.ofNat 8)))) (P 22)::
.go (.move (tm 22)) (P 2)::
[])) .ret)))
theorem de16 : @compF Try.prog (Gl.none Try.prog) Try.f16 1=.mk d16 (mkTT 23) [(P 0)] [.tmp (P 2)]:=by kernel_rfl
theorem dg16 : Try.prog.funcs[16]?=some Try.f16:=Try.func16
theorem do16 : okF Try.prog Try.f16=true:=by kernel_rfl
noncomputable def d15 : FCode:=(.seq (.run (.go (.box 25 (tm 0)) (P 1)::
.go (.move (.con (.bool false))) (P 2)::
[])) (.seq (.run (.go (.fieldAddr 1 (tm 1)) (P 3)::
.go (.load1 (tm 3)) (P 4)::
.go (.call (.con (.func (.func 16) ⟨[]⟩ ⟨[]⟩)) [tm 4]) (P 5)::
.go (.move (tm 5)) (P 6)::
.gd (P 6) true (.fieldAddr 2 (tm 1)) (P 7)::
.gd (P 6) true (.load1 (tm 7)) (P 8)::
.gd (P 6) true (.len 0 (tm 8)) (P 9)::
.gd (P 6) true (.bin .leq 3 (tm 9) (.con (.int .i64 (.ofNat 13)))) (P 10)::
.go (.pick (tm 6) (tm 10) (.con (.bool false))) (P 11)::
.go (.move (tm 11)) (P 2)::
[])) .ret))
theorem de15 : @compF Try.prog (Gl.none Try.prog) Try.f15 1=.mk d15 (mkTT 12) [(P 0)] [.tmp (P 2)]:=by kernel_rfl
theorem dg15 : Try.prog.funcs[15]?=some Try.f15:=Try.func15
theorem do15 : okF Try.prog Try.f15=true:=by kernel_rfl
noncomputable def d3 : FCode:=(.seq (.run (.go (.box 25 (tm 0)) (P 3)::
.go (.move (.con (.bool false))) (P 6)::
[])) (.seq (.seq (.run (.go (.loadN 3 (tm 3)) (P 15)::
.go (.call (.con (.func (.func 15) ⟨[]⟩ ⟨[]⟩)) [tm 15]) (P 16)::
.go (.un .not (tm 16)) (P 17)::
.go (.move (tm 17)) (P 18)::
.gd (P 18) false (.move (tm 1)) (P 19)::
.gd (P 18) false (.call (.con (.func (.func 16) ⟨[]⟩ ⟨[]⟩)) [tm 19]) (P 20)::
.gd (P 18) false (.un .not (tm 20)) (P 21)::
.go (.pick (tm 18) (.con (.bool true)) (tm 21)) (P 22)::
[])) (.cond (tm 22) (.seq (.run (.go (.call (.con (.func (.func 17) ⟨[]⟩ ⟨[]⟩)) []) (P 23)::
.go (.move (tm 23)) (P 6)::
[])) .ret) .skip)) (.seq (.run (.go (.loadN 3 (tm 3)) (P 24)::
.go (.call (.con (.func (.func 19) ⟨[]⟩ ⟨[]⟩)) [tm 24]) (P 25)::
.go (.call (.con (.func (.func 18) ⟨[]⟩ ⟨[]⟩)) [tm 25]) (P 26)::
.go (.move (tm 26)) (P 7)::
[])) (.seq (.run (.go (.loadN 3 (tm 3)) (P 28)::
.go (.call (.con (.func (.func 19) ⟨[]⟩ ⟨[]⟩)) [tm 28]) (P 29)::
.go (.move (tm 1)) (P 30)::
.go (.call (.con (.func (.func 21) ⟨[]⟩ ⟨[]⟩)) [tm 30]) (P 31)::
.go (.call (.con (.func (.func 20) ⟨[]⟩ ⟨[]⟩)) [(tm 29),(tm 31)]) (P 32)::
.go (.move (tm 32)) (P 27)::
.go (.extract (tm 27) 0) (P 33)::
.go (.extract (tm 27) 1) (P 34)::
.go (.move (tm 33)) (P 8)::
.go (.move (tm 34)) (P 9)::
[])) (.seq (.run (.go (.loadN 3 (tm 3)) (P 35)::
.go (.call (.con (.func (.func 19) ⟨[]⟩ ⟨[]⟩)) [tm 35]) (P 36)::
.go (.move (tm 1)) (P 37)::
.go (.call (.con (.func (.func 21) ⟨[]⟩ ⟨[]⟩)) [tm 37]) (P 38)::
.go (.move (tm 2)) (P 39)::
.go (.call (.con (.func (.func 22) ⟨[]⟩ ⟨[]⟩)) [(tm 36),(tm 38),(tm 39)]) (P 40)::
.go (.move (tm 40)) (P 10)::
[])) (.seq (.run (.go (.loadN 3 (tm 3)) (P 41)::
.go (.call (.con (.func (.func 23) ⟨[]⟩ ⟨[]⟩)) [tm 41]) (P 42)::
.go (.move (tm 42)) (P 11)::
[])) (.seq (.seq (.run (.go (.move (tm 7)) (P 43)::
.go (.move (tm 11)) (P 44)::
.go (.bin .neq 29 (tm 43) (tm 44)) (P 45)::
[])) (.cond (tm 45) (.seq (.run (.go (.move (.con (.bool false))) (P 6)::
[])) .ret) .skip)) (.seq (.seq (.run (.go (.move (tm 11)) (P 46)::
.go (.bin .eql 29 (tm 46) (.con (.int .i64 (.ofNat 0)))) (P 47)::
.go (.move (tm 47)) (P 48)::
.gd (P 48) true (.loadN 3 (tm 3)) (P 49)::
.gd (P 48) true (.move (tm 1)) (P 50)::
.gd (P 48) true (.call (.con (.func (.func 24) ⟨[]⟩ ⟨[]⟩)) [(tm 49),(tm 50)]) (P 51)::
.gd (P 48) true (.un .not (tm 51)) (P 52)::
.go (.pick (tm 48) (tm 52) (.con (.bool false))) (P 53)::
[])) (.cond (tm 53) (.run (.go (.move (.con (.int .i64 (.ofNat 2)))) (P 11)::
[])) .skip)) (.seq (.seq (.run (.go (.move (.con (.int .i64 (.ofNat 0)))) (P 12)::
[])) (.block 0 (.loop (.seq (.seq (.run (.go (.move (tm 12)) (P 54)::
.go (.move (tm 1)) (P 55)::
.go (.len 0 (tm 55)) (P 56)::
.go (.bin .lss 3 (tm 54) (tm 56)) (P 57)::
.go (.move (tm 57)) (P 58)::
.gd (P 58) true (.move (tm 11)) (P 59)::
.gd (P 58) true (.bin .eql 29 (tm 59) (.con (.int .i64 (.ofNat 0)))) (P 60)::
.go (.pick (tm 58) (tm 60) (.con (.bool false))) (P 61)::
[])) (.cond (tm 61) .skip (.exit 0))) (.seq (.block 1 (.seq (.run (.go (.move (.con (.int .i64 (.ofNat 0)))) (P 13)::
[])) (.block 2 (.loop (.seq (.seq (.run (.go (.move (tm 13)) (P 64)::
.go (.move (tm 1)) (P 65)::
.go (.move (tm 12)) (P 66)::
.go (.indexAddr none 1 (tm 65) (tm 66)) (P 67)::
.go (.load1 (tm 67)) (P 68)::
.go (.len 0 (tm 68)) (P 69)::
.go (.bin .lss 3 (tm 64) (tm 69)) (P 70)::
[])) (.cond (tm 70) .skip (.exit 2))) (.seq (.block 3 (.seq (.run (.go (.move (tm 1)) (P 73)::
.go (.move (tm 12)) (P 74)::
.go (.indexAddr none 1 (tm 73) (tm 74)) (P 75)::
.go (.load1 (tm 75)) (P 76)::
.go (.move (tm 13)) (P 77)::
.go (.indexAddr none 1 (tm 76) (tm 77)) (P 78)::
.go (.load1 (tm 78)) (P 79)::
.go (.call (.con (.func (.func 25) ⟨[]⟩ ⟨[]⟩)) [(tm 79),(.con (.int .i64 (.ofNat 0))),(.con (.int .i64 (.ofNat 10100)))]) (P 80)::
.go (.un .not (tm 80)) (P 81)::
[])) (.cond (tm 81) (.run (.go (.move (.con (.int .i64 (.ofNat 2)))) (P 11)::
[])) .skip))) (.run (.go (.move (tm 13)) (P 71)::
.go (.bin .add 3 (tm 71) (.con (.int .i64 (.ofNat 1)))) (P 72)::
.go (.move (tm 72)) (P 13)::
[])))))))) (.run (.go (.move (tm 12)) (P 62)::
.go (.bin .add 3 (tm 62) (.con (.int .i64 (.ofNat 1)))) (P 63)::
.go (.move (tm 63)) (P 12)::
[]))))))) (.seq (.seq (.run (.go (.move (tm 11)) (P 82)::
.go (.bin .neq 29 (tm 82) (.con (.int .i64 (.ofNat 0)))) (P 83)::
[])) (.cond (tm 83) (.seq (.run (.go (.move (tm 9)) (P 84)::
.go (.move (tm 11)) (P 85)::
.go (.bin .eql 29 (tm 84) (tm 85)) (P 86)::
.go (.move (tm 86)) (P 87)::
.gd (P 87) true (.move (tm 8)) (P 88)::
.gd (P 87) true (.bin .eql 3 (tm 88) (.con (.int .i64 (.ofNat 0)))) (P 89)::
.go (.pick (tm 87) (tm 89) (.con (.bool false))) (P 90)::
.go (.move (tm 90)) (P 91)::
.gd (P 91) true (.move (tm 10)) (P 92)::
.gd (P 91) true (.un .not (tm 92)) (P 93)::
.go (.pick (tm 91) (tm 93) (.con (.bool false))) (P 94)::
.go (.move (tm 94)) (P 95)::
.gd (P 95) true (.call (.con (.func (.func 17) ⟨[]⟩ ⟨[]⟩)) []) (P 96)::
.go (.pick (tm 95) (tm 96) (.con (.bool false))) (P 97)::
.go (.move (tm 97)) (P 6)::
[])) .ret) .skip)) (.seq (.run (.go (.loadN 3 (tm 3)) (P 98)::
.go (.move (tm 1)) (P 99)::
.go (.call (.con (.func (.func 26) ⟨[]⟩ ⟨[]⟩)) [(tm 98),(tm 99)]) (P 100)::
.go (.move (tm 100)) (P 14)::
[])) (.seq (.run (.go (.move (tm 9)) (P 101)::
.go (.bin .eql 29 (tm 101) (.con (.int .i64 (.ofNat 0)))) (P 102)::
.go (.move (tm 102)) (P 103)::
.gd (P 103) true (.move (tm 8)) (P 104)::
.gd (P 103) true (.move (tm 14)) (P 105)::
.gd (P 103) true (.bin .eql 3 (tm 104) (tm 105)) (P 106)::
.go (.pick (tm 103) (tm 106) (.con (.bool false))) (P 107)::
.go (.move (tm 107)) (P 108)::
.gd (P 108) true (.move (tm 10)) (P 109)::
.gd (P 108) true (.loadN 3 (tm 3)) (P 110)::
.gd (P 108) true (.move (tm 1)) (P 111)::
.gd (P 108) true (.call (.con (.func (.func 27) ⟨[]⟩ ⟨[]⟩)) [(tm 110),(tm 111)]) (P 112)::
.gd (P 108) true (.move (tm 112)) (P 113)::
.gd (P 113) true (.move (tm 14)) (P 114)::
.gd (P 113) true (.move (tm 2)) (P 115)::
.gd (P 113) true (.bin .leq 3 (tm 114) (tm 115)) (P 116)::
.gd (P 108) true (.pick (tm 113) (tm 116) (.con (.bool false))) (P 117)::
.gd (P 108) true (.bin .eql 4 (tm 109) (tm 117)) (P 118)::
.go (.pick (tm 108) (tm 118) (.con (.bool false))) (P 119)::
.go (.move (tm 119)) (P 120)::
.gd (P 120) true (.call (.con (.func (.func 17) ⟨[]⟩ ⟨[]⟩)) []) (P 121)::
.go (.pick (tm 120) (tm 121) (.con (.bool false))) (P 122)::
.go (.move (tm 122)) (P 6)::
[])) .ret))))))))))))
def few (L : List (List Int)) : Prop:=(∀ row∈L.take 9,row.length≤7)∧L.length≤8
instance (L : List (List Int)) : Decidable (few L):=by unfold few;infer_instance
theorem few_all {L : List (List Int)} (h : few L) : ∀ row∈L,row.length≤7:=by
 obtain⟨h1,h2⟩:=h
 rwa [List.take_of_length_le (by omega)] at h1
theorem f16_ok {H : Heap} {y : Value} {L : List (List Int)} (hy : Nest RI H y L) : Gives Try.prog 16 [y] H (.bool (decide (few L))):=by
 have hln : ∀ X,ylen 0 X y=some (I L.length):=hy.len
 refine F.entryL rfl dg16 do16 de16 rfl (by kernel_rfl) ?_
 simp only[sets]
 refine V.re [(0,y)] (N:=23) zE zY ?_
 intro t hF hA
 simp only[Kn,and_true] at hA
 refine zS ?_
 refine V.l0 ?_
 refine zS ?_
 refine V.l0 ?_
 refine zS ?_
 refine V.loop (fun z t m X=>∃ (k : Nat),k≤L.length∧k≤9∧z=9-k∧m=[]∧X=H∧(∀ row∈L.take k,row.length≤7)∧Full 23 t∧Kn [(0,y),(3,I k)] t) 9 ?_ ?_
 ·exact⟨0,by omega,by omega,by omega,rfl,rfl,by simp,zF,zK⟩
 clear hF hA
 rintro z t m X ⟨k,hk,hk9,rfl,rfl,hX,hall,hF,hA⟩
 obtain rfl : H=X:=hX.symm
 simp only[Kn,and_true] at hA
 refine zS ?_
 have zf:=@hln
 refine V.lz ?_
 refine zS ?_
 refine V.condP zP (fun hlt=>?_) (fun hlt=>?_)
 ·have hlt' : k<L.length∧k<9:=by omega
  obtain⟨p,x,hp,hx⟩:=hy.at ri hlt'.1
  obtain⟨hx1,hx2⟩:=hx H (.refl _)
  have hpk:=hp .i64
  have hxl:=hx2.len
  refine zS ?_
  have zf:=And.intro @hpk<|And.intro @hx1<|@hxl
  refine V.lz ?_
  refine zS ?_
  refine V.condP zP (fun h7=>?_) (fun h7=>?_)
  ·refine zS ?_
   refine V.l0 ?_
   refine zS ?_
   refine V.ret (V.rets rfl (Or.inr ⟨by simp,V.rets rfl (Lv.retG (by simp +contextual (disch:=first|omega|simp only[nx];omega) only[D1,cells_alloc_at,cells_alloc_ne,cells_set_at,cells_set_ne,yres,yres1,yresL,qA,qB,qC,D5,hF,hA,↓reduceIte,qD,qE];rfl) ?_ ?_)⟩))
   ·exact .refl _
   ·refine congrArg _ (decide_eq_false (fun hh=>?_)).symm
    have:=hh.1 L[k] (List.mem_take_iff_getElem.2 ⟨k,by omega,rfl⟩)
    omega
  ·refine zS ?_
   refine V.l0 ?_
   refine V.nil (Or.inl ⟨rfl,9-(k+1),by omega,?_⟩)
   refine⟨k+1,by omega,by omega,rfl,rfl,rfl,?_,zF,zK⟩
   intro row hr
   rw[tk1 hlt'.1] at hr
   rcases List.mem_append.1 hr with hr|hr
   ·exact hall row hr
   ·rw[List.mem_singleton.1 hr];omega
 ·refine V.exit ?_
  refine zX ?_
  refine V.nil (Or.inr ⟨by simp,?_⟩)
  refine zX ?_
  have hDe : L.take 9=L.take k:=by
   rcases (show k=9∨k=L.length by omega) with e|e
   ·rw[e]
   ·rw[e,List.take_length,List.take_of_length_le (by omega)]
  rw[← hDe] at hall
  refine zS ?_
  have zf:=@hln
  refine V.lz ?_
  refine zS ?_
  refine V.ret (V.rets rfl (Lv.retG (by simp +contextual (disch:=first|omega|simp only[nx];omega) only[D1,cells_alloc_at,cells_alloc_ne,cells_set_at,cells_set_ne,yres,yres1,yresL,qA,qB,qC,D5,hF,hA,↓reduceIte,qD,qE];rfl) ?_ ?_))
  ·exact .refl _
  ·congr 1
   rw[decide_eq_decide]
   exact⟨fun hh=>⟨hall,by omega⟩,fun hh=>by have:=hh.2;omega⟩
def thin (T : Tb) : Prop:=few T.C∧T.F.length≤13
instance (T : Tb) : Decidable (thin T):=by unfold thin;infer_instance
theorem thin_sh {T : Tb} (h : thin T) : sh T:=⟨by have:=h.1.2;omega,fun row hr=>by have:=few_all h.1 row hr;omega,by have:=h.2;omega⟩
theorem f15_ok {H : Heap} {c f : Value} {T : Tb} (h : TV H c f T) : Gives Try.prog 15 [.agg ⟨[I T.b,c,f]⟩] H (.bool (decide (thin T))):=by
 have hlf:=h.fl
 refine F.entryL rfl dg15 do15 de15 rfl (by kernel_rfl) ?_
 simp only[sets]
 refine V.re [(0,.agg ⟨[I T.b,c,f]⟩)] (N:=12) zE zY ?_
 intro t hF hA
 simp only[Kn,and_true] at hA
 refine zS ?_
 refine V.l0 ?_
 refine V.heap (fun X=>Grow H X∧Bx X H.next [I T.b,c,f] 25) ⟨?_,?_⟩ ?_
 ·exact zW
 ·exact zB
 rintro H1 ⟨g1,b1⟩
 refine zS ?_
 refine V.run ?_
 have zf:=b1.2
 refine VI.sz 2 ?_
 simp only[ds]
 refine VI.callA rfl (f16_ok (h.c.grow ri g1)) zA (fun H2 g2=>?_)
 have b2:=b1.grow g2
 have zf:=And.intro b2.2<|@hlf
 refine VI.lz ?_
 refine zS ?_
 refine V.ret (V.rets rfl (Lv.retG (by simp +contextual (disch:=first|omega|simp only[nx];omega) only[D1,cells_alloc_at,cells_alloc_ne,cells_set_at,cells_set_ne,yres,yres1,yresL,qA,qB,qC,D5,hF,hA,↓reduceIte,qD,qE];rfl) ?_ ?_))
 ·exact g1.trans g2
 ·congr 1
  rw[decide_eq_decide]
  unfold thin
  constructor
  ·rintro⟨a,b⟩;exact⟨a,by omega⟩
  ·rintro⟨a,b⟩;exact⟨a,by omega⟩
def K (T : Tb) (N : List (List Int)) (r : Nat) (W : Int) : Prop:=(W=0∧flt T=0∧((∀ row∈N,row.length=cols T)∧N.length=T.C.length)∧∀ row∈N.take r,∀ v∈row,0≤v∧v≤10100)∨(W=ce T N∧W≠0)
end Go.Xe.TRX
/- Rules of reasoning over the executable reading of the model's code (part Z23): a slice of any shape that came in. Conditions: none; for every program. -/
namespace Go.Xe
open Go Go.RowKit Go.ChangeShapes Go.WideShapes
end Go.Xe
/- Tables and roundings that come in: what lies where. Conditions: none. -/
namespace Go.Xe.TRX
open Go Go.Xe Go.Proofs
open Go.Xe.Rnd
abbrev shIs : Sh:=.slice 1 (.int .i64)
abbrev shNs : Sh:=.slice 1 shIs
abbrev shR3 : Sh:=.pair (.int .i64) (.pair (.int .i64) (.pair (.int .i64) .unit))
abbrev shTb : Sh:=.pair (.int .i64) (.pair shNs (.pair (.slice 3 shR3) .unit))
theorem ri_of {A : Heap} {cs : List Value} {y : Ty shIs} (h : Sem A shIs cs y) : ∃ v L,cs=[v]∧RI A v L:=by
 obtain⟨v,rows,rfl,h1,h2,_,h3⟩:=h
 refine⟨v,y,rfl,?_⟩
 have e : rows=((y : List Int).map I).map fun x=>[x]:=by
  apply List.ext_getElem
  ·simp[h2]
  ·intro k k1 k2
   have hk : k<(y : List Int).length:=by omega
   obtain⟨e1,_⟩:=h3 k rows[k] ((y : List Int)[k]) (by simp) (by simp[hk])
   rw[e1]
   simp
 rw[e] at h1
 exact h1.one
theorem nest_of {A : Heap} {cs : List Value} {y : Ty shNs} (h : Sem A shNs cs y) : ∃ v L,cs=[v]∧Nest RI A v L:=by
 obtain⟨v,rows,rfl,h1,h2,_,h3⟩:=h
 obtain⟨Z,hz1,hz2⟩:=list_of (α:=Value×List Int) (p:=fun i x=>rows[i]?=some [x.1]∧RI A x.1 x.2) rows.length (fun i hi=>by
  have hk : i<(y : List (Ty shIs)).length:=by omega
  obtain⟨v,L,e,hr⟩:=ri_of (h3 i rows[i] ((y : List (Ty shIs))[i]) (by simp) (by simp[hk]))
  exact⟨(v,L),by simp[hi,e],hr⟩)
 refine⟨v,Z.map (·.2),rfl,Z.map (·.1),?_,by simp,?_⟩
 ·have e : rows=(Z.map (·.1)).map fun x=>[x]:=by
   apply List.ext_getElem
   ·simp[hz1]
   ·intro k k1 k2
    have:=(hz2 k Z[k] (by simp[hz1,k1])).1
    rw[List.getElem?_eq_getElem k1,Option.some.injEq] at this
    rw[this]
    simp
  rw[e] at h1
  exact h1.one
 ·intro k x r hx hr
  rw[List.getElem?_map] at hx hr
  cases hq : Z[k]? with
  | none=>rw[hq] at hx;cases hx
  | some q=>
   rw[hq] at hx hr
   cases hx;cases hr
   exact (hz2 k q hq).2
theorem sw3_of {A : Heap} {cs : List Value} {y : Ty (.slice 3 shR3)} (h : Sem A (.slice 3 shR3) cs y) : ∃ v,∃ L : List R3,cs=[v]∧Sw 3 A v (L.map r3):=by
 obtain⟨v,rows,rfl,h1,h2,_,h3⟩:=h
 refine⟨v,(y : List (Ty shR3)).map fun x=>(x.1,x.2.1,x.2.2.1),rfl,?_⟩
 have e : rows=((y : List (Ty shR3)).map fun x=>(x.1,x.2.1,x.2.2.1)).map r3:=by
  apply List.ext_getElem
  ·simp[h2]
  ·intro k k1 k2
   have hk : k<(y : List (Ty shR3)).length:=by omega
   obtain⟨c1,c2,e1,⟨rfl,_⟩,d1,d2,e2,⟨rfl,_⟩,f1,f2,e3,⟨rfl,_⟩,e5⟩:=h3 k rows[k] ((y : List (Ty shR3))[k]) (by simp) (by simp[hk])
   rw[e1,e2,e3,e5]
   simp[r3]
 have:=h1.sw
 rw[e] at this
 exact this
theorem tb_of {A : Heap} {l : List Value} {y : Ty shTb} (h : Sem A shTb l y) : ∃ c f,∃ T : Tb,l=[I T.b,c,f]∧TV A c f T:=by
 obtain⟨c1,c2,rfl,⟨rfl,_⟩,d1,d2,rfl,h2,e1,e2,rfl,h3,h4⟩:=h
 obtain⟨c,C,rfl,hc⟩:=nest_of h2
 obtain⟨f,F,rfl,hf⟩:=sw3_of h3
 have h4' : e2=[]:=h4
 subst h4'
 exact⟨c,f,⟨_,C,F⟩,rfl,hc,hf⟩
end Go.Xe.TRX
