/- What the statement AgeCounts comes to. Conditions: none. -/
import Derived.Test.YtefoodhfkkcmcaaZo
import Derived.Test.YtefoodhfkkcmcaaTAJ
-- MOD TA
namespace Go.Xe.TAX
open Go Go.Xe Go.Proofs
set_option maxRecDepth 100000
set_option maxHeartbeats 3200000
set_option linter.unusedSimpArgs false
noncomputable def d4 : FCode := (.seq (.run (.go (.box 23 (.tmp (pth 0))) (pth 3) ::
.go (.box 47 (.tmp (pth 2))) (pth 5) ::
.go (.move (.con (.bool false))) (pth 6) ::
[])) (.seq (.seq (.run (.go (.move (.tmp (pth 1))) (pth 17) ::
.go (.len 0 (.tmp (pth 17))) (pth 18) ::
.go (.bin .gtr 3 (.tmp (pth 18)) (.con (.int .i64 (.ofNat 220)))) (pth 19) ::
[])) (.cond (.tmp (pth 19)) (.seq (.run (.go (.call (.con (.func (.func 26) ⟨[]⟩ ⟨[]⟩)) []) (pth 20) ::
.go (.move (.tmp (pth 20))) (pth 6) ::
[])) .ret) .skip)) (.seq (.draw 16 (.go (.loadN 4 (.tmp (pth 3))) (pth 22) ::
.go (.call (.con (.func (.func 22) ⟨[]⟩ ⟨[]⟩)) [(.tmp (pth 22))]) (pth 23) ::
.go (.move (.tmp (pth 1))) (pth 24) ::
.go (.call (.con (.func (.func 33) ⟨[]⟩ ⟨[]⟩)) [(.tmp (pth 24))]) (pth 25) ::
.go (.fieldAddr 0 (.tmp (pth 5))) (pth 26) ::
.go (.load1 (.tmp (pth 26))) (pth 27) ::
.go (.fieldAddr 1 (.tmp (pth 5))) (pth 28) ::
.go (.load1 (.tmp (pth 28))) (pth 29) ::
.go (.call (.con (.func (.func 34) ⟨[]⟩ ⟨[]⟩)) [(.tmp (pth 27)),(.tmp (pth 29))]) (pth 30) ::
.go (.call (.con (.func (.func 32) ⟨[]⟩ ⟨[]⟩)) [(.tmp (pth 23)),(.tmp (pth 25)),(.tmp (pth 30))]) (pth 31) ::
.go (.move (.tmp (pth 31))) (pth 21) ::
.go (.extract (.tmp (pth 21)) 0) (pth 32) ::
.go (.extract (.tmp (pth 21)) 1) (pth 33) ::
.go (.alloc 48 [(.int .i64 (.ofNat 0)),(.int .i64 (.ofNat 0))]) (pth 7) ::
.un (.store 2 (.tmp (pth 7)) (.tmp (pth 32))) ::
.go (.move (.tmp (pth 33))) (pth 8) ::
[]) [.ok,.ok,.ok,.ok,.ok,.rd none (.load1 (.tmp (pth 26))) (some (pth 27)) [0,2],.ok,.rd none (.load1 (.tmp (pth 28))) (some (pth 29)) [0,2],.ok,.ok,.ok,.ok,.ok,.nw none (some (pth 7)) 13 true,.ok,.ok]) (.seq (.run (.go (.move (.con (.int .i64 (.ofNat 0)))) (pth 9) ::
[])) (.seq (.block 0 (.seq (.run (.go (.loadN 4 (.tmp (pth 3))) (pth 35) ::
.go (.call (.con (.func (.func 25) ⟨[]⟩ ⟨[]⟩)) [(.tmp (pth 35))]) (pth 36) ::
.go (.un .not (.tmp (pth 36))) (pth 37) ::
.go (.move (.tmp (pth 37))) (pth 34) ::
[])) (.cond (.tmp (pth 34)) (.run (.go (.move (.con (.int .i64 (.ofNat 1)))) (pth 9) ::
[])) (.seq (.run (.go (.move (.tmp (pth 1))) (pth 39) ::
.go (.len 0 (.tmp (pth 39))) (pth 40) ::
.go (.bin .gtr 3 (.tmp (pth 40)) (.con (.int .i64 (.ofNat 200)))) (pth 41) ::
.go (.move (.tmp (pth 41))) (pth 38) ::
[])) (.cond (.tmp (pth 38)) (.run (.go (.move (.con (.int .i64 (.ofNat 3)))) (pth 9) ::
[])) (.seq (.run (.go (.fieldAddr 0 (.tmp (pth 5))) (pth 43) ::
.go (.load1 (.tmp (pth 43))) (pth 44) ::
.go (.fieldAddr 1 (.tmp (pth 5))) (pth 45) ::
.go (.load1 (.tmp (pth 45))) (pth 46) ::
.go (.call (.con (.func (.func 27) ⟨[]⟩ ⟨[]⟩)) [(.tmp (pth 44)),(.con (.int .i64 (.ofNat 0))),(.tmp (pth 46))]) (pth 47) ::
.go (.un .not (.tmp (pth 47))) (pth 48) ::
.go (.move (.tmp (pth 48))) (pth 49) ::
.gd (pth 49) false (.fieldAddr 1 (.tmp (pth 5))) (pth 50) ::
.gd (pth 49) false (.load1 (.tmp (pth 50))) (pth 51) ::
.gd (pth 49) false (.bin .gtr 3 (.tmp (pth 51)) (.con (.int .i64 (.ofNat 120)))) (pth 52) ::
.go (.pick (.tmp (pth 49)) (.con (.bool true)) (.tmp (pth 52))) (pth 53) ::
.go (.move (.tmp (pth 53))) (pth 54) ::
.gd (pth 54) false (.move (.tmp (pth 1))) (pth 55) ::
.gd (pth 54) false (.call (.con (.func (.func 35) ⟨[]⟩ ⟨[]⟩)) [(.tmp (pth 55))]) (pth 56) ::
.gd (pth 54) false (.un .not (.tmp (pth 56))) (pth 57) ::
.go (.pick (.tmp (pth 54)) (.con (.bool true)) (.tmp (pth 57))) (pth 58) ::
.go (.move (.tmp (pth 58))) (pth 42) ::
[])) (.cond (.tmp (pth 42)) (.run (.go (.move (.con (.int .i64 (.ofNat 2)))) (pth 9) ::
[])) .skip))))))) (.seq (.run (.go (.move (.con (.int .i64 (.ofNat 0)))) (pth 10) ::
.go (.move (.con (.int .i64 (.ofNat 0)))) (pth 11) ::
[])) (.seq (.seq (.run (.go (.move (.con (.int .i64 (.ofNat 0)))) (pth 12) ::
[])) (.block 1 (.loop (.seq (.seq (.run (.go (.move (.tmp (pth 12))) (pth 59) ::
.go (.move (.tmp (pth 1))) (pth 60) ::
.go (.len 0 (.tmp (pth 60))) (pth 61) ::
.go (.bin .lss 3 (.tmp (pth 59)) (.tmp (pth 61))) (pth 62) ::
.go (.move (.tmp (pth 62))) (pth 63) ::
.gd (pth 63) true (.move (.tmp (pth 9))) (pth 64) ::
.gd (pth 63) true (.bin .eql 24 (.tmp (pth 64)) (.con (.int .i64 (.ofNat 0)))) (pth 65) ::
.go (.pick (.tmp (pth 63)) (.tmp (pth 65)) (.con (.bool false))) (pth 66) ::
[])) (.cond (.tmp (pth 66)) .skip (.exit 1))) (.seq (.block 2 (.seq (.draw 8 (.go (.loadN 4 (.tmp (pth 3))) (pth 69) ::
.go (.move (.tmp (pth 1))) (pth 70) ::
.go (.move (.tmp (pth 12))) (pth 71) ::
.go (.indexAddr none 1 (.tmp (pth 70)) (.tmp (pth 71))) (pth 72) ::
.go (.load1 (.tmp (pth 72))) (pth 73) ::
.go (.call (.con (.func (.func 29) ⟨[]⟩ ⟨[]⟩)) [(.tmp (pth 69)),(.tmp (pth 73))]) (pth 74) ::
.go (.alloc 40 [(.bool false),(.bool false),(.bool false),(.bool false),(.bool false),(.bool false),(.bool false),(.bool false),(.bool false),(.bool false),(.bool false),(.bool false),(.bool false),(.bool false),(.bool false),(.bool false),(.bool false),(.bool false),(.bool false),(.bool false),(.bool false),(.bool false),(.bool false),(.bool false),(.bool false),(.bool false),(.bool false),(.bool false),(.bool false),(.bool false),(.bool false),(.bool false),(.bool false),(.bool false),(.bool false),(.bool false),(.bool false),(.bool false),(.bool false),(.bool false),(.bool false),(.bool false),(.bool false),(.bool false),(.bool false),(.bool false),(.bool false),(.bool false),(.bool false),(.bool false),(.bool false),(.bool false),(.bool false),(.bool false),(.bool false),(.bool false),(.bool false),(.bool false),(.bool false),(.bool false),(.bool false),(.bool false),(.bool false),(.bool false),(.bool false),(.bool false),(.bool false),(.bool false),(.bool false),(.bool false),(.bool false),(.bool false),(.bool false),(.bool false),(.bool false),(.bool false),(.bool false),(.bool false),(.bool false),(.bool false),(.bool false),(.bool false),(.bool false),(.bool false),(.bool false),(.bool false),(.bool false),(.bool false),(.bool false),(.bool false),(.bool false),(.bool false),(.bool false),(.bool false),(.bool false),(.bool false),(.bool false),(.bool false),(.bool false),(.bool false),(.bool false),(.bool false),(.bool false),(.bool false),(.bool false),(.bool false),(.bool false),(.bool false),(.bool false),(.bool false),(.bool false),(.bool false),(.bool false),(.bool false),(.bool false),(.bool false),(.bool false),(.bool false),(.bool false),(.bool false),(.bool false)]) (pth 13) ::
.un (.store 121 (.tmp (pth 13)) (.tmp (pth 74))) ::
[]) [.ok,.ok,.ok,.ok,.ok,.ok,.nw none (some (pth 13)) 6 true,.ok]) (.seq (.run (.go (.move (.con (.bool false))) (pth 14) ::
.go (.move (.con (.bool false))) (pth 15) ::
[])) (.seq (.seq (.run (.go (.move (.con (.int .i64 (.ofNat 0)))) (pth 16) ::
[])) (.block 3 (.loop (.seq (.seq (.run (.go (.move (.tmp (pth 16))) (pth 75) ::
.go (.bin .leq 3 (.tmp (pth 75)) (.con (.int .i64 (.ofNat 120)))) (pth 76) ::
[])) (.cond (.tmp (pth 76)) .skip (.exit 3))) (.seq (.block 4 (.seq (.run (.go (.move (.tmp (pth 16))) (pth 79) ::
.go (.indexAddr (some 121) 1 (.tmp (pth 13)) (.tmp (pth 79))) (pth 80) ::
.go (.load1 (.tmp (pth 80))) (pth 81) ::
.go (.move (.tmp (pth 81))) (pth 82) ::
.gd (pth 82) true (.move (.tmp (pth 16))) (pth 83) ::
.gd (pth 82) true (.fieldAddr 0 (.tmp (pth 5))) (pth 84) ::
.gd (pth 82) true (.load1 (.tmp (pth 84))) (pth 85) ::
.gd (pth 82) true (.fieldAddr 1 (.tmp (pth 5))) (pth 86) ::
.gd (pth 82) true (.load1 (.tmp (pth 86))) (pth 87) ::
.gd (pth 82) true (.call (.con (.func (.func 27) ⟨[]⟩ ⟨[]⟩)) [(.tmp (pth 83)),(.tmp (pth 85)),(.tmp (pth 87))]) (pth 88) ::
.go (.pick (.tmp (pth 82)) (.tmp (pth 88)) (.con (.bool false))) (pth 89) ::
[])) (.cond (.tmp (pth 89)) (.run (.go (.move (.con (.bool true))) (pth 14) ::
[])) (.seq (.run (.go (.move (.tmp (pth 16))) (pth 90) ::
.go (.indexAddr (some 121) 1 (.tmp (pth 13)) (.tmp (pth 90))) (pth 91) ::
.go (.load1 (.tmp (pth 91))) (pth 92) ::
[])) (.cond (.tmp (pth 92)) (.run (.go (.move (.con (.bool true))) (pth 15) ::
[])) .skip))))) (.run (.go (.move (.tmp (pth 16))) (pth 77) ::
.go (.bin .add 3 (.tmp (pth 77)) (.con (.int .i64 (.ofNat 1)))) (pth 78) ::
.go (.move (.tmp (pth 78))) (pth 16) ::
[]))))))) (.seq (.seq (.run (.go (.move (.tmp (pth 14))) (pth 93) ::
.go (.un .not (.tmp (pth 93))) (pth 94) ::
.go (.move (.tmp (pth 94))) (pth 95) ::
.gd (pth 95) true (.move (.tmp (pth 15))) (pth 96) ::
.gd (pth 95) true (.un .not (.tmp (pth 96))) (pth 97) ::
.go (.pick (.tmp (pth 95)) (.tmp (pth 97)) (.con (.bool false))) (pth 98) ::
[])) (.cond (.tmp (pth 98)) (.run (.go (.move (.con (.int .i64 (.ofNat 9)))) (pth 9) ::
[])) .skip)) (.seq (.seq (.run (.go (.move (.tmp (pth 14))) (pth 99) ::
[])) (.cond (.tmp (pth 99)) (.run (.go (.move (.tmp (pth 11))) (pth 100) ::
.go (.bin .add 3 (.tmp (pth 100)) (.con (.int .i64 (.ofNat 1)))) (pth 101) ::
.go (.move (.tmp (pth 101))) (pth 11) ::
[])) .skip)) (.seq (.run (.go (.move (.tmp (pth 14))) (pth 102) ::
.go (.move (.tmp (pth 102))) (pth 103) ::
.gd (pth 103) true (.move (.tmp (pth 15))) (pth 104) ::
.gd (pth 103) true (.un .not (.tmp (pth 104))) (pth 105) ::
.go (.pick (.tmp (pth 103)) (.tmp (pth 105)) (.con (.bool false))) (pth 106) ::
[])) (.cond (.tmp (pth 106)) (.run (.go (.move (.tmp (pth 10))) (pth 107) ::
.go (.bin .add 3 (.tmp (pth 107)) (.con (.int .i64 (.ofNat 1)))) (pth 108) ::
.go (.move (.tmp (pth 108))) (pth 10) ::
[])) .skip)))))))) (.run (.go (.move (.tmp (pth 12))) (pth 67) ::
.go (.bin .add 3 (.tmp (pth 67)) (.con (.int .i64 (.ofNat 1)))) (pth 68) ::
.go (.move (.tmp (pth 68))) (pth 12) ::
[]))))))) (.seq (.seq (.run (.go (.move (.tmp (pth 9))) (pth 109) ::
.go (.bin .neq 24 (.tmp (pth 109)) (.con (.int .i64 (.ofNat 0)))) (pth 110) ::
[])) (.cond (.tmp (pth 110)) (.seq (.run (.go (.move (.tmp (pth 8))) (pth 111) ::
.go (.move (.tmp (pth 9))) (pth 112) ::
.go (.bin .eql 24 (.tmp (pth 111)) (.tmp (pth 112))) (pth 113) ::
.go (.move (.tmp (pth 113))) (pth 114) ::
.gd (pth 114) true (.loadN 2 (.tmp (pth 7))) (pth 115) ::
.gd (pth 114) true (.build [(.int .i64 (.ofNat 0)),(.int .i64 (.ofNat 0))] []) (pth 116) ::
.gd (pth 114) true (.bin .eql 48 (.tmp (pth 115)) (.tmp (pth 116))) (pth 117) ::
.go (.pick (.tmp (pth 114)) (.tmp (pth 117)) (.con (.bool false))) (pth 118) ::
.go (.move (.tmp (pth 118))) (pth 119) ::
.gd (pth 119) true (.call (.con (.func (.func 26) ⟨[]⟩ ⟨[]⟩)) []) (pth 120) ::
.go (.pick (.tmp (pth 119)) (.tmp (pth 120)) (.con (.bool false))) (pth 121) ::
.go (.move (.tmp (pth 121))) (pth 6) ::
[])) .ret) .skip)) (.seq (.draw 13 (.go (.move (.tmp (pth 8))) (pth 122) ::
.go (.bin .eql 24 (.tmp (pth 122)) (.con (.int .i64 (.ofNat 0)))) (pth 123) ::
.go (.move (.tmp (pth 123))) (pth 124) ::
.gd (pth 124) true (.loadN 2 (.tmp (pth 7))) (pth 125) ::
.gd (pth 124) true (.move (.tmp (pth 10))) (pth 126) ::
.gd (pth 124) true (.move (.tmp (pth 11))) (pth 127) ::
.gd (pth 124) true (.call (.con (.func (.func 34) ⟨[]⟩ ⟨[]⟩)) [(.tmp (pth 126)),(.tmp (pth 127))]) (pth 128) ::
.gd (pth 124) true (.bin .eql 48 (.tmp (pth 125)) (.tmp (pth 128))) (pth 129) ::
.go (.pick (.tmp (pth 124)) (.tmp (pth 129)) (.con (.bool false))) (pth 130) ::
.go (.move (.tmp (pth 130))) (pth 131) ::
.gd (pth 131) true (.call (.con (.func (.func 26) ⟨[]⟩ ⟨[]⟩)) []) (pth 132) ::
.go (.pick (.tmp (pth 131)) (.tmp (pth 132)) (.con (.bool false))) (pth 133) ::
.go (.move (.tmp (pth 133))) (pth 6) ::
[]) [.ok,.ok,.ok,.rd (some ((pth 124),true)) (.loadN 2 (.tmp (pth 7))) (some (pth 125)) [7],.ok,.ok,.ok,.ok,.ok,.ok,.ok,.ok,.ok]) .ret)))))))))
theorem de4 : @compF Try.prog (Gl.none Try.prog) Try.f4 3 = .mk d4 (mkTT 134) [(pth 0),(pth 1),(pth 2)] [.tmp (pth 6)] := by kernel_rfl
theorem dg4 : Try.prog.funcs[4]? = some Try.f4 := Try.func4
theorem do4 : okF Try.prog Try.f4 = true := by kernel_rfl
theorem key48 {a b : Int} (ha : (Lit.int .i64 a).wf = true) (hb : (Lit.int .i64 b).wf = true) : (keyOf Try.prog 48 (.agg ⟨[I a, I b]⟩)).isSome = true := by
  have c3 : Try.prog.cellsOf 3 = 1 := by kernel_rfl
  have c48 : Try.prog.cellsOf 48 = 2 := by kernel_rfl
  have h5 : (Program.keyType Try.prog 48 && (Value.agg ⟨[I a, I b]⟩).formed Try.prog 48) = true := by kernel_rfl
  obtain ⟨n, hn⟩ : ∃ n, Try.prog.types.size + 1 = n + 2 := ⟨Try.prog.types.size - 1, by have : 2 ≤ Try.prog.types.size := Nat.le_of_ble_eq_true (by kernel_rfl); omega⟩
  unfold keyOf
  simp only [Try.underlying48]
  rw [if_pos h5, hn]
  unfold Program.keyLits
  simp only [Try.underlying48, c48]
  have e : (Value.agg ⟨[I a, I b]⟩).cells.toList = [I a, I b] := rfl
  rw [e, if_pos ⟨rfl, by simp⟩]
  simp [c3, kl_int ha, kl_int hb]
theorem eq48 {a b c d : Int} (ha : (Lit.int .i64 a).wf = true) (hb : (Lit.int .i64 b).wf = true) (hc : (Lit.int .i64 c).wf = true) (hd : (Lit.int .i64 d).wf = true) : xbinOp Try.prog .eql 48 (.agg ⟨A2 a b⟩) (.agg ⟨A2 c d⟩) = some (.bool (decide (a = c ∧ b = d))) := by
  have h1 : xbin Try.prog .eql 48 (.agg ⟨A2 a b⟩) (.agg ⟨A2 c d⟩) = none := rfl
  have h2 : xbinStr .eql (.agg ⟨A2 a b⟩) (.agg ⟨A2 c d⟩) = none := rfl
  have h3 : xeqNil Try.prog false 48 (.agg ⟨A2 a b⟩) (.agg ⟨A2 c d⟩) = none := by
    unfold xeqNil
    simp only [Try.underlying48]
  have h4 : keyedB Try.prog 48 = true := by kernel_rfl
  have h5 : Try.prog.eqGuardType Try.prog.depth 48 = false := by kernel_rfl
  unfold xbinOp
  rw [h1, h2]
  simp only [h3]
  unfold xeqAgg
  simp only [Try.underlying48]
  rw [if_pos ⟨h4, rfl, rfl, key48 ha hb, key48 hc hd, h5⟩]
  simp [valEq, cellsEq, cellEq]
theorem ct_mono {p : Nat → Bool} {lo hi : Int} (hlo : 0 ≤ lo) (hhi : hi ≤ 120) : ∀ n, n ≤ 121 → ct p lo hi n ≤ ct p 0 120 n
  | 0, _ => Nat.le_refl _
  | n + 1, hn => by
    have ih := ct_mono (p := p) hlo hhi n (by omega)
    rw [ct_succ, ct_succ]
    by_cases hp : p n = true
    · by_cases h : lo ≤ (n : Int) ∧ (n : Int) ≤ hi
      · rw [if_pos ⟨hp, h⟩, if_pos ⟨hp, by omega, by omega⟩]; omega
      · rw [if_neg (fun x => h x.2)]; omega
    · rw [if_neg (fun x => hp x.1), if_neg (fun x => hp x.1)]; omega
/-- The error that is due before the numbers are looked at one by one. -/
noncomputable def w0 (a b c d : Int) (l : List Int) (lo hi : Int) : Int :=
  if ¬ rv a b c d then 1 else if 200 < l.length then 3 else if ¬ ((l.all fun x => decide (0 ≤ x ∧ x ≤ 140)) = true ∧ 0 ≤ lo ∧ lo ≤ hi ∧ hi ≤ 120) then 2 else 0
theorem cw_w0 {a b c d : Int} {l : List Int} {lo hi : Int} (h : w0 a b c d l lo hi ≠ 0) : cw a b c d l lo hi = (0, 0, w0 a b c d l lo hi) := by
  unfold cw; unfold w0 at h ⊢
  split
  · rfl
  split
  · rfl
  split
  · rfl
  · rename_i h1 h2 h3; rw [if_neg h1, if_neg h2, if_neg h3] at h; exact absurd rfl h
theorem cw_ok {a b c d : Int} {l : List Int} {lo hi : Int} (h : w0 a b c d l lo hi = 0) : rv a b c d ∧ l.length ≤ 200 ∧ (∀ x ∈ l, 0 ≤ x ∧ x ≤ 140) ∧ 0 ≤ lo ∧ lo ≤ hi ∧ hi ≤ 120 ∧ cw a b c d l lo hi = cw2 (pp a b c d) lo hi l := by
  unfold w0 at h
  split at h
  · cases h
  split at h
  · cases h
  split at h
  · cases h
  · rename_i h1 h2 h3
    have h3' := Decidable.not_not.1 h3
    refine ⟨Decidable.not_not.1 h1, by omega, fun x hx => by simpa using List.all_eq_true.1 h3'.1 x hx, h3'.2.1, h3'.2.2.1, h3'.2.2.2, ?_⟩
    unfold cw
    rw [if_neg h1, if_neg h2, if_neg h3]
theorem cw_rng (a b c d : Int) (l : List Int) (lo hi : Int) : 0 ≤ (cw a b c d l lo hi).1 ∧ (cw a b c d l lo hi).1 ≤ 200 ∧ 0 ≤ (cw a b c d l lo hi).2.1 ∧ (cw a b c d l lo hi).2.1 ≤ 200 ∧ 0 ≤ (cw a b c d l lo hi).2.2 ∧ (cw a b c d l lo hi).2.2 ≤ 9 := by
  by_cases h : w0 a b c d l lo hi = 0
  · obtain ⟨_, h2, _, _, _, _, h7⟩ := cw_ok h
    rw [h7]
    unfold cw2
    split
    · simp
    · have h3 := List.length_filter_le (fun x => decide (ct (pp a b c d x) lo hi 121 = ct (pp a b c d x) 0 120 121)) l
      have h4 := List.length_filter_le (fun x => decide (0 < ct (pp a b c d x) lo hi 121)) l
      simp only
      omega
  · rw [cw_w0 h]
    unfold w0
    simp only
    (repeat' split) <;> omega
theorem cw_zero {a b c d : Int} {l : List Int} {lo hi : Int} (h : (cw a b c d l lo hi).2.2 ≠ 0) : (cw a b c d l lo hi).1 = 0 ∧ (cw a b c d l lo hi).2.1 = 0 := by
  by_cases h0 : w0 a b c d l lo hi = 0
  · obtain ⟨_, _, _, _, _, _, h7⟩ := cw_ok h0
    rw [h7] at h ⊢
    unfold cw2 at h ⊢
    split
    · exact ⟨rfl, rfl⟩
    · rename_i h1; rw [if_neg h1] at h; exact absurd rfl h
  · rw [cw_w0 h0]; exact ⟨rfl, rfl⟩
/-- What lies in the memory of the statement's own. -/
def HB (H : Heap) (j : Nat) (a b c d lo hi x y : Int) (X : Heap) : Prop := Grow H X ∧ Bx X H.next (R4 a b c d) 23 ∧ Bx X (H.next + 1) (A2 lo hi) 47 ∧ Bx X j (A2 x y) 48
theorem HB.grow {H : Heap} {j : Nat} {a b c d lo hi x y : Int} {X Y : Heap} (h : HB H j a b c d lo hi x y X) (g : Grow X Y) : HB H j a b c d lo hi x y Y := ⟨h.1.trans g, h.2.1.grow g, h.2.2.1.grow g, h.2.2.2.grow g⟩
theorem f4_ok {a b c d lo hi : Int} {H : Heap} {v : Value} {l : List Int} (hS : Sl H v (l.map I)) : F Try.prog 4 ⟨[.agg ⟨R4 a b c d⟩, v, .agg ⟨A2 lo hi⟩]⟩ H (fun w _ => w = .bool true) := by
  have hlen : ∀ H', Grow H H' → ylen 0 H' v = some (I l.length) := fun H' g => by rw [(hS.grow g).len, List.length_map]
  have hr := cw_rng a b c d l lo hi
  refine F.entryL rfl dg4 do4 de4 rfl (by kernel_rfl) ?_
  simp only [sets]
  refine V.re [(0, .agg ⟨R4 a b c d⟩), (1, v), (2, .agg ⟨A2 lo hi⟩)] (N := 134) (by intro i; simp only [full_st, Full.mk]) (by simp only [Kn, gt_st, full_st, Full.mk, reduceIte, Nat.reduceEqDiff, Nat.reduceLT, decide_true, and_self]) ?_
  intro t hF hA
  simp only [Kn, and_true] at hA
  (repeat first | refine V.seq ?_ | refine V.block ?_ | refine V.scope ?_ | refine V.skip ?_ | refine V.close ?_)
  refine V.line' (by simp (maxSteps := 1000000) (disch := (first | omega | (simp only [Heap.next_alloc, Heap.next_set]; omega))) only [D2, mm_max, mm_min, cells_alloc_at, cells_alloc_ne, cells_set_at, cells_set_ne, dop, dA, sets, yfield1, yfieldN, yfieldAddr, Int.reduceNegSucc, Int.reduceEq, Nat.reduceLeDiff, Nat.reduceSub, Nat.reduceAdd, gt_st, full_st, hF, hA, reduceIte, Nat.reduceEqDiff, Nat.reduceLT, decide_true, decide_false, Bool.false_eq_true]; with_reducible rfl) ?_
  refine V.heap (fun H2 => Grow H H2 ∧ Bx H2 H.next (R4 a b c d) 23 ∧ Bx H2 (H.next + 1) (A2 lo hi) 47) ⟨?_, ?_, ?_⟩ ?_
  · (repeat first | assumption | exact Grow.refl _ | refine Grow.alloc ?_ _ | refine Grow.set ?_ (by first | omega | (simp only [Heap.next_alloc, Heap.next_set]; omega)) _)
  · (repeat first | assumption | exact Bx.new _ _ _ | exact Bx.newAt (by first | omega | (simp only [Heap.next_alloc, Heap.next_set]; omega)) | refine Bx.put (by first | omega | (simp only [Heap.next_alloc, Heap.next_set]; omega)) _ _ | refine Bx.alloc ?_ _ | refine Bx.set ?_ (by first | omega | (simp only [Heap.next_alloc, Heap.next_set]; omega)) _)
  · (repeat first | assumption | exact Bx.new _ _ _ | exact Bx.newAt (by first | omega | (simp only [Heap.next_alloc, Heap.next_set]; omega)) | refine Bx.put (by first | omega | (simp only [Heap.next_alloc, Heap.next_set]; omega)) _ _ | refine Bx.alloc ?_ _ | refine Bx.set ?_ (by first | omega | (simp only [Heap.next_alloc, Heap.next_set]; omega)) _)
  rintro H1 ⟨g1, b1, c1⟩
  (repeat first | refine V.seq ?_ | refine V.block ?_ | refine V.scope ?_ | refine V.skip ?_ | refine V.close ?_)
  refine V.line' (by simp (maxSteps := 1000000) (disch := (first | omega | (simp only [Heap.next_alloc, Heap.next_set]; omega))) only [D2, mm_max, mm_min, cells_alloc_at, cells_alloc_ne, cells_set_at, cells_set_ne, dop, dA, sets, yfield1, yfieldN, yfieldAddr, Int.reduceNegSucc, Int.reduceEq, Nat.reduceLeDiff, Nat.reduceSub, Nat.reduceAdd, gt_st, full_st, hF, hA, reduceIte, Nat.reduceEqDiff, Nat.reduceLT, decide_true, decide_false, Bool.false_eq_true, hlen _ g1]; with_reducible rfl) ?_
  (repeat first | refine V.seq ?_ | refine V.block ?_ | refine V.scope ?_ | refine V.skip ?_ | refine V.close ?_)
  refine V.condP (by simp only [dA, gt_st, full_st, hF, hA, reduceIte, Nat.reduceEqDiff, Nat.reduceLT, decide_true, decide_false, Bool.false_eq_true]; rfl) (fun h1 => ?_) (fun h1 => ?_)
  · (repeat first | refine V.seq ?_ | refine V.block ?_ | refine V.scope ?_ | refine V.skip ?_ | refine V.close ?_)
    refine V.run ?_
    refine VI.callA rfl (f26_ok _) (by simp only [List.map_cons, List.map_nil, dA, gt_st, full_st, hF, hA, reduceIte, Nat.reduceEqDiff, Nat.reduceLT, decide_true, decide_false, Bool.false_eq_true, List.nil_append, List.append_nil, List.cons_append]; try rfl) (fun H2 g2 => ?_)
    refine VI.line' (by simp (maxSteps := 1000000) (disch := (first | omega | (simp only [Heap.next_alloc, Heap.next_set]; omega))) only [D2, mm_max, mm_min, cells_alloc_at, cells_alloc_ne, cells_set_at, cells_set_ne, dop, dA, sets, yfield1, yfieldN, yfieldAddr, Int.reduceNegSucc, Int.reduceEq, Nat.reduceLeDiff, Nat.reduceSub, Nat.reduceAdd, gt_st, full_st, hF, hA, reduceIte, Nat.reduceEqDiff, Nat.reduceLT, decide_true, decide_false, Bool.false_eq_true]; with_reducible rfl) ?_
    (repeat first | refine V.seq ?_ | refine V.block ?_ | refine V.scope ?_ | refine V.skip ?_ | refine V.close ?_)
    refine V.ret (V.rets rfl (Lv.retF (by simp (disch := (first | omega | (simp only [Heap.next_alloc, Heap.next_set]; omega))) only [D1, cells_alloc_at, cells_alloc_ne, cells_set_at, cells_set_ne, yres, yres1, yresL, Nat.reduceLeDiff, Nat.reduceSub, Nat.reduceAdd, gt_st, full_st, hF, hA, reduceIte, Nat.reduceEqDiff, Nat.reduceLT, decide_true, decide_false, Bool.false_eq_true]; rfl) ?_))
    rfl
  have hn : l.length ≤ 220 := by omega
  (repeat first | refine V.seq ?_ | refine V.block ?_ | refine V.scope ?_ | refine V.skip ?_ | refine V.close ?_)
  refine V.cut (fun e t m H' => e = .normal ∧ m = [] ∧ Grow H1 H' ∧ ∃ j, H1.next ≤ j ∧ Bx H' j (A2 (cw a b c d l lo hi).1 (cw a b c d l lo hi).2.1) 48 ∧ Full 134 t ∧ Kn [(1, v), (3, .pointer (some ⟨H.next, 0, none⟩)), (5, .pointer (some ⟨H.next + 1, 0, none⟩)), (7, .pointer (some ⟨j, 0, none⟩)), (8, I (cw a b c d l lo hi).2.2)] t) ?_ ?_
  · refine V.draw ?_
    refine VD.dins 1 (by simp (maxSteps := 1000000) (disch := (first | omega | (simp only [Heap.next_alloc, Heap.next_set]; omega))) only [D2, mm_max, mm_min, cells_alloc_at, cells_alloc_ne, cells_set_at, cells_set_ne, dop, dA, sets, yfield1, yfieldN, yfieldAddr, Int.reduceNegSucc, Int.reduceEq, Nat.reduceLeDiff, Nat.reduceSub, Nat.reduceAdd, gt_st, full_st, hF, hA, reduceIte, Nat.reduceEqDiff, Nat.reduceLT, decide_true, decide_false, Bool.false_eq_true, b1.2]; with_reducible rfl) ?_
    simp only [List.drop_succ_cons, List.drop_zero]
    refine VD.callA (by simp only [dA, gt_st, full_st, hF, hA, reduceIte, Nat.reduceEqDiff, Nat.reduceLT, decide_true, decide_false, Bool.false_eq_true]; try rfl) (f22_ok a b c d _) (by simp only [List.map_cons, List.map_nil, dA, gt_st, full_st, hF, hA, reduceIte, Nat.reduceEqDiff, Nat.reduceLT, decide_true, decide_false, Bool.false_eq_true, List.nil_append, List.append_nil, List.cons_append]; try rfl) (fun Ha ga => ?_)
    have ba := b1.grow ga
    have ca := c1.grow ga
    refine VD.dins 1 (by simp (maxSteps := 1000000) (disch := (first | omega | (simp only [Heap.next_alloc, Heap.next_set]; omega))) only [D2, mm_max, mm_min, cells_alloc_at, cells_alloc_ne, cells_set_at, cells_set_ne, dop, dA, sets, yfield1, yfieldN, yfieldAddr, Int.reduceNegSucc, Int.reduceEq, Nat.reduceLeDiff, Nat.reduceSub, Nat.reduceAdd, gt_st, full_st, hF, hA, reduceIte, Nat.reduceEqDiff, Nat.reduceLT, decide_true, decide_false, Bool.false_eq_true]; with_reducible rfl) ?_
    simp only [List.drop_succ_cons, List.drop_zero]
    refine VD.callR (by simp only [dA, gt_st, full_st, hF, hA, reduceIte, Nat.reduceEqDiff, Nat.reduceLT, decide_true, decide_false, Bool.false_eq_true]; try rfl) (f33_ok (hS.grow (g1.trans ga)) (by omega)) (by simp only [List.map_cons, List.map_nil, dA, gt_st, full_st, hF, hA, reduceIte, Nat.reduceEqDiff, Nat.reduceLT, decide_true, decide_false, Bool.false_eq_true, List.nil_append, List.append_nil, List.cons_append]; try rfl) (fun w Hb ⟨ow, gb⟩ => ?_)
    have bb := ba.grow gb
    have cb := ca.grow gb
    refine VD.dins 4 (by simp (maxSteps := 1000000) (disch := (first | omega | (simp only [Heap.next_alloc, Heap.next_set]; omega))) only [D2, mm_max, mm_min, cells_alloc_at, cells_alloc_ne, cells_set_at, cells_set_ne, dop, dA, sets, yfield1, yfieldN, yfieldAddr, Int.reduceNegSucc, Int.reduceEq, Nat.reduceLeDiff, Nat.reduceSub, Nat.reduceAdd, gt_st, full_st, hF, hA, reduceIte, Nat.reduceEqDiff, Nat.reduceLT, decide_true, decide_false, Bool.false_eq_true, cb.2]; with_reducible rfl) ?_
    simp only [List.drop_succ_cons, List.drop_zero]
    refine VD.callA (by simp only [dA, gt_st, full_st, hF, hA, reduceIte, Nat.reduceEqDiff, Nat.reduceLT, decide_true, decide_false, Bool.false_eq_true]; try rfl) (f34_ok lo hi _) (by simp only [List.map_cons, List.map_nil, dA, gt_st, full_st, hF, hA, reduceIte, Nat.reduceEqDiff, Nat.reduceLT, decide_true, decide_false, Bool.false_eq_true, List.nil_append, List.append_nil, List.cons_append]; try rfl) (fun Hc gc => ?_)
    have cc := cb.grow gc
    refine VD.callA (by simp only [dA, gt_st, full_st, hF, hA, reduceIte, Nat.reduceEqDiff, Nat.reduceLT, decide_true, decide_false, Bool.false_eq_true]; try rfl) (f32_ok (ow.sl.grow gc) (by omega)) (by simp only [List.map_cons, List.map_nil, dA, gt_st, full_st, hF, hA, reduceIte, Nat.reduceEqDiff, Nat.reduceLT, decide_true, decide_false, Bool.false_eq_true, List.nil_append, List.append_nil, List.cons_append]; try rfl) (fun Hd gd => ?_)
    have cd := cc.grow gd
    have gd1 : Grow H1 Hd := ((ga.trans gb).trans gc).trans gd
    refine VD.lineD' (by simp (maxSteps := 1000000) (disch := (first | omega | (simp only [Heap.next_alloc, Heap.next_set]; omega))) only [D2, mm_max, mm_min, cells_alloc_at, cells_alloc_ne, cells_set_at, cells_set_ne, dop, dA, sets, yfield1, yfieldN, yfieldAddr, Int.reduceNegSucc, Int.reduceEq, Nat.reduceLeDiff, Nat.reduceSub, Nat.reduceAdd, gt_st, full_st, hF, hA, reduceIte, Nat.reduceEqDiff, Nat.reduceLT, decide_true, decide_false, Bool.false_eq_true]; with_reducible rfl) ?_ ?_ rfl ?_
    · simp only [monoG, List.cons_append, List.nil_append, Heap.next_set, Heap.next_alloc, Nat.le_refl, true_and, and_true]
      exact ⟨ga.1, gb.1, gc.1, gd.1, Nat.le_succ _⟩
    · simp only [dcAll, dcOk, wantD, List.cons_append, List.nil_append, true_and, and_true]
      exact ⟨fun _ q hq => by simp only [List.mem_cons, List.not_mem_nil, or_false] at hq; first | (subst hq; exact ⟨_, _, _, rfl, (by simp (maxSteps := 1000000) (disch := (first | omega | (simp only [Heap.next_alloc, Heap.next_set]; omega))) only [D2, mm_max, mm_min, cells_alloc_at, cells_alloc_ne, cells_set_at, cells_set_ne, dop, dA, sets, yfield1, yfieldN, yfieldAddr, Int.reduceNegSucc, Int.reduceEq, Nat.reduceLeDiff, Nat.reduceSub, Nat.reduceAdd, gt_st, full_st, hF, hA, reduceIte, Nat.reduceEqDiff, Nat.reduceLT, decide_true, decide_false, Bool.false_eq_true, b1.2, ba.2, bb.2, c1.2, ca.2, cb.2, cc.2, cd.2]; with_reducible rfl), fun p hp => by cases hp; simp only [gt_st, full_st, hF, hA, reduceIte, Nat.reduceEqDiff, Nat.reduceLT, decide_true, decide_false, Bool.false_eq_true]; first | exact vEq_An | simp [vEq, vEq0, all2]⟩) | (rcases hq with rfl | rfl <;> exact ⟨_, _, _, rfl, (by simp (maxSteps := 1000000) (disch := (first | omega | (simp only [Heap.next_alloc, Heap.next_set]; omega))) only [D2, mm_max, mm_min, cells_alloc_at, cells_alloc_ne, cells_set_at, cells_set_ne, dop, dA, sets, yfield1, yfieldN, yfieldAddr, Int.reduceNegSucc, Int.reduceEq, Nat.reduceLeDiff, Nat.reduceSub, Nat.reduceAdd, gt_st, full_st, hF, hA, reduceIte, Nat.reduceEqDiff, Nat.reduceLT, decide_true, decide_false, Bool.false_eq_true, b1.2, ba.2, bb.2, c1.2, ca.2, cb.2, cc.2, cd.2]; with_reducible rfl), fun p hp => by cases hp; simp only [gt_st, full_st, hF, hA, reduceIte, Nat.reduceEqDiff, Nat.reduceLT, decide_true, decide_false, Bool.false_eq_true]; first | exact vEq_An | simp [vEq, vEq0, all2]⟩) | (rcases hq with rfl | rfl | rfl <;> exact ⟨_, _, _, rfl, (by simp (maxSteps := 1000000) (disch := (first | omega | (simp only [Heap.next_alloc, Heap.next_set]; omega))) only [D2, mm_max, mm_min, cells_alloc_at, cells_alloc_ne, cells_set_at, cells_set_ne, dop, dA, sets, yfield1, yfieldN, yfieldAddr, Int.reduceNegSucc, Int.reduceEq, Nat.reduceLeDiff, Nat.reduceSub, Nat.reduceAdd, gt_st, full_st, hF, hA, reduceIte, Nat.reduceEqDiff, Nat.reduceLT, decide_true, decide_false, Bool.false_eq_true, b1.2, ba.2, bb.2, c1.2, ca.2, cb.2, cc.2, cd.2]; with_reducible rfl), fun p hp => by cases hp; simp only [gt_st, full_st, hF, hA, reduceIte, Nat.reduceEqDiff, Nat.reduceLT, decide_true, decide_false, Bool.false_eq_true]; first | exact vEq_An | simp [vEq, vEq0, all2]⟩), fun _ q hq => by simp only [List.mem_cons, List.not_mem_nil, or_false] at hq; first | (subst hq; exact ⟨_, _, _, rfl, (by simp (maxSteps := 1000000) (disch := (first | omega | (simp only [Heap.next_alloc, Heap.next_set]; omega))) only [D2, mm_max, mm_min, cells_alloc_at, cells_alloc_ne, cells_set_at, cells_set_ne, dop, dA, sets, yfield1, yfieldN, yfieldAddr, Int.reduceNegSucc, Int.reduceEq, Nat.reduceLeDiff, Nat.reduceSub, Nat.reduceAdd, gt_st, full_st, hF, hA, reduceIte, Nat.reduceEqDiff, Nat.reduceLT, decide_true, decide_false, Bool.false_eq_true, b1.2, ba.2, bb.2, c1.2, ca.2, cb.2, cc.2, cd.2]; with_reducible rfl), fun p hp => by cases hp; simp only [gt_st, full_st, hF, hA, reduceIte, Nat.reduceEqDiff, Nat.reduceLT, decide_true, decide_false, Bool.false_eq_true]; first | exact vEq_An | simp [vEq, vEq0, all2]⟩) | (rcases hq with rfl | rfl <;> exact ⟨_, _, _, rfl, (by simp (maxSteps := 1000000) (disch := (first | omega | (simp only [Heap.next_alloc, Heap.next_set]; omega))) only [D2, mm_max, mm_min, cells_alloc_at, cells_alloc_ne, cells_set_at, cells_set_ne, dop, dA, sets, yfield1, yfieldN, yfieldAddr, Int.reduceNegSucc, Int.reduceEq, Nat.reduceLeDiff, Nat.reduceSub, Nat.reduceAdd, gt_st, full_st, hF, hA, reduceIte, Nat.reduceEqDiff, Nat.reduceLT, decide_true, decide_false, Bool.false_eq_true, b1.2, ba.2, bb.2, c1.2, ca.2, cb.2, cc.2, cd.2]; with_reducible rfl), fun p hp => by cases hp; simp only [gt_st, full_st, hF, hA, reduceIte, Nat.reduceEqDiff, Nat.reduceLT, decide_true, decide_false, Bool.false_eq_true]; first | exact vEq_An | simp [vEq, vEq0, all2]⟩) | (rcases hq with rfl | rfl | rfl <;> exact ⟨_, _, _, rfl, (by simp (maxSteps := 1000000) (disch := (first | omega | (simp only [Heap.next_alloc, Heap.next_set]; omega))) only [D2, mm_max, mm_min, cells_alloc_at, cells_alloc_ne, cells_set_at, cells_set_ne, dop, dA, sets, yfield1, yfieldN, yfieldAddr, Int.reduceNegSucc, Int.reduceEq, Nat.reduceLeDiff, Nat.reduceSub, Nat.reduceAdd, gt_st, full_st, hF, hA, reduceIte, Nat.reduceEqDiff, Nat.reduceLT, decide_true, decide_false, Bool.false_eq_true, b1.2, ba.2, bb.2, c1.2, ca.2, cb.2, cc.2, cd.2]; with_reducible rfl), fun p hp => by cases hp; simp only [gt_st, full_st, hF, hA, reduceIte, Nat.reduceEqDiff, Nat.reduceLT, decide_true, decide_false, Bool.false_eq_true]; first | exact vEq_An | simp [vEq, vEq0, all2]⟩), fun _ => ⟨_, _, _, rfl, rfl, rfl, (by simp only [gt_st, full_st, hF, hA, reduceIte, Nat.reduceEqDiff, Nat.reduceLT, decide_true, decide_false, Bool.false_eq_true]; simp [inBound]), fun _ => ⟨_, _, _, cells_alloc _ _ _ _, (by first | exact An_inb | rfl)⟩⟩⟩
    refine ⟨rfl, rfl, ?_, Hd.next, gd1.1, ?_, (by intro i; simp only [full_st, hF]), (by simp only [Kn, gt_st, full_st, hF, hA, reduceIte, Nat.reduceEqDiff, Nat.reduceLT, decide_true, decide_false, Bool.false_eq_true, and_self, and_true, true_and]; try (repeat' constructor))⟩
    · exact (gd1.alloc _).set gd1.1 _
    · (repeat first | assumption | exact Bx.new _ _ _ | exact Bx.newAt (by first | omega | (simp only [Heap.next_alloc, Heap.next_set]; omega)) | refine Bx.put (by first | omega | (simp only [Heap.next_alloc, Heap.next_set]; omega)) _ _ | refine Bx.alloc ?_ _ | refine Bx.set ?_ (by first | omega | (simp only [Heap.next_alloc, Heap.next_set]; omega)) _)
  rintro e t m H2 ⟨rfl, rfl, g2, j, hj, j2, hF, hA⟩
  simp only [Kn, and_true] at hA
  have hB : HB H j a b c d lo hi (cw a b c d l lo hi).1 (cw a b c d l lo hi).2.1 H2 := ⟨g1.trans g2, b1.grow g2, c1.grow g2, j2⟩
  clear j2 b1 c1 hj
  (repeat first | refine V.seq ?_ | refine V.block ?_ | refine V.scope ?_ | refine V.skip ?_ | refine V.close ?_)
  refine V.line' (by simp (maxSteps := 1000000) (disch := (first | omega | (simp only [Heap.next_alloc, Heap.next_set]; omega))) only [D2, mm_max, mm_min, cells_alloc_at, cells_alloc_ne, cells_set_at, cells_set_ne, dop, dA, sets, yfield1, yfieldN, yfieldAddr, Int.reduceNegSucc, Int.reduceEq, Nat.reduceLeDiff, Nat.reduceSub, Nat.reduceAdd, gt_st, full_st, hF, hA, reduceIte, Nat.reduceEqDiff, Nat.reduceLT, decide_true, decide_false, Bool.false_eq_true]; with_reducible rfl) ?_
  (repeat first | refine V.seq ?_ | refine V.block ?_ | refine V.scope ?_ | refine V.skip ?_ | refine V.close ?_)
  refine V.run ?_
  refine VI.steps' 1 (by simp (maxSteps := 1000000) (disch := (first | omega | (simp only [Heap.next_alloc, Heap.next_set]; omega))) only [D2, mm_max, mm_min, cells_alloc_at, cells_alloc_ne, cells_set_at, cells_set_ne, dop, dA, sets, yfield1, yfieldN, yfieldAddr, Int.reduceNegSucc, Int.reduceEq, Nat.reduceLeDiff, Nat.reduceSub, Nat.reduceAdd, gt_st, full_st, hF, hA, reduceIte, Nat.reduceEqDiff, Nat.reduceLT, decide_true, decide_false, Bool.false_eq_true, hB.2.1.2]; with_reducible rfl) ?_
  simp only [List.drop_succ_cons, List.drop_zero]
  refine VI.callA rfl (f25_ok a b c d _) (by simp only [List.map_cons, List.map_nil, dA, gt_st, full_st, hF, hA, reduceIte, Nat.reduceEqDiff, Nat.reduceLT, decide_true, decide_false, Bool.false_eq_true, List.nil_append, List.append_nil, List.cons_append]; try rfl) (fun H3 g3 => ?_)
  have hB := hB.grow g3
  refine VI.line' (by simp (maxSteps := 1000000) (disch := (first | omega | (simp only [Heap.next_alloc, Heap.next_set]; omega))) only [D2, mm_max, mm_min, cells_alloc_at, cells_alloc_ne, cells_set_at, cells_set_ne, dop, dA, sets, yfield1, yfieldN, yfieldAddr, Int.reduceNegSucc, Int.reduceEq, Nat.reduceLeDiff, Nat.reduceSub, Nat.reduceAdd, gt_st, full_st, hF, hA, reduceIte, Nat.reduceEqDiff, Nat.reduceLT, decide_true, decide_false, Bool.false_eq_true]; with_reducible rfl) ?_
  (repeat first | refine V.seq ?_ | refine V.block ?_ | refine V.scope ?_ | refine V.skip ?_ | refine V.close ?_)
  refine V.cut (fun e t m H' => e = .normal ∧ m = [] ∧ HB H j a b c d lo hi (cw a b c d l lo hi).1 (cw a b c d l lo hi).2.1 H' ∧ Full 134 t ∧ Kn [(1, v), (3, .pointer (some ⟨H.next, 0, none⟩)), (5, .pointer (some ⟨H.next + 1, 0, none⟩)), (7, .pointer (some ⟨j, 0, none⟩)), (8, I (cw a b c d l lo hi).2.2), (9, I (w0 a b c d l lo hi))] t) ?_ ?_
  · refine V.condB (by simp only [dA, gt_st, full_st, hF, hA, reduceIte, Nat.reduceEqDiff, Nat.reduceLT, decide_true, decide_false, Bool.false_eq_true]; rfl) (fun h4 => ?_) (fun h4 => ?_)
    · have h4' : ¬ rv a b c d := by simpa using h4
      have hw : w0 a b c d l lo hi = 1 := by unfold w0; rw [if_pos h4']
      rw [hw]
      (repeat first | refine V.seq ?_ | refine V.block ?_ | refine V.scope ?_ | refine V.skip ?_ | refine V.close ?_)
      refine V.line' (by simp (maxSteps := 1000000) (disch := (first | omega | (simp only [Heap.next_alloc, Heap.next_set]; omega))) only [D2, mm_max, mm_min, cells_alloc_at, cells_alloc_ne, cells_set_at, cells_set_ne, dop, dA, sets, yfield1, yfieldN, yfieldAddr, Int.reduceNegSucc, Int.reduceEq, Nat.reduceLeDiff, Nat.reduceSub, Nat.reduceAdd, gt_st, full_st, hF, hA, reduceIte, Nat.reduceEqDiff, Nat.reduceLT, decide_true, decide_false, Bool.false_eq_true]; with_reducible rfl) ?_
      exact ⟨rfl, rfl, hB, (by intro i; simp only [full_st, hF]), (by simp only [Kn, gt_st, full_st, hF, hA, reduceIte, Nat.reduceEqDiff, Nat.reduceLT, decide_true, decide_false, Bool.false_eq_true, and_self, and_true, true_and]; try (repeat' constructor))⟩
    have h4' : rv a b c d := by simpa using h4
    (repeat first | refine V.seq ?_ | refine V.block ?_ | refine V.scope ?_ | refine V.skip ?_ | refine V.close ?_)
    refine V.line' (by simp (maxSteps := 1000000) (disch := (first | omega | (simp only [Heap.next_alloc, Heap.next_set]; omega))) only [D2, mm_max, mm_min, cells_alloc_at, cells_alloc_ne, cells_set_at, cells_set_ne, dop, dA, sets, yfield1, yfieldN, yfieldAddr, Int.reduceNegSucc, Int.reduceEq, Nat.reduceLeDiff, Nat.reduceSub, Nat.reduceAdd, gt_st, full_st, hF, hA, reduceIte, Nat.reduceEqDiff, Nat.reduceLT, decide_true, decide_false, Bool.false_eq_true, hlen _ hB.1]; with_reducible rfl) ?_
    (repeat first | refine V.seq ?_ | refine V.block ?_ | refine V.scope ?_ | refine V.skip ?_ | refine V.close ?_)
    refine V.condP (by simp only [dA, gt_st, full_st, hF, hA, reduceIte, Nat.reduceEqDiff, Nat.reduceLT, decide_true, decide_false, Bool.false_eq_true]; rfl) (fun h5 => ?_) (fun h5 => ?_)
    · have hw : w0 a b c d l lo hi = 3 := by unfold w0; rw [if_neg (not_not_intro h4'), if_pos (by omega)]
      rw [hw]
      (repeat first | refine V.seq ?_ | refine V.block ?_ | refine V.scope ?_ | refine V.skip ?_ | refine V.close ?_)
      refine V.line' (by simp (maxSteps := 1000000) (disch := (first | omega | (simp only [Heap.next_alloc, Heap.next_set]; omega))) only [D2, mm_max, mm_min, cells_alloc_at, cells_alloc_ne, cells_set_at, cells_set_ne, dop, dA, sets, yfield1, yfieldN, yfieldAddr, Int.reduceNegSucc, Int.reduceEq, Nat.reduceLeDiff, Nat.reduceSub, Nat.reduceAdd, gt_st, full_st, hF, hA, reduceIte, Nat.reduceEqDiff, Nat.reduceLT, decide_true, decide_false, Bool.false_eq_true]; with_reducible rfl) ?_
      exact ⟨rfl, rfl, hB, (by intro i; simp only [full_st, hF]), (by simp only [Kn, gt_st, full_st, hF, hA, reduceIte, Nat.reduceEqDiff, Nat.reduceLT, decide_true, decide_false, Bool.false_eq_true, and_self, and_true, true_and]; try (repeat' constructor))⟩
    (repeat first | refine V.seq ?_ | refine V.block ?_ | refine V.scope ?_ | refine V.skip ?_ | refine V.close ?_)
    refine V.run ?_
    refine VI.steps' 4 (by simp (maxSteps := 1000000) (disch := (first | omega | (simp only [Heap.next_alloc, Heap.next_set]; omega))) only [D2, mm_max, mm_min, cells_alloc_at, cells_alloc_ne, cells_set_at, cells_set_ne, dop, dA, sets, yfield1, yfieldN, yfieldAddr, Int.reduceNegSucc, Int.reduceEq, Nat.reduceLeDiff, Nat.reduceSub, Nat.reduceAdd, gt_st, full_st, hF, hA, reduceIte, Nat.reduceEqDiff, Nat.reduceLT, decide_true, decide_false, Bool.false_eq_true, hB.2.2.1.2]; with_reducible rfl) ?_
    simp only [List.drop_succ_cons, List.drop_zero]
    refine VI.callA rfl (f27_ok lo 0 hi _) (by simp only [List.map_cons, List.map_nil, dA, gt_st, full_st, hF, hA, reduceIte, Nat.reduceEqDiff, Nat.reduceLT, decide_true, decide_false, Bool.false_eq_true, List.nil_append, List.append_nil, List.cons_append]; try rfl) (fun H6 g6 => ?_)
    have hB := hB.grow g6
    by_cases k1 : 0 ≤ lo ∧ lo ≤ hi
    · by_cases k2 : 120 < hi
      · have hw : w0 a b c d l lo hi = 2 := by unfold w0; rw [if_neg (not_not_intro h4'), if_neg (by omega), if_pos (fun h => by omega)]
        rw [hw]
        refine VI.line' (by simp (maxSteps := 1000000) (disch := (first | omega | (simp only [Heap.next_alloc, Heap.next_set]; omega))) only [D2, mm_max, mm_min, cells_alloc_at, cells_alloc_ne, cells_set_at, cells_set_ne, dop, dA, sets, yfield1, yfieldN, yfieldAddr, Int.reduceNegSucc, Int.reduceEq, Nat.reduceLeDiff, Nat.reduceSub, Nat.reduceAdd, gt_st, full_st, hF, hA, reduceIte, Nat.reduceEqDiff, Nat.reduceLT, decide_true, decide_false, Bool.false_eq_true, k1, k2, hB.2.2.1.2]; with_reducible rfl) ?_
        (repeat first | refine V.seq ?_ | refine V.block ?_ | refine V.scope ?_ | refine V.skip ?_ | refine V.close ?_)
        refine V.condT (by simp only [dA, gt_st, full_st, hF, hA, reduceIte, Nat.reduceEqDiff, Nat.reduceLT, decide_true, decide_false, Bool.false_eq_true]) ?_
        (repeat first | refine V.seq ?_ | refine V.block ?_ | refine V.scope ?_ | refine V.skip ?_ | refine V.close ?_)
        refine V.line' (by simp (maxSteps := 1000000) (disch := (first | omega | (simp only [Heap.next_alloc, Heap.next_set]; omega))) only [D2, mm_max, mm_min, cells_alloc_at, cells_alloc_ne, cells_set_at, cells_set_ne, dop, dA, sets, yfield1, yfieldN, yfieldAddr, Int.reduceNegSucc, Int.reduceEq, Nat.reduceLeDiff, Nat.reduceSub, Nat.reduceAdd, gt_st, full_st, hF, hA, reduceIte, Nat.reduceEqDiff, Nat.reduceLT, decide_true, decide_false, Bool.false_eq_true]; with_reducible rfl) ?_
        exact ⟨rfl, rfl, hB, (by intro i; simp only [full_st, hF]), (by simp only [Kn, gt_st, full_st, hF, hA, reduceIte, Nat.reduceEqDiff, Nat.reduceLT, decide_true, decide_false, Bool.false_eq_true, and_self, and_true, true_and]; try (repeat' constructor))⟩
      · refine VI.steps' 8 (by simp (maxSteps := 1000000) (disch := (first | omega | (simp only [Heap.next_alloc, Heap.next_set]; omega))) only [D2, mm_max, mm_min, cells_alloc_at, cells_alloc_ne, cells_set_at, cells_set_ne, dop, dA, sets, yfield1, yfieldN, yfieldAddr, Int.reduceNegSucc, Int.reduceEq, Nat.reduceLeDiff, Nat.reduceSub, Nat.reduceAdd, gt_st, full_st, hF, hA, reduceIte, Nat.reduceEqDiff, Nat.reduceLT, decide_true, decide_false, Bool.false_eq_true, k1, k2, hB.2.2.1.2]; with_reducible rfl) ?_
        simp only [List.drop_succ_cons, List.drop_zero]
        refine VI.callAT (by simp only [gt_st, full_st, hF, hA, reduceIte, Nat.reduceEqDiff, Nat.reduceLT, decide_true, decide_false, Bool.false_eq_true]; try rfl) rfl (f35_ok (hS.grow hB.1) (by omega)) (by simp only [List.map_cons, List.map_nil, dA, gt_st, full_st, hF, hA, reduceIte, Nat.reduceEqDiff, Nat.reduceLT, decide_true, decide_false, Bool.false_eq_true, List.nil_append, List.append_nil, List.cons_append]; try rfl) (fun H7 g7 => ?_)
        have hB := hB.grow g7
        by_cases k3 : (l.all fun x => decide (0 ≤ x ∧ x ≤ 140)) = true
        · have hw : w0 a b c d l lo hi = 0 := by unfold w0; rw [if_neg (not_not_intro h4'), if_neg (by omega), if_neg (not_not_intro ⟨k3, k1.1, k1.2, by omega⟩)]
          rw [hw, k3]
          refine VI.line' (by simp (maxSteps := 1000000) (disch := (first | omega | (simp only [Heap.next_alloc, Heap.next_set]; omega))) only [D2, mm_max, mm_min, cells_alloc_at, cells_alloc_ne, cells_set_at, cells_set_ne, dop, dA, sets, yfield1, yfieldN, yfieldAddr, Int.reduceNegSucc, Int.reduceEq, Nat.reduceLeDiff, Nat.reduceSub, Nat.reduceAdd, gt_st, full_st, hF, hA, reduceIte, Nat.reduceEqDiff, Nat.reduceLT, decide_true, decide_false, Bool.false_eq_true]; with_reducible rfl) ?_
          (repeat first | refine V.seq ?_ | refine V.block ?_ | refine V.scope ?_ | refine V.skip ?_ | refine V.close ?_)
          refine V.condF (by simp only [dA, gt_st, full_st, hF, hA, reduceIte, Nat.reduceEqDiff, Nat.reduceLT, decide_true, decide_false, Bool.false_eq_true]) ?_
          (repeat first | refine V.seq ?_ | refine V.block ?_ | refine V.scope ?_ | refine V.skip ?_ | refine V.close ?_)
          exact ⟨rfl, rfl, hB, (by intro i; simp only [full_st, hF]), (by simp only [Kn, gt_st, full_st, hF, hA, reduceIte, Nat.reduceEqDiff, Nat.reduceLT, decide_true, decide_false, Bool.false_eq_true, and_self, and_true, true_and]; try (repeat' constructor))⟩
        · have hw : w0 a b c d l lo hi = 2 := by unfold w0; rw [if_neg (not_not_intro h4'), if_neg (by omega), if_pos (fun h => k3 h.1)]
          rw [hw, Bool.eq_false_iff.2 k3]
          refine VI.line' (by simp (maxSteps := 1000000) (disch := (first | omega | (simp only [Heap.next_alloc, Heap.next_set]; omega))) only [D2, mm_max, mm_min, cells_alloc_at, cells_alloc_ne, cells_set_at, cells_set_ne, dop, dA, sets, yfield1, yfieldN, yfieldAddr, Int.reduceNegSucc, Int.reduceEq, Nat.reduceLeDiff, Nat.reduceSub, Nat.reduceAdd, gt_st, full_st, hF, hA, reduceIte, Nat.reduceEqDiff, Nat.reduceLT, decide_true, decide_false, Bool.false_eq_true]; with_reducible rfl) ?_
          (repeat first | refine V.seq ?_ | refine V.block ?_ | refine V.scope ?_ | refine V.skip ?_ | refine V.close ?_)
          refine V.condT (by simp only [dA, gt_st, full_st, hF, hA, reduceIte, Nat.reduceEqDiff, Nat.reduceLT, decide_true, decide_false, Bool.false_eq_true]) ?_
          (repeat first | refine V.seq ?_ | refine V.block ?_ | refine V.scope ?_ | refine V.skip ?_ | refine V.close ?_)
          refine V.line' (by simp (maxSteps := 1000000) (disch := (first | omega | (simp only [Heap.next_alloc, Heap.next_set]; omega))) only [D2, mm_max, mm_min, cells_alloc_at, cells_alloc_ne, cells_set_at, cells_set_ne, dop, dA, sets, yfield1, yfieldN, yfieldAddr, Int.reduceNegSucc, Int.reduceEq, Nat.reduceLeDiff, Nat.reduceSub, Nat.reduceAdd, gt_st, full_st, hF, hA, reduceIte, Nat.reduceEqDiff, Nat.reduceLT, decide_true, decide_false, Bool.false_eq_true]; with_reducible rfl) ?_
          exact ⟨rfl, rfl, hB, (by intro i; simp only [full_st, hF]), (by simp only [Kn, gt_st, full_st, hF, hA, reduceIte, Nat.reduceEqDiff, Nat.reduceLT, decide_true, decide_false, Bool.false_eq_true, and_self, and_true, true_and]; try (repeat' constructor))⟩
    · have hw : w0 a b c d l lo hi = 2 := by unfold w0; rw [if_neg (not_not_intro h4'), if_neg (by omega), if_pos (fun h => k1 ⟨h.2.1, h.2.2.1⟩)]
      rw [hw]
      refine VI.line' (by simp (maxSteps := 1000000) (disch := (first | omega | (simp only [Heap.next_alloc, Heap.next_set]; omega))) only [D2, mm_max, mm_min, cells_alloc_at, cells_alloc_ne, cells_set_at, cells_set_ne, dop, dA, sets, yfield1, yfieldN, yfieldAddr, Int.reduceNegSucc, Int.reduceEq, Nat.reduceLeDiff, Nat.reduceSub, Nat.reduceAdd, gt_st, full_st, hF, hA, reduceIte, Nat.reduceEqDiff, Nat.reduceLT, decide_true, decide_false, Bool.false_eq_true, k1]; with_reducible rfl) ?_
      (repeat first | refine V.seq ?_ | refine V.block ?_ | refine V.scope ?_ | refine V.skip ?_ | refine V.close ?_)
      refine V.condT (by simp only [dA, gt_st, full_st, hF, hA, reduceIte, Nat.reduceEqDiff, Nat.reduceLT, decide_true, decide_false, Bool.false_eq_true]) ?_
      (repeat first | refine V.seq ?_ | refine V.block ?_ | refine V.scope ?_ | refine V.skip ?_ | refine V.close ?_)
      refine V.line' (by simp (maxSteps := 1000000) (disch := (first | omega | (simp only [Heap.next_alloc, Heap.next_set]; omega))) only [D2, mm_max, mm_min, cells_alloc_at, cells_alloc_ne, cells_set_at, cells_set_ne, dop, dA, sets, yfield1, yfieldN, yfieldAddr, Int.reduceNegSucc, Int.reduceEq, Nat.reduceLeDiff, Nat.reduceSub, Nat.reduceAdd, gt_st, full_st, hF, hA, reduceIte, Nat.reduceEqDiff, Nat.reduceLT, decide_true, decide_false, Bool.false_eq_true]; with_reducible rfl) ?_
      exact ⟨rfl, rfl, hB, (by intro i; simp only [full_st, hF]), (by simp only [Kn, gt_st, full_st, hF, hA, reduceIte, Nat.reduceEqDiff, Nat.reduceLT, decide_true, decide_false, Bool.false_eq_true, and_self, and_true, true_and]; try (repeat' constructor))⟩
  clear hB hF hA
  rintro e t m H4 ⟨rfl, rfl, hB, hF, hA⟩
  simp only [Kn, and_true] at hA
  (repeat first | refine V.seq ?_ | refine V.block ?_ | refine V.scope ?_ | refine V.skip ?_ | refine V.close ?_)
  refine V.line' (by simp (maxSteps := 1000000) (disch := (first | omega | (simp only [Heap.next_alloc, Heap.next_set]; omega))) only [D2, mm_max, mm_min, cells_alloc_at, cells_alloc_ne, cells_set_at, cells_set_ne, dop, dA, sets, yfield1, yfieldN, yfieldAddr, Int.reduceNegSucc, Int.reduceEq, Nat.reduceLeDiff, Nat.reduceSub, Nat.reduceAdd, gt_st, full_st, hF, hA, reduceIte, Nat.reduceEqDiff, Nat.reduceLT, decide_true, decide_false, Bool.false_eq_true]; with_reducible rfl) ?_
  (repeat first | refine V.seq ?_ | refine V.block ?_ | refine V.scope ?_ | refine V.skip ?_ | refine V.close ?_)
  refine V.line' (by simp (maxSteps := 1000000) (disch := (first | omega | (simp only [Heap.next_alloc, Heap.next_set]; omega))) only [D2, mm_max, mm_min, cells_alloc_at, cells_alloc_ne, cells_set_at, cells_set_ne, dop, dA, sets, yfield1, yfieldN, yfieldAddr, Int.reduceNegSucc, Int.reduceEq, Nat.reduceLeDiff, Nat.reduceSub, Nat.reduceAdd, gt_st, full_st, hF, hA, reduceIte, Nat.reduceEqDiff, Nat.reduceLT, decide_true, decide_false, Bool.false_eq_true]; with_reducible rfl) ?_
  (repeat first | refine V.seq ?_ | refine V.block ?_ | refine V.scope ?_ | refine V.skip ?_ | refine V.close ?_)
  refine V.loop (fun n t m H' => ∃ (k : Nat) (x10 x11 w : Int), k ≤ l.length ∧ n = l.length - k ∧ m = [] ∧ HB H j a b c d lo hi (cw a b c d l lo hi).1 (cw a b c d l lo hi).2.1 H' ∧ ((w = 0 ∧ w0 a b c d l lo hi = 0 ∧ (∀ x ∈ l.take k, ct (pp a b c d x) 0 120 121 ≠ 0) ∧ x10 = lowC (pp a b c d) lo hi (l.take k) ∧ x11 = highC (pp a b c d) lo hi (l.take k)) ∨ (w ≠ 0 ∧ w = (cw a b c d l lo hi).2.2)) ∧ Full 134 t ∧ Kn [(1, v), (3, .pointer (some ⟨H.next, 0, none⟩)), (5, .pointer (some ⟨H.next + 1, 0, none⟩)), (7, .pointer (some ⟨j, 0, none⟩)), (8, I (cw a b c d l lo hi).2.2), (9, I w), (10, I x10), (11, I x11), (12, I k)] t) l.length ?_ ?_
  · refine ⟨0, 0, 0, w0 a b c d l lo hi, by omega, by omega, rfl, hB, ?_, (by intro i; simp only [full_st, hF]), (by simp only [Kn, gt_st, full_st, hF, hA, reduceIte, Nat.reduceEqDiff, Nat.reduceLT, decide_true, decide_false, Bool.false_eq_true, and_self, and_true, true_and]; try (repeat' constructor))⟩
    by_cases hw : w0 a b c d l lo hi = 0
    · exact .inl ⟨hw, hw, fun x hx => by simp at hx, rfl, rfl⟩
    · exact .inr ⟨hw, by rw [cw_w0 hw]⟩
  clear hF hA hB
  rintro n t m H5 ⟨k, x10, x11, w, hk, rfl, rfl, hB, hor, hF, hA⟩
  simp only [Kn, and_true] at hA
  (repeat first | refine V.seq ?_ | refine V.block ?_ | refine V.scope ?_ | refine V.skip ?_ | refine V.close ?_)
  refine V.cut (fun e t m H' => e = .normal ∧ m = [] ∧ H' = H5 ∧ ∃ q : Bool, (q = true ↔ (k < l.length ∧ w = 0)) ∧ Full 134 t ∧ Kn [(1, v), (3, .pointer (some ⟨H.next, 0, none⟩)), (5, .pointer (some ⟨H.next + 1, 0, none⟩)), (7, .pointer (some ⟨j, 0, none⟩)), (8, I (cw a b c d l lo hi).2.2), (9, I w), (10, I x10), (11, I x11), (12, I k), (66, .bool q)] t) ?_ ?_
  · by_cases k1 : (k : Int) < l.length
    · refine V.line' (by simp (maxSteps := 1000000) (disch := (first | omega | (simp only [Heap.next_alloc, Heap.next_set]; omega))) only [D2, mm_max, mm_min, cells_alloc_at, cells_alloc_ne, cells_set_at, cells_set_ne, dop, dA, sets, yfield1, yfieldN, yfieldAddr, Int.reduceNegSucc, Int.reduceEq, Nat.reduceLeDiff, Nat.reduceSub, Nat.reduceAdd, gt_st, full_st, hF, hA, reduceIte, Nat.reduceEqDiff, Nat.reduceLT, decide_true, decide_false, Bool.false_eq_true, hlen _ hB.1, k1]; with_reducible rfl) ?_
      exact ⟨rfl, rfl, rfl, decide (w = 0), by simp; omega, (by intro i; simp only [full_st, hF]), (by simp only [Kn, gt_st, full_st, hF, hA, reduceIte, Nat.reduceEqDiff, Nat.reduceLT, decide_true, decide_false, Bool.false_eq_true, and_self, and_true, true_and]; try (repeat' constructor))⟩
    · refine V.line' (by simp (maxSteps := 1000000) (disch := (first | omega | (simp only [Heap.next_alloc, Heap.next_set]; omega))) only [D2, mm_max, mm_min, cells_alloc_at, cells_alloc_ne, cells_set_at, cells_set_ne, dop, dA, sets, yfield1, yfieldN, yfieldAddr, Int.reduceNegSucc, Int.reduceEq, Nat.reduceLeDiff, Nat.reduceSub, Nat.reduceAdd, gt_st, full_st, hF, hA, reduceIte, Nat.reduceEqDiff, Nat.reduceLT, decide_true, decide_false, Bool.false_eq_true, hlen _ hB.1, k1]; with_reducible rfl) ?_
      exact ⟨rfl, rfl, rfl, false, by simp; omega, (by intro i; simp only [full_st, hF]), (by simp only [Kn, gt_st, full_st, hF, hA, reduceIte, Nat.reduceEqDiff, Nat.reduceLT, decide_true, decide_false, Bool.false_eq_true, and_self, and_true, true_and]; try (repeat' constructor))⟩
  rintro e t m H6 ⟨rfl, rfl, rfl, q, hq, hF, hA⟩
  simp only [Kn, and_true] at hA
  (repeat first | refine V.seq ?_ | refine V.block ?_ | refine V.scope ?_ | refine V.skip ?_ | refine V.close ?_)
  refine V.condB (by simp only [dA, gt_st, full_st, hF, hA, reduceIte, Nat.reduceEqDiff, Nat.reduceLT, decide_true, decide_false, Bool.false_eq_true]; rfl) (fun h9 => ?_) (fun h9 => ?_)
  · obtain ⟨hlt', rfl⟩ := hq.1 h9
    obtain ⟨_, hw0, hnz, rfl, rfl⟩ : (0 : Int) = 0 ∧ w0 a b c d l lo hi = 0 ∧ (∀ x ∈ l.take k, ct (pp a b c d x) 0 120 121 ≠ 0) ∧ x10 = lowC (pp a b c d) lo hi (l.take k) ∧ x11 = highC (pp a b c d) lo hi (l.take k) := by
      rcases hor with h | h
      · exact h
      · exact absurd rfl h.1
    clear hor hq
    obtain ⟨hv, hl200, hin, hlo, hlh, hhi, hcw⟩ := cw_ok hw0
    have hl1 : lowC (pp a b c d) lo hi (l.take k) ≤ k := Nat.le_trans (List.length_filter_le _ _) (by rw [List.length_take]; omega)
    have hl2 : highC (pp a b c d) lo hi (l.take k) ≤ k := Nat.le_trans (List.length_filter_le _ _) (by rw [List.length_take]; omega)
    obtain ⟨q5, hq1, hq2⟩ := hS.get (n := k) (k := k) (x := I l[k]) (kd := .i64) (by simp [hlt']) rfl
    have hf1 := filt_take (fun x => decide (ct (pp a b c d x) lo hi 121 = ct (pp a b c d x) 0 120 121)) hlt'
    have hf2 := filt_take (fun x => decide (0 < ct (pp a b c d x) lo hi 121)) hlt'
    simp only [decide_eq_true_eq] at hf1 hf2
    have hnz' : ct (pp a b c d l[k]) 0 120 121 ≠ 0 → ∀ x ∈ l.take (k + 1), ct (pp a b c d x) 0 120 121 ≠ 0 := by
      intro h x hx
      rw [List.take_succ_eq_append_getElem hlt'] at hx
      rcases List.mem_append.1 hx with hx | hx
      · exact hnz x hx
      · rw [List.mem_singleton.1 hx]; exact h
    have hbad : ct (pp a b c d l[k]) 0 120 121 = 0 → (9 : Int) = (cw a b c d l lo hi).2.2 := by
      intro h
      have : (l.any fun x => decide (ct (pp a b c d x) 0 120 121 = 0)) = true := List.any_eq_true.2 ⟨l[k], by simp, by simp [h]⟩
      rw [hcw, cw2, if_pos this]
    have hmono := ct_mono (p := pp a b c d l[k]) hlo hhi
    (repeat first | refine V.seq ?_ | refine V.block ?_ | refine V.scope ?_ | refine V.skip ?_ | refine V.close ?_)
    refine V.cut (fun e t m H' => e = .normal ∧ m = [] ∧ HB H j a b c d lo hi (cw a b c d l lo hi).1 (cw a b c d l lo hi).2.1 H' ∧ ∃ r, H6.next ≤ r ∧ Bx H' r (An 121 fun i => .bool (pp a b c d l[k] i)) 40 ∧ Full 134 t ∧ Kn [(1, v), (3, .pointer (some ⟨H.next, 0, none⟩)), (5, .pointer (some ⟨H.next + 1, 0, none⟩)), (7, .pointer (some ⟨j, 0, none⟩)), (8, I (cw a b c d l lo hi).2.2), (9, I 0), (10, I (lowC (pp a b c d) lo hi (l.take k))), (11, I (highC (pp a b c d) lo hi (l.take k))), (12, I k), (13, .pointer (some ⟨r, 0, none⟩))] t) ?_ ?_
    · refine V.draw ?_
      refine VD.dins 5 (by simp (maxSteps := 1000000) (disch := (first | omega | (simp only [Heap.next_alloc, Heap.next_set]; omega))) only [D2, mm_max, mm_min, cells_alloc_at, cells_alloc_ne, cells_set_at, cells_set_ne, dop, dA, sets, yfield1, yfieldN, yfieldAddr, Int.reduceNegSucc, Int.reduceEq, Nat.reduceLeDiff, Nat.reduceSub, Nat.reduceAdd, gt_st, full_st, hF, hA, reduceIte, Nat.reduceEqDiff, Nat.reduceLT, decide_true, decide_false, Bool.false_eq_true, hB.2.1.2, hq1, hq2 _ hB.1]; with_reducible rfl) ?_
      simp only [List.drop_succ_cons, List.drop_zero]
      refine VD.callA (by simp only [dA, gt_st, full_st, hF, hA, reduceIte, Nat.reduceEqDiff, Nat.reduceLT, decide_true, decide_false, Bool.false_eq_true]; try rfl) (f29_ok a b c d l[k] hv _) (by simp only [List.map_cons, List.map_nil, dA, gt_st, full_st, hF, hA, reduceIte, Nat.reduceEqDiff, Nat.reduceLT, decide_true, decide_false, Bool.false_eq_true, List.nil_append, List.append_nil, List.cons_append]; try rfl) (fun H7 g7 => ?_)
      have hB := hB.grow g7
      have hj7 := hB.2.2.2.1
      have hc7 := hB.2.2.1.1
      refine VD.lineD' (by simp (maxSteps := 1000000) (disch := (first | omega | (simp only [Heap.next_alloc, Heap.next_set]; omega))) only [D2, mm_max, mm_min, cells_alloc_at, cells_alloc_ne, cells_set_at, cells_set_ne, dop, dA, sets, yfield1, yfieldN, yfieldAddr, Int.reduceNegSucc, Int.reduceEq, Nat.reduceLeDiff, Nat.reduceSub, Nat.reduceAdd, gt_st, full_st, hF, hA, reduceIte, Nat.reduceEqDiff, Nat.reduceLT, decide_true, decide_false, Bool.false_eq_true, z121, tr, An_len, An_ok, setC_An]; with_reducible rfl) ?_ ?_ rfl ?_
      · simp only [monoG, List.cons_append, List.nil_append, Heap.next_set, Heap.next_alloc, Nat.le_refl, true_and, and_true]
        exact ⟨g7.1, Nat.le_succ _⟩
      · simp only [dcAll, dcOk, wantD, List.cons_append, List.nil_append, true_and, and_true]
        exact fun _ => ⟨_, _, _, rfl, rfl, rfl, (by simp only [gt_st, full_st, hF, hA, reduceIte, Nat.reduceEqDiff, Nat.reduceLT, decide_true, decide_false, Bool.false_eq_true]; simp [inBound]), fun _ => ⟨_, _, _, cells_alloc _ _ _ _, (by first | exact An_inb | rfl)⟩⟩
      obtain ⟨k1, k2, k3, k4⟩ := hB
      have hn := k1.1
      refine ⟨rfl, rfl, ⟨?_, ?_, ?_, ?_⟩, H7.next, g7.1, ?_, (by intro i; simp only [full_st, hF]), (by simp only [Kn, gt_st, full_st, hF, hA, reduceIte, Nat.reduceEqDiff, Nat.reduceLT, decide_true, decide_false, Bool.false_eq_true, and_self, and_true, true_and]; try (repeat' constructor))⟩
      · (repeat first | assumption | exact Grow.refl _ | refine Grow.alloc ?_ _ | refine Grow.set ?_ (by first | omega | (simp only [Heap.next_alloc, Heap.next_set]; omega)) _)
      · (repeat first | assumption | exact Bx.new _ _ _ | exact Bx.newAt (by first | omega | (simp only [Heap.next_alloc, Heap.next_set]; omega)) | refine Bx.put (by first | omega | (simp only [Heap.next_alloc, Heap.next_set]; omega)) _ _ | refine Bx.alloc ?_ _ | refine Bx.set ?_ (by first | omega | (simp only [Heap.next_alloc, Heap.next_set]; omega)) _)
      · (repeat first | assumption | exact Bx.new _ _ _ | exact Bx.newAt (by first | omega | (simp only [Heap.next_alloc, Heap.next_set]; omega)) | refine Bx.put (by first | omega | (simp only [Heap.next_alloc, Heap.next_set]; omega)) _ _ | refine Bx.alloc ?_ _ | refine Bx.set ?_ (by first | omega | (simp only [Heap.next_alloc, Heap.next_set]; omega)) _)
      · (repeat first | assumption | exact Bx.new _ _ _ | exact Bx.newAt (by first | omega | (simp only [Heap.next_alloc, Heap.next_set]; omega)) | refine Bx.put (by first | omega | (simp only [Heap.next_alloc, Heap.next_set]; omega)) _ _ | refine Bx.alloc ?_ _ | refine Bx.set ?_ (by first | omega | (simp only [Heap.next_alloc, Heap.next_set]; omega)) _)
      · show Bx _ _ (An 121 fun i => .bool (decide (cn a b c d l[k] i))) 40
        (repeat first | assumption | exact Bx.new _ _ _ | exact Bx.newAt (by first | omega | (simp only [Heap.next_alloc, Heap.next_set]; omega)) | refine Bx.put (by first | omega | (simp only [Heap.next_alloc, Heap.next_set]; omega)) _ _ | refine Bx.alloc ?_ _ | refine Bx.set ?_ (by first | omega | (simp only [Heap.next_alloc, Heap.next_set]; omega)) _)
    clear hB hF hA
    rintro e t m H7 ⟨rfl, rfl, hB, r, hr, hR, hF, hA⟩
    simp only [Kn, and_true] at hA
    (repeat first | refine V.seq ?_ | refine V.block ?_ | refine V.scope ?_ | refine V.skip ?_ | refine V.close ?_)
    refine V.line' (by simp (maxSteps := 1000000) (disch := (first | omega | (simp only [Heap.next_alloc, Heap.next_set]; omega))) only [D2, mm_max, mm_min, cells_alloc_at, cells_alloc_ne, cells_set_at, cells_set_ne, dop, dA, sets, yfield1, yfieldN, yfieldAddr, Int.reduceNegSucc, Int.reduceEq, Nat.reduceLeDiff, Nat.reduceSub, Nat.reduceAdd, gt_st, full_st, hF, hA, reduceIte, Nat.reduceEqDiff, Nat.reduceLT, decide_true, decide_false, Bool.false_eq_true]; with_reducible rfl) ?_
    (repeat first | refine V.seq ?_ | refine V.block ?_ | refine V.scope ?_ | refine V.skip ?_ | refine V.close ?_)
    refine V.line' (by simp (maxSteps := 1000000) (disch := (first | omega | (simp only [Heap.next_alloc, Heap.next_set]; omega))) only [D2, mm_max, mm_min, cells_alloc_at, cells_alloc_ne, cells_set_at, cells_set_ne, dop, dA, sets, yfield1, yfieldN, yfieldAddr, Int.reduceNegSucc, Int.reduceEq, Nat.reduceLeDiff, Nat.reduceSub, Nat.reduceAdd, gt_st, full_st, hF, hA, reduceIte, Nat.reduceEqDiff, Nat.reduceLT, decide_true, decide_false, Bool.false_eq_true]; with_reducible rfl) ?_
    (repeat first | refine V.seq ?_ | refine V.block ?_ | refine V.scope ?_ | refine V.skip ?_ | refine V.close ?_)
    refine V.loop (fun n t m H' => ∃ (i : Nat) (qi qo : Bool), i ≤ 121 ∧ n = 121 - i ∧ m = [] ∧ HB H j a b c d lo hi (cw a b c d l lo hi).1 (cw a b c d l lo hi).2.1 H' ∧ Bx H' r (An 121 fun i => .bool (pp a b c d l[k] i)) 40 ∧ (qi = true ↔ 0 < ct (pp a b c d l[k]) lo hi i) ∧ (qo = true ↔ ct (pp a b c d l[k]) lo hi i < ct (pp a b c d l[k]) 0 120 i) ∧ Full 134 t ∧ Kn [(1, v), (3, .pointer (some ⟨H.next, 0, none⟩)), (5, .pointer (some ⟨H.next + 1, 0, none⟩)), (7, .pointer (some ⟨j, 0, none⟩)), (8, I (cw a b c d l lo hi).2.2), (9, I 0), (10, I (lowC (pp a b c d) lo hi (l.take k))), (11, I (highC (pp a b c d) lo hi (l.take k))), (12, I k), (13, .pointer (some ⟨r, 0, none⟩)), (14, .bool qi), (15, .bool qo), (16, I i)] t) 121 ?_ ?_
    · exact ⟨0, false, false, by omega, by omega, rfl, hB, hR, by simp [ct], by simp [ct], (by intro i; simp only [full_st, hF]), (by simp only [Kn, gt_st, full_st, hF, hA, reduceIte, Nat.reduceEqDiff, Nat.reduceLT, decide_true, decide_false, Bool.false_eq_true, and_self, and_true, true_and]; try (repeat' constructor))⟩
    clear hF hA hB hR
    rintro n t m H8 ⟨i, qi, qo, hile, rfl, rfl, hB, hR, hqi, hqo, hF, hA⟩
    simp only [Kn, and_true] at hA
    (repeat first | refine V.seq ?_ | refine V.block ?_ | refine V.scope ?_ | refine V.skip ?_ | refine V.close ?_)
    refine V.line' (by simp (maxSteps := 1000000) (disch := (first | omega | (simp only [Heap.next_alloc, Heap.next_set]; omega))) only [D2, mm_max, mm_min, cells_alloc_at, cells_alloc_ne, cells_set_at, cells_set_ne, dop, dA, sets, yfield1, yfieldN, yfieldAddr, Int.reduceNegSucc, Int.reduceEq, Nat.reduceLeDiff, Nat.reduceSub, Nat.reduceAdd, gt_st, full_st, hF, hA, reduceIte, Nat.reduceEqDiff, Nat.reduceLT, decide_true, decide_false, Bool.false_eq_true]; with_reducible rfl) ?_
    (repeat first | refine V.seq ?_ | refine V.block ?_ | refine V.scope ?_ | refine V.skip ?_ | refine V.close ?_)
    refine V.condP (by simp only [dA, gt_st, full_st, hF, hA, reduceIte, Nat.reduceEqDiff, Nat.reduceLT, decide_true, decide_false, Bool.false_eq_true]; rfl) (fun h10 => ?_) (fun h10 => ?_)
    · have hi' : i < 121 := by omega
      have s1 := ct_succ (pp a b c d l[k]) lo hi i
      have s2 := ct_succ (pp a b c d l[k]) 0 120 i
      have s3 := hmono i (by omega)
      (repeat first | refine V.seq ?_ | refine V.block ?_ | refine V.scope ?_ | refine V.skip ?_ | refine V.close ?_)
      refine V.run ?_
      by_cases hp : pp a b c d l[k] i = true
      · rw [if_pos ⟨hp, by omega, by omega⟩] at s2
        refine VI.steps' 9 (by simp (maxSteps := 1000000) (disch := (first | omega | (simp only [Heap.next_alloc, Heap.next_set]; omega))) only [D2, mm_max, mm_min, cells_alloc_at, cells_alloc_ne, cells_set_at, cells_set_ne, dop, dA, sets, yfield1, yfieldN, yfieldAddr, Int.reduceNegSucc, Int.reduceEq, Nat.reduceLeDiff, Nat.reduceSub, Nat.reduceAdd, gt_st, full_st, hF, hA, reduceIte, Nat.reduceEqDiff, Nat.reduceLT, decide_true, decide_false, Bool.false_eq_true, idx_arr hi', hR.2, An_get hi', hp, hB.2.2.1.2]; with_reducible rfl) ?_
        simp only [List.drop_succ_cons, List.drop_zero]
        refine VI.callAT (by simp only [gt_st, full_st, hF, hA, reduceIte, Nat.reduceEqDiff, Nat.reduceLT, decide_true, decide_false, Bool.false_eq_true]; try rfl) rfl (f27_ok i lo hi _) (by simp only [List.map_cons, List.map_nil, dA, gt_st, full_st, hF, hA, reduceIte, Nat.reduceEqDiff, Nat.reduceLT, decide_true, decide_false, Bool.false_eq_true, List.nil_append, List.append_nil, List.cons_append]; try rfl) (fun H9 g9 => ?_)
        have hB := hB.grow g9
        have hR := hR.grow g9
        by_cases hin : lo ≤ (i : Int) ∧ (i : Int) ≤ hi
        · rw [if_pos ⟨hp, hin⟩] at s1
          refine VI.line' (by simp (maxSteps := 1000000) (disch := (first | omega | (simp only [Heap.next_alloc, Heap.next_set]; omega))) only [D2, mm_max, mm_min, cells_alloc_at, cells_alloc_ne, cells_set_at, cells_set_ne, dop, dA, sets, yfield1, yfieldN, yfieldAddr, Int.reduceNegSucc, Int.reduceEq, Nat.reduceLeDiff, Nat.reduceSub, Nat.reduceAdd, gt_st, full_st, hF, hA, reduceIte, Nat.reduceEqDiff, Nat.reduceLT, decide_true, decide_false, Bool.false_eq_true, hin]; with_reducible rfl) ?_
          (repeat first | refine V.seq ?_ | refine V.block ?_ | refine V.scope ?_ | refine V.skip ?_ | refine V.close ?_)
          refine V.condT (by simp only [dA, gt_st, full_st, hF, hA, reduceIte, Nat.reduceEqDiff, Nat.reduceLT, decide_true, decide_false, Bool.false_eq_true]) ?_
          (repeat first | refine V.seq ?_ | refine V.block ?_ | refine V.scope ?_ | refine V.skip ?_ | refine V.close ?_)
          refine V.line' (by simp (maxSteps := 1000000) (disch := (first | omega | (simp only [Heap.next_alloc, Heap.next_set]; omega))) only [D2, mm_max, mm_min, cells_alloc_at, cells_alloc_ne, cells_set_at, cells_set_ne, dop, dA, sets, yfield1, yfieldN, yfieldAddr, Int.reduceNegSucc, Int.reduceEq, Nat.reduceLeDiff, Nat.reduceSub, Nat.reduceAdd, gt_st, full_st, hF, hA, reduceIte, Nat.reduceEqDiff, Nat.reduceLT, decide_true, decide_false, Bool.false_eq_true]; with_reducible rfl) ?_
          (repeat first | refine V.seq ?_ | refine V.block ?_ | refine V.scope ?_ | refine V.skip ?_ | refine V.close ?_)
          refine V.line' (by simp (maxSteps := 1000000) (disch := (first | omega | (simp only [Heap.next_alloc, Heap.next_set]; omega))) only [D2, mm_max, mm_min, cells_alloc_at, cells_alloc_ne, cells_set_at, cells_set_ne, dop, dA, sets, yfield1, yfieldN, yfieldAddr, Int.reduceNegSucc, Int.reduceEq, Nat.reduceLeDiff, Nat.reduceSub, Nat.reduceAdd, gt_st, full_st, hF, hA, reduceIte, Nat.reduceEqDiff, Nat.reduceLT, decide_true, decide_false, Bool.false_eq_true]; with_reducible rfl) ?_
          (repeat first | refine V.seq ?_ | refine V.block ?_ | refine V.scope ?_ | refine V.skip ?_ | refine V.close ?_)
          refine V.nil (Or.inl ⟨rfl, 121 - (i + 1), by omega, ?_⟩)
          exact ⟨i + 1, true, qo, by omega, rfl, rfl, hB, hR, ⟨fun _ => (by omega), fun _ => rfl⟩, hqo.trans (by omega), (by intro i; simp only [full_st, hF]), (by simp only [Kn, gt_st, full_st, hF, hA, reduceIte, Nat.reduceEqDiff, Nat.reduceLT, decide_true, decide_false, Bool.false_eq_true, and_self, and_true, true_and]; try (repeat' constructor))⟩
        · rw [if_neg (fun x => hin x.2)] at s1
          refine VI.line' (by simp (maxSteps := 1000000) (disch := (first | omega | (simp only [Heap.next_alloc, Heap.next_set]; omega))) only [D2, mm_max, mm_min, cells_alloc_at, cells_alloc_ne, cells_set_at, cells_set_ne, dop, dA, sets, yfield1, yfieldN, yfieldAddr, Int.reduceNegSucc, Int.reduceEq, Nat.reduceLeDiff, Nat.reduceSub, Nat.reduceAdd, gt_st, full_st, hF, hA, reduceIte, Nat.reduceEqDiff, Nat.reduceLT, decide_true, decide_false, Bool.false_eq_true, hin]; with_reducible rfl) ?_
          (repeat first | refine V.seq ?_ | refine V.block ?_ | refine V.scope ?_ | refine V.skip ?_ | refine V.close ?_)
          refine V.condF (by simp only [dA, gt_st, full_st, hF, hA, reduceIte, Nat.reduceEqDiff, Nat.reduceLT, decide_true, decide_false, Bool.false_eq_true]) ?_
          (repeat first | refine V.seq ?_ | refine V.block ?_ | refine V.scope ?_ | refine V.skip ?_ | refine V.close ?_)
          refine V.line' (by simp (maxSteps := 1000000) (disch := (first | omega | (simp only [Heap.next_alloc, Heap.next_set]; omega))) only [D2, mm_max, mm_min, cells_alloc_at, cells_alloc_ne, cells_set_at, cells_set_ne, dop, dA, sets, yfield1, yfieldN, yfieldAddr, Int.reduceNegSucc, Int.reduceEq, Nat.reduceLeDiff, Nat.reduceSub, Nat.reduceAdd, gt_st, full_st, hF, hA, reduceIte, Nat.reduceEqDiff, Nat.reduceLT, decide_true, decide_false, Bool.false_eq_true, idx_arr hi', hR.2, An_get hi', hp]; with_reducible rfl) ?_
          (repeat first | refine V.seq ?_ | refine V.block ?_ | refine V.scope ?_ | refine V.skip ?_ | refine V.close ?_)
          refine V.condT (by simp only [dA, gt_st, full_st, hF, hA, reduceIte, Nat.reduceEqDiff, Nat.reduceLT, decide_true, decide_false, Bool.false_eq_true]) ?_
          (repeat first | refine V.seq ?_ | refine V.block ?_ | refine V.scope ?_ | refine V.skip ?_ | refine V.close ?_)
          refine V.line' (by simp (maxSteps := 1000000) (disch := (first | omega | (simp only [Heap.next_alloc, Heap.next_set]; omega))) only [D2, mm_max, mm_min, cells_alloc_at, cells_alloc_ne, cells_set_at, cells_set_ne, dop, dA, sets, yfield1, yfieldN, yfieldAddr, Int.reduceNegSucc, Int.reduceEq, Nat.reduceLeDiff, Nat.reduceSub, Nat.reduceAdd, gt_st, full_st, hF, hA, reduceIte, Nat.reduceEqDiff, Nat.reduceLT, decide_true, decide_false, Bool.false_eq_true]; with_reducible rfl) ?_
          (repeat first | refine V.seq ?_ | refine V.block ?_ | refine V.scope ?_ | refine V.skip ?_ | refine V.close ?_)
          refine V.line' (by simp (maxSteps := 1000000) (disch := (first | omega | (simp only [Heap.next_alloc, Heap.next_set]; omega))) only [D2, mm_max, mm_min, cells_alloc_at, cells_alloc_ne, cells_set_at, cells_set_ne, dop, dA, sets, yfield1, yfieldN, yfieldAddr, Int.reduceNegSucc, Int.reduceEq, Nat.reduceLeDiff, Nat.reduceSub, Nat.reduceAdd, gt_st, full_st, hF, hA, reduceIte, Nat.reduceEqDiff, Nat.reduceLT, decide_true, decide_false, Bool.false_eq_true]; with_reducible rfl) ?_
          (repeat first | refine V.seq ?_ | refine V.block ?_ | refine V.scope ?_ | refine V.skip ?_ | refine V.close ?_)
          refine V.nil (Or.inl ⟨rfl, 121 - (i + 1), by omega, ?_⟩)
          exact ⟨i + 1, qi, true, by omega, rfl, rfl, hB, hR, hqi.trans (by omega), ⟨fun _ => (by omega), fun _ => rfl⟩, (by intro i; simp only [full_st, hF]), (by simp only [Kn, gt_st, full_st, hF, hA, reduceIte, Nat.reduceEqDiff, Nat.reduceLT, decide_true, decide_false, Bool.false_eq_true, and_self, and_true, true_and]; try (repeat' constructor))⟩
      · have hp' : pp a b c d l[k] i = false := by simpa using hp
        rw [if_neg (fun x => hp x.1)] at s1 s2
        refine VI.line' (by simp (maxSteps := 1000000) (disch := (first | omega | (simp only [Heap.next_alloc, Heap.next_set]; omega))) only [D2, mm_max, mm_min, cells_alloc_at, cells_alloc_ne, cells_set_at, cells_set_ne, dop, dA, sets, yfield1, yfieldN, yfieldAddr, Int.reduceNegSucc, Int.reduceEq, Nat.reduceLeDiff, Nat.reduceSub, Nat.reduceAdd, gt_st, full_st, hF, hA, reduceIte, Nat.reduceEqDiff, Nat.reduceLT, decide_true, decide_false, Bool.false_eq_true, idx_arr hi', hR.2, An_get hi', hp']; with_reducible rfl) ?_
        (repeat first | refine V.seq ?_ | refine V.block ?_ | refine V.scope ?_ | refine V.skip ?_ | refine V.close ?_)
        refine V.condF (by simp only [dA, gt_st, full_st, hF, hA, reduceIte, Nat.reduceEqDiff, Nat.reduceLT, decide_true, decide_false, Bool.false_eq_true]) ?_
        (repeat first | refine V.seq ?_ | refine V.block ?_ | refine V.scope ?_ | refine V.skip ?_ | refine V.close ?_)
        refine V.line' (by simp (maxSteps := 1000000) (disch := (first | omega | (simp only [Heap.next_alloc, Heap.next_set]; omega))) only [D2, mm_max, mm_min, cells_alloc_at, cells_alloc_ne, cells_set_at, cells_set_ne, dop, dA, sets, yfield1, yfieldN, yfieldAddr, Int.reduceNegSucc, Int.reduceEq, Nat.reduceLeDiff, Nat.reduceSub, Nat.reduceAdd, gt_st, full_st, hF, hA, reduceIte, Nat.reduceEqDiff, Nat.reduceLT, decide_true, decide_false, Bool.false_eq_true, idx_arr hi', hR.2, An_get hi', hp']; with_reducible rfl) ?_
        (repeat first | refine V.seq ?_ | refine V.block ?_ | refine V.scope ?_ | refine V.skip ?_ | refine V.close ?_)
        refine V.condF (by simp only [dA, gt_st, full_st, hF, hA, reduceIte, Nat.reduceEqDiff, Nat.reduceLT, decide_true, decide_false, Bool.false_eq_true]) ?_
        (repeat first | refine V.seq ?_ | refine V.block ?_ | refine V.scope ?_ | refine V.skip ?_ | refine V.close ?_)
        refine V.line' (by simp (maxSteps := 1000000) (disch := (first | omega | (simp only [Heap.next_alloc, Heap.next_set]; omega))) only [D2, mm_max, mm_min, cells_alloc_at, cells_alloc_ne, cells_set_at, cells_set_ne, dop, dA, sets, yfield1, yfieldN, yfieldAddr, Int.reduceNegSucc, Int.reduceEq, Nat.reduceLeDiff, Nat.reduceSub, Nat.reduceAdd, gt_st, full_st, hF, hA, reduceIte, Nat.reduceEqDiff, Nat.reduceLT, decide_true, decide_false, Bool.false_eq_true]; with_reducible rfl) ?_
        (repeat first | refine V.seq ?_ | refine V.block ?_ | refine V.scope ?_ | refine V.skip ?_ | refine V.close ?_)
        refine V.nil (Or.inl ⟨rfl, 121 - (i + 1), by omega, ?_⟩)
        exact ⟨i + 1, qi, qo, by omega, rfl, rfl, hB, hR, hqi.trans (by omega), hqo.trans (by omega), (by intro i; simp only [full_st, hF]), (by simp only [Kn, gt_st, full_st, hF, hA, reduceIte, Nat.reduceEqDiff, Nat.reduceLT, decide_true, decide_false, Bool.false_eq_true, and_self, and_true, true_and]; try (repeat' constructor))⟩
    · obtain rfl : i = 121 := by omega
      have s3 := hmono 121 (by omega)
      have hk1 : lowC (pp a b c d) lo hi (l.take k) ≤ 200 := by omega
      have hk2 : highC (pp a b c d) lo hi (l.take k) ≤ 200 := by omega
      refine V.exit ?_
      (repeat first | refine V.pass ?_ | refine V.here ?_ | refine V.out (by decide) ?_)
      refine V.nil (Or.inr ⟨by simp, ?_⟩)
      (repeat first | refine V.pass ?_ | refine V.here ?_ | refine V.out (by decide) ?_)
      cases qi with
      | false =>
        have n1 : ct (pp a b c d l[k]) lo hi 121 = 0 := by
          have := mt hqi.2 (by simp)
          omega
        cases qo with
        | false =>
          have n2 : ct (pp a b c d l[k]) 0 120 121 = 0 := by
            have := mt hqo.2 (by simp)
            omega
          (repeat first | refine V.seq ?_ | refine V.block ?_ | refine V.scope ?_ | refine V.skip ?_ | refine V.close ?_)
          refine V.line' (by simp (maxSteps := 1000000) (disch := (first | omega | (simp only [Heap.next_alloc, Heap.next_set]; omega))) only [D2, mm_max, mm_min, cells_alloc_at, cells_alloc_ne, cells_set_at, cells_set_ne, dop, dA, sets, yfield1, yfieldN, yfieldAddr, Int.reduceNegSucc, Int.reduceEq, Nat.reduceLeDiff, Nat.reduceSub, Nat.reduceAdd, gt_st, full_st, hF, hA, reduceIte, Nat.reduceEqDiff, Nat.reduceLT, decide_true, decide_false, Bool.false_eq_true]; with_reducible rfl) ?_
          (repeat first | refine V.seq ?_ | refine V.block ?_ | refine V.scope ?_ | refine V.skip ?_ | refine V.close ?_)
          refine V.condT (by simp only [dA, gt_st, full_st, hF, hA, reduceIte, Nat.reduceEqDiff, Nat.reduceLT, decide_true, decide_false, Bool.false_eq_true]) ?_
          (repeat first | refine V.seq ?_ | refine V.block ?_ | refine V.scope ?_ | refine V.skip ?_ | refine V.close ?_)
          refine V.line' (by simp (maxSteps := 1000000) (disch := (first | omega | (simp only [Heap.next_alloc, Heap.next_set]; omega))) only [D2, mm_max, mm_min, cells_alloc_at, cells_alloc_ne, cells_set_at, cells_set_ne, dop, dA, sets, yfield1, yfieldN, yfieldAddr, Int.reduceNegSucc, Int.reduceEq, Nat.reduceLeDiff, Nat.reduceSub, Nat.reduceAdd, gt_st, full_st, hF, hA, reduceIte, Nat.reduceEqDiff, Nat.reduceLT, decide_true, decide_false, Bool.false_eq_true]; with_reducible rfl) ?_
          (repeat first | refine V.seq ?_ | refine V.block ?_ | refine V.scope ?_ | refine V.skip ?_ | refine V.close ?_)
          refine V.line' (by simp (maxSteps := 1000000) (disch := (first | omega | (simp only [Heap.next_alloc, Heap.next_set]; omega))) only [D2, mm_max, mm_min, cells_alloc_at, cells_alloc_ne, cells_set_at, cells_set_ne, dop, dA, sets, yfield1, yfieldN, yfieldAddr, Int.reduceNegSucc, Int.reduceEq, Nat.reduceLeDiff, Nat.reduceSub, Nat.reduceAdd, gt_st, full_st, hF, hA, reduceIte, Nat.reduceEqDiff, Nat.reduceLT, decide_true, decide_false, Bool.false_eq_true]; with_reducible rfl) ?_
          (repeat first | refine V.seq ?_ | refine V.block ?_ | refine V.scope ?_ | refine V.skip ?_ | refine V.close ?_)
          refine V.condF (by simp only [dA, gt_st, full_st, hF, hA, reduceIte, Nat.reduceEqDiff, Nat.reduceLT, decide_true, decide_false, Bool.false_eq_true]) ?_
          (repeat first | refine V.seq ?_ | refine V.block ?_ | refine V.scope ?_ | refine V.skip ?_ | refine V.close ?_)
          refine V.line' (by simp (maxSteps := 1000000) (disch := (first | omega | (simp only [Heap.next_alloc, Heap.next_set]; omega))) only [D2, mm_max, mm_min, cells_alloc_at, cells_alloc_ne, cells_set_at, cells_set_ne, dop, dA, sets, yfield1, yfieldN, yfieldAddr, Int.reduceNegSucc, Int.reduceEq, Nat.reduceLeDiff, Nat.reduceSub, Nat.reduceAdd, gt_st, full_st, hF, hA, reduceIte, Nat.reduceEqDiff, Nat.reduceLT, decide_true, decide_false, Bool.false_eq_true]; with_reducible rfl) ?_
          (repeat first | refine V.seq ?_ | refine V.block ?_ | refine V.scope ?_ | refine V.skip ?_ | refine V.close ?_)
          refine V.condF (by simp only [dA, gt_st, full_st, hF, hA, reduceIte, Nat.reduceEqDiff, Nat.reduceLT, decide_true, decide_false, Bool.false_eq_true]) ?_
          (repeat first | refine V.seq ?_ | refine V.block ?_ | refine V.scope ?_ | refine V.skip ?_ | refine V.close ?_)
          refine V.line' (by simp (maxSteps := 1000000) (disch := (first | omega | (simp only [Heap.next_alloc, Heap.next_set]; omega))) only [D2, mm_max, mm_min, cells_alloc_at, cells_alloc_ne, cells_set_at, cells_set_ne, dop, dA, sets, yfield1, yfieldN, yfieldAddr, Int.reduceNegSucc, Int.reduceEq, Nat.reduceLeDiff, Nat.reduceSub, Nat.reduceAdd, gt_st, full_st, hF, hA, reduceIte, Nat.reduceEqDiff, Nat.reduceLT, decide_true, decide_false, Bool.false_eq_true]; with_reducible rfl) ?_
          (repeat first | refine V.seq ?_ | refine V.block ?_ | refine V.scope ?_ | refine V.skip ?_ | refine V.close ?_)
          refine V.nil (Or.inl ⟨rfl, l.length - (k + 1), by omega, ?_⟩)
          exact ⟨k + 1, _, _, 9, by omega, rfl, rfl, hB, .inr ⟨by omega, hbad n2⟩, (by intro i; simp only [full_st, hF]), (by simp only [Kn, gt_st, full_st, hF, hA, reduceIte, Nat.reduceEqDiff, Nat.reduceLT, decide_true, decide_false, Bool.false_eq_true, and_self, and_true, true_and]; try (repeat' constructor))⟩
        | true =>
          have n2 := hqo.1 rfl
          rw [if_neg (by omega)] at hf1 hf2
          (repeat first | refine V.seq ?_ | refine V.block ?_ | refine V.scope ?_ | refine V.skip ?_ | refine V.close ?_)
          refine V.line' (by simp (maxSteps := 1000000) (disch := (first | omega | (simp only [Heap.next_alloc, Heap.next_set]; omega))) only [D2, mm_max, mm_min, cells_alloc_at, cells_alloc_ne, cells_set_at, cells_set_ne, dop, dA, sets, yfield1, yfieldN, yfieldAddr, Int.reduceNegSucc, Int.reduceEq, Nat.reduceLeDiff, Nat.reduceSub, Nat.reduceAdd, gt_st, full_st, hF, hA, reduceIte, Nat.reduceEqDiff, Nat.reduceLT, decide_true, decide_false, Bool.false_eq_true]; with_reducible rfl) ?_
          (repeat first | refine V.seq ?_ | refine V.block ?_ | refine V.scope ?_ | refine V.skip ?_ | refine V.close ?_)
          refine V.condF (by simp only [dA, gt_st, full_st, hF, hA, reduceIte, Nat.reduceEqDiff, Nat.reduceLT, decide_true, decide_false, Bool.false_eq_true]) ?_
          (repeat first | refine V.seq ?_ | refine V.block ?_ | refine V.scope ?_ | refine V.skip ?_ | refine V.close ?_)
          refine V.line' (by simp (maxSteps := 1000000) (disch := (first | omega | (simp only [Heap.next_alloc, Heap.next_set]; omega))) only [D2, mm_max, mm_min, cells_alloc_at, cells_alloc_ne, cells_set_at, cells_set_ne, dop, dA, sets, yfield1, yfieldN, yfieldAddr, Int.reduceNegSucc, Int.reduceEq, Nat.reduceLeDiff, Nat.reduceSub, Nat.reduceAdd, gt_st, full_st, hF, hA, reduceIte, Nat.reduceEqDiff, Nat.reduceLT, decide_true, decide_false, Bool.false_eq_true]; with_reducible rfl) ?_
          (repeat first | refine V.seq ?_ | refine V.block ?_ | refine V.scope ?_ | refine V.skip ?_ | refine V.close ?_)
          refine V.condF (by simp only [dA, gt_st, full_st, hF, hA, reduceIte, Nat.reduceEqDiff, Nat.reduceLT, decide_true, decide_false, Bool.false_eq_true]) ?_
          (repeat first | refine V.seq ?_ | refine V.block ?_ | refine V.scope ?_ | refine V.skip ?_ | refine V.close ?_)
          refine V.line' (by simp (maxSteps := 1000000) (disch := (first | omega | (simp only [Heap.next_alloc, Heap.next_set]; omega))) only [D2, mm_max, mm_min, cells_alloc_at, cells_alloc_ne, cells_set_at, cells_set_ne, dop, dA, sets, yfield1, yfieldN, yfieldAddr, Int.reduceNegSucc, Int.reduceEq, Nat.reduceLeDiff, Nat.reduceSub, Nat.reduceAdd, gt_st, full_st, hF, hA, reduceIte, Nat.reduceEqDiff, Nat.reduceLT, decide_true, decide_false, Bool.false_eq_true]; with_reducible rfl) ?_
          (repeat first | refine V.seq ?_ | refine V.block ?_ | refine V.scope ?_ | refine V.skip ?_ | refine V.close ?_)
          refine V.condF (by simp only [dA, gt_st, full_st, hF, hA, reduceIte, Nat.reduceEqDiff, Nat.reduceLT, decide_true, decide_false, Bool.false_eq_true]) ?_
          (repeat first | refine V.seq ?_ | refine V.block ?_ | refine V.scope ?_ | refine V.skip ?_ | refine V.close ?_)
          refine V.line' (by simp (maxSteps := 1000000) (disch := (first | omega | (simp only [Heap.next_alloc, Heap.next_set]; omega))) only [D2, mm_max, mm_min, cells_alloc_at, cells_alloc_ne, cells_set_at, cells_set_ne, dop, dA, sets, yfield1, yfieldN, yfieldAddr, Int.reduceNegSucc, Int.reduceEq, Nat.reduceLeDiff, Nat.reduceSub, Nat.reduceAdd, gt_st, full_st, hF, hA, reduceIte, Nat.reduceEqDiff, Nat.reduceLT, decide_true, decide_false, Bool.false_eq_true]; with_reducible rfl) ?_
          (repeat first | refine V.seq ?_ | refine V.block ?_ | refine V.scope ?_ | refine V.skip ?_ | refine V.close ?_)
          refine V.nil (Or.inl ⟨rfl, l.length - (k + 1), by omega, ?_⟩)
          refine ⟨k + 1, _, _, 0, by omega, rfl, rfl, hB, .inl ⟨rfl, hw0, hnz' (by omega), rfl, rfl⟩, (by intro i; simp only [full_st, hF]), ?_⟩
          rw [show lowC (pp a b c d) lo hi (l.take (k + 1)) = lowC (pp a b c d) lo hi (l.take k) from hf1, show highC (pp a b c d) lo hi (l.take (k + 1)) = highC (pp a b c d) lo hi (l.take k) from hf2]
          exact (by simp only [Kn, gt_st, full_st, hF, hA, reduceIte, Nat.reduceEqDiff, Nat.reduceLT, decide_true, decide_false, Bool.false_eq_true, and_self, and_true, true_and]; try (repeat' constructor))
      | true =>
        have n1 := hqi.1 rfl
        rw [if_pos n1] at hf2
        cases qo with
        | false =>
          have n2 : ct (pp a b c d l[k]) lo hi 121 = ct (pp a b c d l[k]) 0 120 121 := by
            have := mt hqo.2 (by simp)
            omega
          rw [if_pos n2] at hf1
          (repeat first | refine V.seq ?_ | refine V.block ?_ | refine V.scope ?_ | refine V.skip ?_ | refine V.close ?_)
          refine V.line' (by simp (maxSteps := 1000000) (disch := (first | omega | (simp only [Heap.next_alloc, Heap.next_set]; omega))) only [D2, mm_max, mm_min, cells_alloc_at, cells_alloc_ne, cells_set_at, cells_set_ne, dop, dA, sets, yfield1, yfieldN, yfieldAddr, Int.reduceNegSucc, Int.reduceEq, Nat.reduceLeDiff, Nat.reduceSub, Nat.reduceAdd, gt_st, full_st, hF, hA, reduceIte, Nat.reduceEqDiff, Nat.reduceLT, decide_true, decide_false, Bool.false_eq_true]; with_reducible rfl) ?_
          (repeat first | refine V.seq ?_ | refine V.block ?_ | refine V.scope ?_ | refine V.skip ?_ | refine V.close ?_)
          refine V.condF (by simp only [dA, gt_st, full_st, hF, hA, reduceIte, Nat.reduceEqDiff, Nat.reduceLT, decide_true, decide_false, Bool.false_eq_true]) ?_
          (repeat first | refine V.seq ?_ | refine V.block ?_ | refine V.scope ?_ | refine V.skip ?_ | refine V.close ?_)
          refine V.line' (by simp (maxSteps := 1000000) (disch := (first | omega | (simp only [Heap.next_alloc, Heap.next_set]; omega))) only [D2, mm_max, mm_min, cells_alloc_at, cells_alloc_ne, cells_set_at, cells_set_ne, dop, dA, sets, yfield1, yfieldN, yfieldAddr, Int.reduceNegSucc, Int.reduceEq, Nat.reduceLeDiff, Nat.reduceSub, Nat.reduceAdd, gt_st, full_st, hF, hA, reduceIte, Nat.reduceEqDiff, Nat.reduceLT, decide_true, decide_false, Bool.false_eq_true]; with_reducible rfl) ?_
          (repeat first | refine V.seq ?_ | refine V.block ?_ | refine V.scope ?_ | refine V.skip ?_ | refine V.close ?_)
          refine V.condT (by simp only [dA, gt_st, full_st, hF, hA, reduceIte, Nat.reduceEqDiff, Nat.reduceLT, decide_true, decide_false, Bool.false_eq_true]) ?_
          (repeat first | refine V.seq ?_ | refine V.block ?_ | refine V.scope ?_ | refine V.skip ?_ | refine V.close ?_)
          refine V.line' (by simp (maxSteps := 1000000) (disch := (first | omega | (simp only [Heap.next_alloc, Heap.next_set]; omega))) only [D2, mm_max, mm_min, cells_alloc_at, cells_alloc_ne, cells_set_at, cells_set_ne, dop, dA, sets, yfield1, yfieldN, yfieldAddr, Int.reduceNegSucc, Int.reduceEq, Nat.reduceLeDiff, Nat.reduceSub, Nat.reduceAdd, gt_st, full_st, hF, hA, reduceIte, Nat.reduceEqDiff, Nat.reduceLT, decide_true, decide_false, Bool.false_eq_true]; with_reducible rfl) ?_
          (repeat first | refine V.seq ?_ | refine V.block ?_ | refine V.scope ?_ | refine V.skip ?_ | refine V.close ?_)
          refine V.line' (by simp (maxSteps := 1000000) (disch := (first | omega | (simp only [Heap.next_alloc, Heap.next_set]; omega))) only [D2, mm_max, mm_min, cells_alloc_at, cells_alloc_ne, cells_set_at, cells_set_ne, dop, dA, sets, yfield1, yfieldN, yfieldAddr, Int.reduceNegSucc, Int.reduceEq, Nat.reduceLeDiff, Nat.reduceSub, Nat.reduceAdd, gt_st, full_st, hF, hA, reduceIte, Nat.reduceEqDiff, Nat.reduceLT, decide_true, decide_false, Bool.false_eq_true]; with_reducible rfl) ?_
          (repeat first | refine V.seq ?_ | refine V.block ?_ | refine V.scope ?_ | refine V.skip ?_ | refine V.close ?_)
          refine V.condT (by simp only [dA, gt_st, full_st, hF, hA, reduceIte, Nat.reduceEqDiff, Nat.reduceLT, decide_true, decide_false, Bool.false_eq_true]) ?_
          (repeat first | refine V.seq ?_ | refine V.block ?_ | refine V.scope ?_ | refine V.skip ?_ | refine V.close ?_)
          refine V.line' (by simp (maxSteps := 1000000) (disch := (first | omega | (simp only [Heap.next_alloc, Heap.next_set]; omega))) only [D2, mm_max, mm_min, cells_alloc_at, cells_alloc_ne, cells_set_at, cells_set_ne, dop, dA, sets, yfield1, yfieldN, yfieldAddr, Int.reduceNegSucc, Int.reduceEq, Nat.reduceLeDiff, Nat.reduceSub, Nat.reduceAdd, gt_st, full_st, hF, hA, reduceIte, Nat.reduceEqDiff, Nat.reduceLT, decide_true, decide_false, Bool.false_eq_true]; with_reducible rfl) ?_
          (repeat first | refine V.seq ?_ | refine V.block ?_ | refine V.scope ?_ | refine V.skip ?_ | refine V.close ?_)
          refine V.line' (by simp (maxSteps := 1000000) (disch := (first | omega | (simp only [Heap.next_alloc, Heap.next_set]; omega))) only [D2, mm_max, mm_min, cells_alloc_at, cells_alloc_ne, cells_set_at, cells_set_ne, dop, dA, sets, yfield1, yfieldN, yfieldAddr, Int.reduceNegSucc, Int.reduceEq, Nat.reduceLeDiff, Nat.reduceSub, Nat.reduceAdd, gt_st, full_st, hF, hA, reduceIte, Nat.reduceEqDiff, Nat.reduceLT, decide_true, decide_false, Bool.false_eq_true]; with_reducible rfl) ?_
          (repeat first | refine V.seq ?_ | refine V.block ?_ | refine V.scope ?_ | refine V.skip ?_ | refine V.close ?_)
          refine V.nil (Or.inl ⟨rfl, l.length - (k + 1), by omega, ?_⟩)
          refine ⟨k + 1, _, _, 0, by omega, rfl, rfl, hB, .inl ⟨rfl, hw0, hnz' (by omega), rfl, rfl⟩, (by intro i; simp only [full_st, hF]), ?_⟩
          rw [show lowC (pp a b c d) lo hi (l.take (k + 1)) = lowC (pp a b c d) lo hi (l.take k) + 1 from hf1, show highC (pp a b c d) lo hi (l.take (k + 1)) = highC (pp a b c d) lo hi (l.take k) + 1 from hf2]
          exact (by simp only [Kn, gt_st, full_st, hF, hA, reduceIte, Nat.reduceEqDiff, Nat.reduceLT, decide_true, decide_false, Bool.false_eq_true, and_self, and_true, true_and]; try (repeat' constructor))
        | true =>
          have n2 := hqo.1 rfl
          rw [if_neg (by omega)] at hf1
          (repeat first | refine V.seq ?_ | refine V.block ?_ | refine V.scope ?_ | refine V.skip ?_ | refine V.close ?_)
          refine V.line' (by simp (maxSteps := 1000000) (disch := (first | omega | (simp only [Heap.next_alloc, Heap.next_set]; omega))) only [D2, mm_max, mm_min, cells_alloc_at, cells_alloc_ne, cells_set_at, cells_set_ne, dop, dA, sets, yfield1, yfieldN, yfieldAddr, Int.reduceNegSucc, Int.reduceEq, Nat.reduceLeDiff, Nat.reduceSub, Nat.reduceAdd, gt_st, full_st, hF, hA, reduceIte, Nat.reduceEqDiff, Nat.reduceLT, decide_true, decide_false, Bool.false_eq_true]; with_reducible rfl) ?_
          (repeat first | refine V.seq ?_ | refine V.block ?_ | refine V.scope ?_ | refine V.skip ?_ | refine V.close ?_)
          refine V.condF (by simp only [dA, gt_st, full_st, hF, hA, reduceIte, Nat.reduceEqDiff, Nat.reduceLT, decide_true, decide_false, Bool.false_eq_true]) ?_
          (repeat first | refine V.seq ?_ | refine V.block ?_ | refine V.scope ?_ | refine V.skip ?_ | refine V.close ?_)
          refine V.line' (by simp (maxSteps := 1000000) (disch := (first | omega | (simp only [Heap.next_alloc, Heap.next_set]; omega))) only [D2, mm_max, mm_min, cells_alloc_at, cells_alloc_ne, cells_set_at, cells_set_ne, dop, dA, sets, yfield1, yfieldN, yfieldAddr, Int.reduceNegSucc, Int.reduceEq, Nat.reduceLeDiff, Nat.reduceSub, Nat.reduceAdd, gt_st, full_st, hF, hA, reduceIte, Nat.reduceEqDiff, Nat.reduceLT, decide_true, decide_false, Bool.false_eq_true]; with_reducible rfl) ?_
          (repeat first | refine V.seq ?_ | refine V.block ?_ | refine V.scope ?_ | refine V.skip ?_ | refine V.close ?_)
          refine V.condT (by simp only [dA, gt_st, full_st, hF, hA, reduceIte, Nat.reduceEqDiff, Nat.reduceLT, decide_true, decide_false, Bool.false_eq_true]) ?_
          (repeat first | refine V.seq ?_ | refine V.block ?_ | refine V.scope ?_ | refine V.skip ?_ | refine V.close ?_)
          refine V.line' (by simp (maxSteps := 1000000) (disch := (first | omega | (simp only [Heap.next_alloc, Heap.next_set]; omega))) only [D2, mm_max, mm_min, cells_alloc_at, cells_alloc_ne, cells_set_at, cells_set_ne, dop, dA, sets, yfield1, yfieldN, yfieldAddr, Int.reduceNegSucc, Int.reduceEq, Nat.reduceLeDiff, Nat.reduceSub, Nat.reduceAdd, gt_st, full_st, hF, hA, reduceIte, Nat.reduceEqDiff, Nat.reduceLT, decide_true, decide_false, Bool.false_eq_true]; with_reducible rfl) ?_
          (repeat first | refine V.seq ?_ | refine V.block ?_ | refine V.scope ?_ | refine V.skip ?_ | refine V.close ?_)
          refine V.line' (by simp (maxSteps := 1000000) (disch := (first | omega | (simp only [Heap.next_alloc, Heap.next_set]; omega))) only [D2, mm_max, mm_min, cells_alloc_at, cells_alloc_ne, cells_set_at, cells_set_ne, dop, dA, sets, yfield1, yfieldN, yfieldAddr, Int.reduceNegSucc, Int.reduceEq, Nat.reduceLeDiff, Nat.reduceSub, Nat.reduceAdd, gt_st, full_st, hF, hA, reduceIte, Nat.reduceEqDiff, Nat.reduceLT, decide_true, decide_false, Bool.false_eq_true]; with_reducible rfl) ?_
          (repeat first | refine V.seq ?_ | refine V.block ?_ | refine V.scope ?_ | refine V.skip ?_ | refine V.close ?_)
          refine V.condF (by simp only [dA, gt_st, full_st, hF, hA, reduceIte, Nat.reduceEqDiff, Nat.reduceLT, decide_true, decide_false, Bool.false_eq_true]) ?_
          (repeat first | refine V.seq ?_ | refine V.block ?_ | refine V.scope ?_ | refine V.skip ?_ | refine V.close ?_)
          refine V.line' (by simp (maxSteps := 1000000) (disch := (first | omega | (simp only [Heap.next_alloc, Heap.next_set]; omega))) only [D2, mm_max, mm_min, cells_alloc_at, cells_alloc_ne, cells_set_at, cells_set_ne, dop, dA, sets, yfield1, yfieldN, yfieldAddr, Int.reduceNegSucc, Int.reduceEq, Nat.reduceLeDiff, Nat.reduceSub, Nat.reduceAdd, gt_st, full_st, hF, hA, reduceIte, Nat.reduceEqDiff, Nat.reduceLT, decide_true, decide_false, Bool.false_eq_true]; with_reducible rfl) ?_
          (repeat first | refine V.seq ?_ | refine V.block ?_ | refine V.scope ?_ | refine V.skip ?_ | refine V.close ?_)
          refine V.nil (Or.inl ⟨rfl, l.length - (k + 1), by omega, ?_⟩)
          refine ⟨k + 1, _, _, 0, by omega, rfl, rfl, hB, .inl ⟨rfl, hw0, hnz' (by omega), rfl, rfl⟩, (by intro i; simp only [full_st, hF]), ?_⟩
          rw [show lowC (pp a b c d) lo hi (l.take (k + 1)) = lowC (pp a b c d) lo hi (l.take k) from hf1, show highC (pp a b c d) lo hi (l.take (k + 1)) = highC (pp a b c d) lo hi (l.take k) + 1 from hf2]
          exact (by simp only [Kn, gt_st, full_st, hF, hA, reduceIte, Nat.reduceEqDiff, Nat.reduceLT, decide_true, decide_false, Bool.false_eq_true, and_self, and_true, true_and]; try (repeat' constructor))
  · have hq' : ¬ (k < l.length ∧ w = 0) := fun h => by rw [hq.2 h] at h9; cases h9
    clear hq
    refine V.exit ?_
    (repeat first | refine V.pass ?_ | refine V.here ?_ | refine V.out (by decide) ?_)
    refine V.nil (Or.inr ⟨by simp, ?_⟩)
    (repeat first | refine V.pass ?_ | refine V.here ?_ | refine V.out (by decide) ?_)
    (repeat first | refine V.seq ?_ | refine V.block ?_ | refine V.scope ?_ | refine V.skip ?_ | refine V.close ?_)
    refine V.line' (by simp (maxSteps := 1000000) (disch := (first | omega | (simp only [Heap.next_alloc, Heap.next_set]; omega))) only [D2, mm_max, mm_min, cells_alloc_at, cells_alloc_ne, cells_set_at, cells_set_ne, dop, dA, sets, yfield1, yfieldN, yfieldAddr, Int.reduceNegSucc, Int.reduceEq, Nat.reduceLeDiff, Nat.reduceSub, Nat.reduceAdd, gt_st, full_st, hF, hA, reduceIte, Nat.reduceEqDiff, Nat.reduceLT, decide_true, decide_false, Bool.false_eq_true]; with_reducible rfl) ?_
    (repeat first | refine V.seq ?_ | refine V.block ?_ | refine V.scope ?_ | refine V.skip ?_ | refine V.close ?_)
    refine V.condP (by simp only [dA, gt_st, full_st, hF, hA, reduceIte, Nat.reduceEqDiff, Nat.reduceLT, decide_true, decide_false, Bool.false_eq_true]; rfl) (fun h17 => ?_) (fun h17 => ?_)
    · obtain ⟨_, hW⟩ : w ≠ 0 ∧ w = (cw a b c d l lo hi).2.2 := by
        rcases hor with h | h
        · exact absurd h.1 h17
        · exact h
      have hz := cw_zero (a := a) (b := b) (c := c) (d := d) (l := l) (lo := lo) (hi := hi) (by rw [← hW]; exact h17)
      have hj2 := hB.2.2.2
      rw [hz.1, hz.2] at hj2
      have he := eq48 (a := 0) (b := 0) (c := 0) (d := 0) (wf_small (by omega)) (wf_small (by omega)) (wf_small (by omega)) (wf_small (by omega))
      rw [← hW] at hA
      (repeat first | refine V.seq ?_ | refine V.block ?_ | refine V.scope ?_ | refine V.skip ?_ | refine V.close ?_)
      refine V.run ?_
      refine VI.steps' 9 (by simp (maxSteps := 1000000) (disch := (first | omega | (simp only [Heap.next_alloc, Heap.next_set]; omega))) only [D2, mm_max, mm_min, cells_alloc_at, cells_alloc_ne, cells_set_at, cells_set_ne, dop, dA, sets, yfield1, yfieldN, yfieldAddr, Int.reduceNegSucc, Int.reduceEq, Nat.reduceLeDiff, Nat.reduceSub, Nat.reduceAdd, gt_st, full_st, hF, hA, reduceIte, Nat.reduceEqDiff, Nat.reduceLT, decide_true, decide_false, Bool.false_eq_true, hj2.2, he]; with_reducible rfl) ?_
      simp only [List.drop_succ_cons, List.drop_zero]
      refine VI.callAT (by simp only [gt_st, full_st, hF, hA, reduceIte, Nat.reduceEqDiff, Nat.reduceLT, decide_true, decide_false, Bool.false_eq_true]; try rfl) rfl (f26_ok _) (by simp only [List.map_cons, List.map_nil, dA, gt_st, full_st, hF, hA, reduceIte, Nat.reduceEqDiff, Nat.reduceLT, decide_true, decide_false, Bool.false_eq_true, List.nil_append, List.append_nil, List.cons_append]; try rfl) (fun H9 g9 => ?_)
      refine VI.line' (by simp (maxSteps := 1000000) (disch := (first | omega | (simp only [Heap.next_alloc, Heap.next_set]; omega))) only [D2, mm_max, mm_min, cells_alloc_at, cells_alloc_ne, cells_set_at, cells_set_ne, dop, dA, sets, yfield1, yfieldN, yfieldAddr, Int.reduceNegSucc, Int.reduceEq, Nat.reduceLeDiff, Nat.reduceSub, Nat.reduceAdd, gt_st, full_st, hF, hA, reduceIte, Nat.reduceEqDiff, Nat.reduceLT, decide_true, decide_false, Bool.false_eq_true]; with_reducible rfl) ?_
      (repeat first | refine V.seq ?_ | refine V.block ?_ | refine V.scope ?_ | refine V.skip ?_ | refine V.close ?_)
      refine V.ret (V.rets rfl (Lv.retF (by simp (disch := (first | omega | (simp only [Heap.next_alloc, Heap.next_set]; omega))) only [D1, cells_alloc_at, cells_alloc_ne, cells_set_at, cells_set_ne, yres, yres1, yresL, Nat.reduceLeDiff, Nat.reduceSub, Nat.reduceAdd, gt_st, full_st, hF, hA, reduceIte, Nat.reduceEqDiff, Nat.reduceLT, decide_true, decide_false, Bool.false_eq_true]; rfl) ?_))
      rfl
    have hw : w = 0 := by omega
    subst hw
    obtain ⟨_, hw0, hnz, rfl, rfl⟩ : (0 : Int) = 0 ∧ w0 a b c d l lo hi = 0 ∧ (∀ x ∈ l.take k, ct (pp a b c d x) 0 120 121 ≠ 0) ∧ x10 = lowC (pp a b c d) lo hi (l.take k) ∧ x11 = highC (pp a b c d) lo hi (l.take k) := by
      rcases hor with h | h
      · exact h
      · exact absurd rfl h.1
    have hkl : l.take k = l := List.take_of_length_le (by omega)
    rw [hkl] at hnz hA
    obtain ⟨_, hl200, _, _, _, _, hcw⟩ := cw_ok hw0
    have hcw2 : cw a b c d l lo hi = ((lowC (pp a b c d) lo hi l : Int), (highC (pp a b c d) lo hi l : Int), (0 : Int)) := by
      rw [hcw, cw2, if_neg]
      intro h
      obtain ⟨x, hx, h⟩ := List.any_eq_true.1 h
      exact hnz x hx (by simpa using h)
    have hl1 : lowC (pp a b c d) lo hi l ≤ l.length := List.length_filter_le _ _
    have hl2 : highC (pp a b c d) lo hi l ≤ l.length := List.length_filter_le _ _
    have hj2 := hB.2.2.2
    have hg := hB.1
    have hW : (cw a b c d l lo hi).2.2 = 0 := by rw [hcw2]
    rw [hW] at hA
    have e1 : (cw a b c d l lo hi).1 = lowC (pp a b c d) lo hi l := by rw [hcw2]
    have e2 : (cw a b c d l lo hi).2.1 = highC (pp a b c d) lo hi l := by rw [hcw2]
    rw [e1, e2] at hj2
    clear hB hor hcw hcw2 hr
    have he := eq48 (a := lowC (pp a b c d) lo hi l) (b := highC (pp a b c d) lo hi l) (c := lowC (pp a b c d) lo hi l) (d := highC (pp a b c d) lo hi l) (wf_small (by omega)) (wf_small (by omega)) (wf_small (by omega)) (wf_small (by omega))
    (repeat first | refine V.seq ?_ | refine V.block ?_ | refine V.scope ?_ | refine V.skip ?_ | refine V.close ?_)
    refine V.draw ?_
    refine VD.dins 6 (by simp (maxSteps := 1000000) (disch := (first | omega | (simp only [Heap.next_alloc, Heap.next_set]; omega))) only [D2, mm_max, mm_min, cells_alloc_at, cells_alloc_ne, cells_set_at, cells_set_ne, dop, dA, sets, yfield1, yfieldN, yfieldAddr, Int.reduceNegSucc, Int.reduceEq, Nat.reduceLeDiff, Nat.reduceSub, Nat.reduceAdd, gt_st, full_st, hF, hA, reduceIte, Nat.reduceEqDiff, Nat.reduceLT, decide_true, decide_false, Bool.false_eq_true, hj2.2]; with_reducible rfl) ?_
    simp only [List.drop_succ_cons, List.drop_zero]
    refine VD.callAT (by simp only [gt_st, full_st, hF, hA, reduceIte, Nat.reduceEqDiff, Nat.reduceLT, decide_true, decide_false, Bool.false_eq_true]; try rfl) (by simp only [dA, gt_st, full_st, hF, hA, reduceIte, Nat.reduceEqDiff, Nat.reduceLT, decide_true, decide_false, Bool.false_eq_true]; try rfl) (f34_ok _ _ _) (by simp only [List.map_cons, List.map_nil, dA, gt_st, full_st, hF, hA, reduceIte, Nat.reduceEqDiff, Nat.reduceLT, decide_true, decide_false, Bool.false_eq_true, List.nil_append, List.append_nil, List.cons_append]; try rfl) (fun Ha ga => ?_)
    have ja := hj2.grow ga
    refine VD.dins 3 (by simp (maxSteps := 1000000) (disch := (first | omega | (simp only [Heap.next_alloc, Heap.next_set]; omega))) only [D2, mm_max, mm_min, cells_alloc_at, cells_alloc_ne, cells_set_at, cells_set_ne, dop, dA, sets, yfield1, yfieldN, yfieldAddr, Int.reduceNegSucc, Int.reduceEq, Nat.reduceLeDiff, Nat.reduceSub, Nat.reduceAdd, gt_st, full_st, hF, hA, reduceIte, Nat.reduceEqDiff, Nat.reduceLT, decide_true, decide_false, Bool.false_eq_true, he]; with_reducible rfl) ?_
    simp only [List.drop_succ_cons, List.drop_zero]
    refine VD.callAT (by simp only [gt_st, full_st, hF, hA, reduceIte, Nat.reduceEqDiff, Nat.reduceLT, decide_true, decide_false, Bool.false_eq_true]; try rfl) (by simp only [dA, gt_st, full_st, hF, hA, reduceIte, Nat.reduceEqDiff, Nat.reduceLT, decide_true, decide_false, Bool.false_eq_true]; try rfl) (f26_ok _) (by simp only [List.map_cons, List.map_nil, dA, gt_st, full_st, hF, hA, reduceIte, Nat.reduceEqDiff, Nat.reduceLT, decide_true, decide_false, Bool.false_eq_true, List.nil_append, List.append_nil, List.cons_append]; try rfl) (fun Hb gb => ?_)
    have jb := ja.grow gb
    refine VD.lineD' (by simp (maxSteps := 1000000) (disch := (first | omega | (simp only [Heap.next_alloc, Heap.next_set]; omega))) only [D2, mm_max, mm_min, cells_alloc_at, cells_alloc_ne, cells_set_at, cells_set_ne, dop, dA, sets, yfield1, yfieldN, yfieldAddr, Int.reduceNegSucc, Int.reduceEq, Nat.reduceLeDiff, Nat.reduceSub, Nat.reduceAdd, gt_st, full_st, hF, hA, reduceIte, Nat.reduceEqDiff, Nat.reduceLT, decide_true, decide_false, Bool.false_eq_true]; with_reducible rfl) ?_ ?_ rfl ?_
    · simp only [monoG, List.cons_append, List.nil_append, Nat.le_refl, true_and, and_true]
      exact ⟨ga.1, gb.1⟩
    · simp only [dcAll, dcOk, wantD, List.cons_append, List.nil_append, true_and, and_true]
      exact fun _ q hq => by simp only [List.mem_cons, List.not_mem_nil, or_false] at hq; first | (subst hq; exact ⟨_, _, _, rfl, (by simp (maxSteps := 1000000) (disch := (first | omega | (simp only [Heap.next_alloc, Heap.next_set]; omega))) only [D2, mm_max, mm_min, cells_alloc_at, cells_alloc_ne, cells_set_at, cells_set_ne, dop, dA, sets, yfield1, yfieldN, yfieldAddr, Int.reduceNegSucc, Int.reduceEq, Nat.reduceLeDiff, Nat.reduceSub, Nat.reduceAdd, gt_st, full_st, hF, hA, reduceIte, Nat.reduceEqDiff, Nat.reduceLT, decide_true, decide_false, Bool.false_eq_true, hj2.2, ja.2, jb.2]; with_reducible rfl), fun p hp => by cases hp; simp only [gt_st, full_st, hF, hA, reduceIte, Nat.reduceEqDiff, Nat.reduceLT, decide_true, decide_false, Bool.false_eq_true]; first | exact vEq_An | simp [vEq, vEq0, all2]⟩) | (rcases hq with rfl | rfl <;> exact ⟨_, _, _, rfl, (by simp (maxSteps := 1000000) (disch := (first | omega | (simp only [Heap.next_alloc, Heap.next_set]; omega))) only [D2, mm_max, mm_min, cells_alloc_at, cells_alloc_ne, cells_set_at, cells_set_ne, dop, dA, sets, yfield1, yfieldN, yfieldAddr, Int.reduceNegSucc, Int.reduceEq, Nat.reduceLeDiff, Nat.reduceSub, Nat.reduceAdd, gt_st, full_st, hF, hA, reduceIte, Nat.reduceEqDiff, Nat.reduceLT, decide_true, decide_false, Bool.false_eq_true, hj2.2, ja.2, jb.2]; with_reducible rfl), fun p hp => by cases hp; simp only [gt_st, full_st, hF, hA, reduceIte, Nat.reduceEqDiff, Nat.reduceLT, decide_true, decide_false, Bool.false_eq_true]; first | exact vEq_An | simp [vEq, vEq0, all2]⟩) | (rcases hq with rfl | rfl | rfl <;> exact ⟨_, _, _, rfl, (by simp (maxSteps := 1000000) (disch := (first | omega | (simp only [Heap.next_alloc, Heap.next_set]; omega))) only [D2, mm_max, mm_min, cells_alloc_at, cells_alloc_ne, cells_set_at, cells_set_ne, dop, dA, sets, yfield1, yfieldN, yfieldAddr, Int.reduceNegSucc, Int.reduceEq, Nat.reduceLeDiff, Nat.reduceSub, Nat.reduceAdd, gt_st, full_st, hF, hA, reduceIte, Nat.reduceEqDiff, Nat.reduceLT, decide_true, decide_false, Bool.false_eq_true, hj2.2, ja.2, jb.2]; with_reducible rfl), fun p hp => by cases hp; simp only [gt_st, full_st, hF, hA, reduceIte, Nat.reduceEqDiff, Nat.reduceLT, decide_true, decide_false, Bool.false_eq_true]; first | exact vEq_An | simp [vEq, vEq0, all2]⟩)
    (repeat first | refine V.seq ?_ | refine V.block ?_ | refine V.scope ?_ | refine V.skip ?_ | refine V.close ?_)
    refine V.ret (V.rets rfl (Lv.retF (by simp (disch := (first | omega | (simp only [Heap.next_alloc, Heap.next_set]; omega))) only [D1, cells_alloc_at, cells_alloc_ne, cells_set_at, cells_set_ne, yres, yres1, yresL, Nat.reduceLeDiff, Nat.reduceSub, Nat.reduceAdd, gt_st, full_st, hF, hA, reduceIte, Nat.reduceEqDiff, Nat.reduceLT, decide_true, decide_false, Bool.false_eq_true]; rfl) ?_))
    rfl
end Go.Xe.TAX
