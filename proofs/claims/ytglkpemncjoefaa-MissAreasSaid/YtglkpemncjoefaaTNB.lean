/- What the functions of the layer miss come to: fractions compared. Conditions: none. -/
import Derived.Test.YtglkpemncjoefaaTNA
-- MOD TM
namespace Go.Xe.TMX
open Go Go.Xe Go.Proofs Go.Xe.Mth
open Nat renaming reduceLeDiff → qA, reduceSub → qB, reduceAdd → qC, reduceEqDiff → qD, reduceLT → qE
open Int renaming reduceNegSucc → qF, reduceEq → qG
set_option maxRecDepth 100000
set_option maxHeartbeats 3200000
set_option linter.unusedSimpArgs false
noncomputable def d93 : FCode := (.seq (.run (.go (.move (.con (.int .u64 (.ofNat 0)))) (pth 4)::
.go (.move (.con (.int .u64 (.ofNat 0)))) (pth 5)::
[])) (.seq (.run (.go (.move (.tmp (pth 0))) (pth 14)::
.go (.bin .and 135 (.tmp (pth 14)) (.con (.int .u64 (.ofNat 4294967295)))) (pth 15)::
.go (.move (.tmp (pth 15))) (pth 6)::
[])) (.seq (.run (.go (.move (.tmp (pth 0))) (pth 16)::
.go (.bin .shr 135 (.tmp (pth 16)) (.con (.int .u64 (.ofNat 32)))) (pth 17)::
.go (.move (.tmp (pth 17))) (pth 7)::
[])) (.seq (.run (.go (.move (.tmp (pth 1))) (pth 18)::
.go (.bin .and 135 (.tmp (pth 18)) (.con (.int .u64 (.ofNat 4294967295)))) (pth 19)::
.go (.move (.tmp (pth 19))) (pth 8)::
[])) (.seq (.run (.go (.move (.tmp (pth 1))) (pth 20)::
.go (.bin .shr 135 (.tmp (pth 20)) (.con (.int .u64 (.ofNat 32)))) (pth 21)::
.go (.move (.tmp (pth 21))) (pth 9)::
[])) (.seq (.run (.go (.move (.tmp (pth 6))) (pth 22)::
.go (.move (.tmp (pth 8))) (pth 23)::
.go (.bin .mul 135 (.tmp (pth 22)) (.tmp (pth 23))) (pth 24)::
.go (.move (.tmp (pth 24))) (pth 10)::
[])) (.seq (.run (.go (.move (.tmp (pth 7))) (pth 25)::
.go (.move (.tmp (pth 8))) (pth 26)::
.go (.bin .mul 135 (.tmp (pth 25)) (.tmp (pth 26))) (pth 27)::
.go (.move (.tmp (pth 10))) (pth 28)::
.go (.bin .shr 135 (.tmp (pth 28)) (.con (.int .u64 (.ofNat 32)))) (pth 29)::
.go (.bin .add 135 (.tmp (pth 27)) (.tmp (pth 29))) (pth 30)::
.go (.move (.tmp (pth 30))) (pth 11)::
[])) (.seq (.run (.go (.move (.tmp (pth 11))) (pth 31)::
.go (.bin .and 135 (.tmp (pth 31)) (.con (.int .u64 (.ofNat 4294967295)))) (pth 32)::
.go (.move (.tmp (pth 32))) (pth 12)::
[])) (.seq (.run (.go (.move (.tmp (pth 11))) (pth 33)::
.go (.bin .shr 135 (.tmp (pth 33)) (.con (.int .u64 (.ofNat 32)))) (pth 34)::
.go (.move (.tmp (pth 34))) (pth 13)::
[])) (.seq (.run (.go (.move (.tmp (pth 12))) (pth 35)::
.go (.move (.tmp (pth 6))) (pth 36)::
.go (.move (.tmp (pth 9))) (pth 37)::
.go (.bin .mul 135 (.tmp (pth 36)) (.tmp (pth 37))) (pth 38)::
.go (.bin .add 135 (.tmp (pth 35)) (.tmp (pth 38))) (pth 39)::
.go (.move (.tmp (pth 39))) (pth 12)::
[])) (.seq (.run (.go (.move (.tmp (pth 7))) (pth 40)::
.go (.move (.tmp (pth 9))) (pth 41)::
.go (.bin .mul 135 (.tmp (pth 40)) (.tmp (pth 41))) (pth 42)::
.go (.move (.tmp (pth 13))) (pth 43)::
.go (.bin .add 135 (.tmp (pth 42)) (.tmp (pth 43))) (pth 44)::
.go (.move (.tmp (pth 12))) (pth 45)::
.go (.bin .shr 135 (.tmp (pth 45)) (.con (.int .u64 (.ofNat 32)))) (pth 46)::
.go (.bin .add 135 (.tmp (pth 44)) (.tmp (pth 46))) (pth 47)::
.go (.move (.tmp (pth 47))) (pth 4)::
[])) (.seq (.run (.go (.move (.tmp (pth 0))) (pth 48)::
.go (.move (.tmp (pth 1))) (pth 49)::
.go (.bin .mul 135 (.tmp (pth 48)) (.tmp (pth 49))) (pth 50)::
.go (.move (.tmp (pth 50))) (pth 5)::
[])) .ret))))))))))))
theorem de93 : @compF Try.prog (Gl.none Try.prog) Try.f93 2 = .mk d93 (mkTT 51) [(pth 0),(pth 1)] [.tmp (pth 4),.tmp (pth 5)] := by kernel_rfl
theorem dg93 : Try.prog.funcs[93]? = some Try.f93 := Try.func93
theorem do93 : okF Try.prog Try.f93 = true := by kernel_rfl
noncomputable def d110 : FCode := (.seq (.run (.go (.move (.con (.bool false))) (pth 2)::
[])) (.seq (.run (.go (.move (.tmp (pth 0))) (pth 3)::
.go (.move (.tmp (pth 0))) (pth 4)::
.go (.bin .neq 135 (.tmp (pth 3)) (.tmp (pth 4))) (pth 5)::
.go (.move (.tmp (pth 5))) (pth 2)::
[])) .ret))
theorem de110 : @compF Try.prog (Gl.none Try.prog) Try.f110 1 = .mk d110 (mkTT 6) [(pth 0)] [.tmp (pth 2)] := by kernel_rfl
theorem dg110 : Try.prog.funcs[110]? = some Try.f110 := Try.func110
theorem do110 : okF Try.prog Try.f110 = true := by kernel_rfl
noncomputable def d95 : FCode := (.seq (.run (.go (.move (.con (.int .i64 (.ofNat 0)))) (pth 4)::
[])) (.seq (.run (.go (.move (.tmp (pth 0))) (pth 7)::
.go (.call (.con (.func (.func 110) ⟨[]⟩ ⟨[]⟩)) [(.tmp (pth 7))]) (pth 8)::
.go (.move (.tmp (pth 8))) (pth 5)::
[])) (.seq (.run (.go (.move (.tmp (pth 1))) (pth 9)::
.go (.call (.con (.func (.func 110) ⟨[]⟩ ⟨[]⟩)) [(.tmp (pth 9))]) (pth 10)::
.go (.move (.tmp (pth 10))) (pth 6)::
[])) (.seq (.seq (.run (.go (.move (.tmp (pth 5))) (pth 11)::
[])) (.cond (.tmp (pth 11)) (.seq (.seq (.run (.go (.move (.tmp (pth 6))) (pth 12)::
[])) (.cond (.tmp (pth 12)) (.seq (.run (.go (.move (.con (.int .i64 (.ofNat 0)))) (pth 4)::
[])) .ret) .skip)) (.seq (.run (.go (.move (.con (.int .i64 (.negSucc 0)))) (pth 4)::
[])) .ret)) .skip)) (.seq (.seq (.run (.go (.move (.tmp (pth 6))) (pth 13)::
[])) (.cond (.tmp (pth 13)) (.seq (.run (.go (.move (.con (.int .i64 (.ofNat 1)))) (pth 4)::
[])) .ret) .skip)) (.seq (.seq (.run (.go (.move (.tmp (pth 0))) (pth 14)::
.go (.move (.tmp (pth 1))) (pth 15)::
.go (.bin .lss 135 (.tmp (pth 14)) (.tmp (pth 15))) (pth 16)::
[])) (.cond (.tmp (pth 16)) (.seq (.run (.go (.move (.con (.int .i64 (.negSucc 0)))) (pth 4)::
[])) .ret) .skip)) (.seq (.seq (.run (.go (.move (.tmp (pth 0))) (pth 17)::
.go (.move (.tmp (pth 1))) (pth 18)::
.go (.bin .gtr 135 (.tmp (pth 17)) (.tmp (pth 18))) (pth 19)::
[])) (.cond (.tmp (pth 19)) (.seq (.run (.go (.move (.con (.int .i64 (.ofNat 1)))) (pth 4)::
[])) .ret) .skip)) (.seq (.run (.go (.move (.con (.int .i64 (.ofNat 0)))) (pth 4)::
[])) .ret))))))))
theorem de95 : @compF Try.prog (Gl.none Try.prog) Try.f95 2 = .mk d95 (mkTT 20) [(pth 0),(pth 1)] [.tmp (pth 4)] := by kernel_rfl
theorem dg95 : Try.prog.funcs[95]? = some Try.f95 := Try.func95
theorem do95 : okF Try.prog Try.f95 = true := by kernel_rfl
abbrev Q (n : Nat) : Value := .int .u64 (n : Int)
theorem wrap_u (x : Int) : IntKind.u64.wrap x = x % 18446744073709551616 := by
  unfold IntKind.wrap
  have e1 : (2 ^ IntKind.u64.bits : Int) = 18446744073709551616 := by decide
  have e2 : IntKind.u64.signed = false := rfl
  simp only [e1, e2, Bool.false_and, Bool.false_eq_true, if_false]
theorem wrap_u64 {n : Nat} (h : n < 18446744073709551616) : IntKind.u64.wrap (n : Int) = n := by
  rw [wrap_u]; omega
theorem and32 {ty : TypeId} {n : Nat} (h : n < 18446744073709551616) : xbinOp Try.prog .and ty (Q n) (.int .u64 4294967295) = some (Q (n % 4294967296)) := by
  have e : (BitVec.ofInt 64 (n : Int) &&& BitVec.ofInt 64 4294967295).toNat = n % 4294967296 := by
    rw [BitVec.toNat_and]
    have e1 : (BitVec.ofInt 64 (n : Int)).toNat = n := by
      rw [BitVec.toNat_ofInt]; show ((n : Int) % 18446744073709551616).toNat = n; omega
    have e2 : (BitVec.ofInt 64 4294967295).toNat = 2 ^ 32 - 1 := by rfl
    rw [e1, e2, Nat.and_two_pow_sub_one_eq_mod]
  show some (Value.int .u64 (IntKind.u64.wrap (((BitVec.ofInt 64 (n : Int) &&& BitVec.ofInt 64 4294967295).toNat : Nat) : Int))) = _
  rw [e, wrap_u64 (by omega)]
theorem shr32 {ty : TypeId} {n : Nat} : xbinOp Try.prog .shr ty (Q n) (.int .u64 32) = some (Q (n / 4294967296)) := by
  show (if (32 : Int) < 0 then none else some (Value.int .u64 ((n : Int).fdiv (2 ^ (min (32 : Int).toNat 64))))) = _
  rw [if_neg (by omega)]
  have e : (2 : Int) ^ (min (32 : Int).toNat 64) = 4294967296 := by decide
  rw [e, Int.fdiv_eq_ediv_of_nonneg _ (by omega)]
  rfl
theorem mul64 {x y : Nat} : ∃ A B C D, A = (x / 4294967296) * (y / 4294967296) ∧ B = (x / 4294967296) * (y % 4294967296) ∧ C = (x % 4294967296) * (y / 4294967296) ∧ D = (x % 4294967296) * (y % 4294967296) ∧ x * y = A * 18446744073709551616 + (B + C) * 4294967296 + D := by
  refine ⟨_, _, _, _, rfl, rfl, rfl, rfl, ?_⟩
  have hx : x = x / 4294967296 * 4294967296 + x % 4294967296 := by omega
  have hy : y = y / 4294967296 * 4294967296 + y % 4294967296 := by omega
  generalize x / 4294967296 = x1 at *
  generalize x % 4294967296 = x0 at *
  generalize y / 4294967296 = y1 at *
  generalize y % 4294967296 = y0 at *
  subst hx hy
  have e1 : x1 * 4294967296 * (y1 * 4294967296) = x1 * y1 * 18446744073709551616 := by rw [Nat.mul_mul_mul_comm]
  have e2 : x1 * 4294967296 * y0 = x1 * y0 * 4294967296 := Nat.mul_right_comm _ _ _
  have e3 : x0 * (y1 * 4294967296) = x0 * y1 * 4294967296 := (Nat.mul_assoc _ _ _).symm
  rw [Nat.add_mul, Nat.mul_add, Nat.mul_add, e1, e2, e3]
  omega
theorem f93_ok {x y : Nat} (hx : x < 18446744073709551616) (hy : y < 18446744073709551616) (H : Heap) : Gives Try.prog 93 [Q x, Q y] H (.tuple ⟨[Q (x * y / 18446744073709551616), Q (x * y % 18446744073709551616)]⟩) := by
  obtain ⟨A, B, C, D, hA', hB, hC, hD, hs⟩ := mul64 (x := x) (y := y)
  have a0 : x % 4294967296 ≤ 4294967295 := by omega
  have a1 : x / 4294967296 ≤ 4294967295 := by omega
  have b0 : y % 4294967296 ≤ 4294967295 := by omega
  have b1 : y / 4294967296 ≤ 4294967295 := by omega
  have A1 : A ≤ 4294967295 * 4294967295 := hA' ▸ Nat.mul_le_mul a1 b1
  have B1 : B ≤ 4294967295 * 4294967295 := hB ▸ Nat.mul_le_mul a1 b0
  have C1 : C ≤ 4294967295 * 4294967295 := hC ▸ Nat.mul_le_mul a0 b1
  have D1 : D ≤ 4294967295 * 4294967295 := hD ▸ Nat.mul_le_mul a0 b0
  have p1 : ((x % 4294967296 : Nat) : Int) * ((y % 4294967296 : Nat) : Int) = (D : Int) := by rw [hD]; rfl
  have p2 : ((x / 4294967296 : Nat) : Int) * ((y % 4294967296 : Nat) : Int) = (B : Int) := by rw [hB]; rfl
  have p3 : ((x % 4294967296 : Nat) : Int) * ((y / 4294967296 : Nat) : Int) = (C : Int) := by rw [hC]; rfl
  have p4 : ((x / 4294967296 : Nat) : Int) * ((y / 4294967296 : Nat) : Int) = (A : Int) := by rw [hA']; rfl
  have p5 : (x : Int) * (y : Int) = ((x * y : Nat) : Int) := rfl
  have w1 := wrap_u64 (n := D) (by omega)
  have w2 := wrap_u64 (n := B) (by omega)
  have w3 := wrap_u64 (n := C) (by omega)
  have w4 := wrap_u64 (n := A) (by omega)
  have s1 : (B : Int) + ((D / 4294967296 : Nat) : Int) = ((B + D / 4294967296 : Nat) : Int) := rfl
  have w5 := wrap_u64 (n := B + D / 4294967296) (by omega)
  have s2 : (((B + D / 4294967296) % 4294967296 : Nat) : Int) + (C : Int) = (((B + D / 4294967296) % 4294967296 + C : Nat) : Int) := rfl
  have w6 := wrap_u64 (n := (B + D / 4294967296) % 4294967296 + C) (by omega)
  have s3 : (A : Int) + (((B + D / 4294967296) / 4294967296 : Nat) : Int) = ((A + (B + D / 4294967296) / 4294967296 : Nat) : Int) := rfl
  have w7 := wrap_u64 (n := A + (B + D / 4294967296) / 4294967296) (by omega)
  have s4 : ((A + (B + D / 4294967296) / 4294967296 : Nat) : Int) + ((((B + D / 4294967296) % 4294967296 + C) / 4294967296 : Nat) : Int) = ((x * y / 18446744073709551616 : Nat) : Int) := by
    rw [← Int.natCast_add]; congr 1; omega
  have hxy : x * y / 18446744073709551616 < 18446744073709551616 := by omega
  have w8 := wrap_u64 (n := x * y / 18446744073709551616) hxy
  have w9 : IntKind.u64.wrap ((x * y : Nat) : Int) = ((x * y % 18446744073709551616 : Nat) : Int) := by
    rw [wrap_u]; rfl
  have m1 := fun (ty : TypeId) (n : Nat) (h : n < 18446744073709551616) => and32 (ty := ty) (n := n) h
  have m2 := m1 135 x hx
  have m3 := m1 135 y hy
  have m4 := m1 135 (B + D / 4294967296) (by omega)
  have h1 := shr32 (ty := 135) (n := x)
  have h2 := shr32 (ty := 135) (n := y)
  have h3 := shr32 (ty := 135) (n := D)
  have h4 := shr32 (ty := 135) (n := B + D / 4294967296)
  have h5 := shr32 (ty := 135) (n := (B + D / 4294967296) % 4294967296 + C)
  refine F.entryL rfl dg93 do93 de93 rfl (by kernel_rfl) ?_
  simp only [sets]
  refine V.re [(0, Q x), (1, Q y)] (N := 51) (by intro i; simp only [full_st, Full.mk]) (by simp only [Kn, gt_st, full_st, Full.mk, ↓reduceIte, qD, qE, decide_true, and_self]) ?_
  intro t hF hA
  simp only [Kn, and_true] at hA
  (repeat first|apply V.seq|apply V.block|apply V.scope|apply V.skip|apply V.close)
  refine V.line' (by simp +contextual (disch := first|omega|simp only [nx];omega) only [D4,qF,qG,qA,qB,qC,D5,hF,hA,↓reduceIte,qD,qE]; with_reducible rfl) ?_
  (repeat first|apply V.seq|apply V.block|apply V.scope|apply V.skip|apply V.close)
  refine V.line' (by simp +contextual (disch := first|omega|simp only [nx];omega) only [D4,qF,qG,qA,qB,qC,D5,hF,hA,↓reduceIte,qD,qE, m2]; with_reducible rfl) ?_
  (repeat first|apply V.seq|apply V.block|apply V.scope|apply V.skip|apply V.close)
  refine V.line' (by simp +contextual (disch := first|omega|simp only [nx];omega) only [D4,qF,qG,qA,qB,qC,D5,hF,hA,↓reduceIte,qD,qE, h1]; with_reducible rfl) ?_
  (repeat first|apply V.seq|apply V.block|apply V.scope|apply V.skip|apply V.close)
  refine V.line' (by simp +contextual (disch := first|omega|simp only [nx];omega) only [D4,qF,qG,qA,qB,qC,D5,hF,hA,↓reduceIte,qD,qE, m3]; with_reducible rfl) ?_
  (repeat first|apply V.seq|apply V.block|apply V.scope|apply V.skip|apply V.close)
  refine V.line' (by simp +contextual (disch := first|omega|simp only [nx];omega) only [D4,qF,qG,qA,qB,qC,D5,hF,hA,↓reduceIte,qD,qE, h2]; with_reducible rfl) ?_
  (repeat first|apply V.seq|apply V.block|apply V.scope|apply V.skip|apply V.close)
  refine V.re [(0, Q x), (1, Q y), (6, Q (x % 4294967296)), (7, Q (x / 4294967296)), (8, Q (y % 4294967296)), (9, Q (y / 4294967296))] (N := 51) (by intro i; simp only [full_st, hF]) (by simp only [Kn, D5,hF,hA,↓reduceIte,qD,qE, and_self, and_true, true_and]; try (repeat' constructor)) ?_
  clear hF hA
  intro t hF hA
  simp only [Kn, and_true] at hA
  refine V.line' (by simp +contextual (disch := first|omega|simp only [nx];omega) only [D4,qF,qG,qA,qB,qC,D5,hF,hA,↓reduceIte,qD,qE, p1, w1]; with_reducible rfl) ?_
  (repeat first|apply V.seq|apply V.block|apply V.scope|apply V.skip|apply V.close)
  refine V.line' (by simp +contextual (disch := first|omega|simp only [nx];omega) only [D4,qF,qG,qA,qB,qC,D5,hF,hA,↓reduceIte,qD,qE, p2, w2, h3, s1, w5]; with_reducible rfl) ?_
  (repeat first|apply V.seq|apply V.block|apply V.scope|apply V.skip|apply V.close)
  refine V.line' (by simp +contextual (disch := first|omega|simp only [nx];omega) only [D4,qF,qG,qA,qB,qC,D5,hF,hA,↓reduceIte,qD,qE, m4]; with_reducible rfl) ?_
  (repeat first|apply V.seq|apply V.block|apply V.scope|apply V.skip|apply V.close)
  refine V.line' (by simp +contextual (disch := first|omega|simp only [nx];omega) only [D4,qF,qG,qA,qB,qC,D5,hF,hA,↓reduceIte,qD,qE, h4]; with_reducible rfl) ?_
  (repeat first|apply V.seq|apply V.block|apply V.scope|apply V.skip|apply V.close)
  refine V.re [(0, Q x), (1, Q y), (6, Q (x % 4294967296)), (7, Q (x / 4294967296)), (9, Q (y / 4294967296)), (12, Q ((B + D / 4294967296) % 4294967296)), (13, Q ((B + D / 4294967296) / 4294967296))] (N := 51) (by intro i; simp only [full_st, hF]) (by simp only [Kn, D5,hF,hA,↓reduceIte,qD,qE, and_self, and_true, true_and]; try (repeat' constructor)) ?_
  clear hF hA
  intro t hF hA
  simp only [Kn, and_true] at hA
  refine V.line' (by simp +contextual (disch := first|omega|simp only [nx];omega) only [D4,qF,qG,qA,qB,qC,D5,hF,hA,↓reduceIte,qD,qE, p3, w3, s2, w6]; with_reducible rfl) ?_
  (repeat first|apply V.seq|apply V.block|apply V.scope|apply V.skip|apply V.close)
  refine V.line' (by simp +contextual (disch := first|omega|simp only [nx];omega) only [D4,qF,qG,qA,qB,qC,D5,hF,hA,↓reduceIte,qD,qE, p4, w4, s3, w7, h5, s4, w8]; with_reducible rfl) ?_
  (repeat first|apply V.seq|apply V.block|apply V.scope|apply V.skip|apply V.close)
  refine V.line' (by simp +contextual (disch := first|omega|simp only [nx];omega) only [D4,qF,qG,qA,qB,qC,D5,hF,hA,↓reduceIte,qD,qE, p5, w9]; with_reducible rfl) ?_
  (repeat first|apply V.seq|apply V.block|apply V.scope|apply V.skip|apply V.close)
  refine V.ret (V.rets rfl (Lv.retG (by simp +contextual (disch := first|omega|simp only [nx];omega) only [D1, cells_alloc_at, cells_alloc_ne, cells_set_at, cells_set_ne, yres, yres1, yresL, qA, qB, qC, D5,hF,hA,↓reduceIte,qD,qE]; rfl) ?_ ?_))
  · (repeat first | assumption | exact Grow.refl _ | refine Grow.alloc ?_ _ | refine Grow.set ?_ (by first|omega|simp only [nx];omega) _)
  · rfl
def cmpN (a b : Nat) : Int := if a < b then -1 else if b < a then 1 else 0
theorem f110_ok (x : Nat) (H : Heap) : Gives Try.prog 110 [Q x] H (.bool false) := by
  refine F.entryL rfl dg110 do110 de110 rfl (by kernel_rfl) ?_
  simp only [sets]
  refine V.re [(0, Q x)] (N := 6) (by intro i; simp only [full_st, Full.mk]) (by simp only [Kn, gt_st, full_st, Full.mk, ↓reduceIte, qD, qE, decide_true, and_self]) ?_
  intro t hF hA
  simp only [Kn, and_true] at hA
  (repeat first|apply V.seq|apply V.block|apply V.scope|apply V.skip|apply V.close)
  refine V.line' (by simp +contextual (disch := first|omega|simp only [nx];omega) only [D4,qF,qG,qA,qB,qC,D5,hF,hA,↓reduceIte,qD,qE]; with_reducible rfl) ?_
  (repeat first|apply V.seq|apply V.block|apply V.scope|apply V.skip|apply V.close)
  refine V.line' (by simp +contextual (disch := first|omega|simp only [nx];omega) only [D4,qF,qG,qA,qB,qC,D5,hF,hA,↓reduceIte,qD,qE, ne_eq, not_true_eq_false]; with_reducible rfl) ?_
  (repeat first|apply V.seq|apply V.block|apply V.scope|apply V.skip|apply V.close)
  refine V.ret (V.rets rfl (Lv.retG (by simp +contextual (disch := first|omega|simp only [nx];omega) only [D1, cells_alloc_at, cells_alloc_ne, cells_set_at, cells_set_ne, yres, yres1, yresL, qA, qB, qC, D5,hF,hA,↓reduceIte,qD,qE]; rfl) ?_ ?_))
  · (repeat first | assumption | exact Grow.refl _ | refine Grow.alloc ?_ _ | refine Grow.set ?_ (by first|omega|simp only [nx];omega) _)
  · rfl
theorem f95_ok (x y : Nat) (H : Heap) : Gives Try.prog 95 [Q x, Q y] H (I (cmpN x y)) := by
  refine F.entryL rfl dg95 do95 de95 rfl (by kernel_rfl) ?_
  simp only [sets]
  refine V.re [(0, Q x), (1, Q y)] (N := 20) (by intro i; simp only [full_st, Full.mk]) (by simp only [Kn, gt_st, full_st, Full.mk, ↓reduceIte, qD, qE, decide_true, and_self]) ?_
  intro t hF hA
  simp only [Kn, and_true] at hA
  (repeat first|apply V.seq|apply V.block|apply V.scope|apply V.skip|apply V.close)
  refine V.line' (by simp +contextual (disch := first|omega|simp only [nx];omega) only [D4,qF,qG,qA,qB,qC,D5,hF,hA,↓reduceIte,qD,qE]; with_reducible rfl) ?_
  (repeat first|apply V.seq|apply V.block|apply V.scope|apply V.skip|apply V.close)
  refine V.run ?_
  refine VI.steps' 1 (by simp +contextual (disch := first|omega|simp only [nx];omega) only [D4,qF,qG,qA,qB,qC,D5,hF,hA,↓reduceIte,qD,qE]; with_reducible rfl) ?_
  simp only [ds]
  refine VI.callA rfl (f110_ok x _) (by simp only [D6,D5,hF,hA,↓reduceIte,qD,qE]; try rfl) (fun H1 g1 => ?_)
  refine VI.line' (by simp +contextual (disch := first|omega|simp only [nx];omega) only [D4,qF,qG,qA,qB,qC,D5,hF,hA,↓reduceIte,qD,qE]; with_reducible rfl) ?_
  (repeat first|apply V.seq|apply V.block|apply V.scope|apply V.skip|apply V.close)
  refine V.run ?_
  refine VI.steps' 1 (by simp +contextual (disch := first|omega|simp only [nx];omega) only [D4,qF,qG,qA,qB,qC,D5,hF,hA,↓reduceIte,qD,qE]; with_reducible rfl) ?_
  simp only [ds]
  refine VI.callA rfl (f110_ok y _) (by simp only [D6,D5,hF,hA,↓reduceIte,qD,qE]; try rfl) (fun H2 g2 => ?_)
  have gg := g1.trans g2
  refine VI.line' (by simp +contextual (disch := first|omega|simp only [nx];omega) only [D4,qF,qG,qA,qB,qC,D5,hF,hA,↓reduceIte,qD,qE]; with_reducible rfl) ?_
  (repeat first|apply V.seq|apply V.block|apply V.scope|apply V.skip|apply V.close)
  refine V.line' (by simp +contextual (disch := first|omega|simp only [nx];omega) only [D4,qF,qG,qA,qB,qC,D5,hF,hA,↓reduceIte,qD,qE]; with_reducible rfl) ?_
  (repeat first|apply V.seq|apply V.block|apply V.scope|apply V.skip|apply V.close)
  refine V.condF (by simp only [D6,D5,hF,hA,↓reduceIte,qD,qE]) ?_
  (repeat first|apply V.seq|apply V.block|apply V.scope|apply V.skip|apply V.close)
  refine V.line' (by simp +contextual (disch := first|omega|simp only [nx];omega) only [D4,qF,qG,qA,qB,qC,D5,hF,hA,↓reduceIte,qD,qE]; with_reducible rfl) ?_
  (repeat first|apply V.seq|apply V.block|apply V.scope|apply V.skip|apply V.close)
  refine V.condF (by simp only [D6,D5,hF,hA,↓reduceIte,qD,qE]) ?_
  (repeat first|apply V.seq|apply V.block|apply V.scope|apply V.skip|apply V.close)
  refine V.line' (by simp +contextual (disch := first|omega|simp only [nx];omega) only [D4,qF,qG,qA,qB,qC,D5,hF,hA,↓reduceIte,qD,qE]; with_reducible rfl) ?_
  (repeat first|apply V.seq|apply V.block|apply V.scope|apply V.skip|apply V.close)
  refine V.condP (by simp only [D6,D5,hF,hA,↓reduceIte,qD,qE]; rfl) (fun h => ?_) (fun h => ?_)
  · (repeat first|apply V.seq|apply V.block|apply V.scope|apply V.skip|apply V.close)
    refine V.line' (by simp +contextual (disch := first|omega|simp only [nx];omega) only [D4,qF,qG,qA,qB,qC,D5,hF,hA,↓reduceIte,qD,qE]; with_reducible rfl) ?_
    (repeat first|apply V.seq|apply V.block|apply V.scope|apply V.skip|apply V.close)
    refine V.ret (V.rets rfl (Lv.retG (by simp +contextual (disch := first|omega|simp only [nx];omega) only [D1, cells_alloc_at, cells_alloc_ne, cells_set_at, cells_set_ne, yres, yres1, yresL, qA, qB, qC, D5,hF,hA,↓reduceIte,qD,qE]; rfl) ?_ ?_))
    · exact gg
    · unfold cmpN; rw [if_pos (by omega)]
  (repeat first|apply V.seq|apply V.block|apply V.scope|apply V.skip|apply V.close)
  refine V.line' (by simp +contextual (disch := first|omega|simp only [nx];omega) only [D4,qF,qG,qA,qB,qC,D5,hF,hA,↓reduceIte,qD,qE]; with_reducible rfl) ?_
  (repeat first|apply V.seq|apply V.block|apply V.scope|apply V.skip|apply V.close)
  refine V.condP (by simp only [D6,D5,hF,hA,↓reduceIte,qD,qE]; rfl) (fun h1 => ?_) (fun h1 => ?_)
  · (repeat first|apply V.seq|apply V.block|apply V.scope|apply V.skip|apply V.close)
    refine V.line' (by simp +contextual (disch := first|omega|simp only [nx];omega) only [D4,qF,qG,qA,qB,qC,D5,hF,hA,↓reduceIte,qD,qE]; with_reducible rfl) ?_
    (repeat first|apply V.seq|apply V.block|apply V.scope|apply V.skip|apply V.close)
    refine V.ret (V.rets rfl (Lv.retG (by simp +contextual (disch := first|omega|simp only [nx];omega) only [D1, cells_alloc_at, cells_alloc_ne, cells_set_at, cells_set_ne, yres, yres1, yresL, qA, qB, qC, D5,hF,hA,↓reduceIte,qD,qE]; rfl) ?_ ?_))
    · exact gg
    · unfold cmpN; rw [if_neg (by omega), if_pos (by omega)]
  (repeat first|apply V.seq|apply V.block|apply V.scope|apply V.skip|apply V.close)
  refine V.line' (by simp +contextual (disch := first|omega|simp only [nx];omega) only [D4,qF,qG,qA,qB,qC,D5,hF,hA,↓reduceIte,qD,qE]; with_reducible rfl) ?_
  (repeat first|apply V.seq|apply V.block|apply V.scope|apply V.skip|apply V.close)
  refine V.ret (V.rets rfl (Lv.retG (by simp +contextual (disch := first|omega|simp only [nx];omega) only [D1, cells_alloc_at, cells_alloc_ne, cells_set_at, cells_set_ne, yres, yres1, yresL, qA, qB, qC, D5,hF,hA,↓reduceIte,qD,qE]; rfl) ?_ ?_))
  · exact gg
  · unfold cmpN; rw [if_neg (by omega), if_neg (by omega)]
end Go.Xe.TMX
