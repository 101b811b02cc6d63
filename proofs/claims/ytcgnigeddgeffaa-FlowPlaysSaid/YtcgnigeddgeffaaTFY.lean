/- What the functions of the layer flow come to: what is valid. Conditions: none. -/
import Derived.Test.YtcgnigeddgeffaaTFX
-- MOD TF
namespace Go.Xe.TFX
open Go Go.Xe Go.Proofs
open Nat renaming reduceLeDiff → qA, reduceSub → qB, reduceAdd → qC, reduceEqDiff → qD, reduceLT → qE
open Int renaming reduceNegSucc → qF, reduceEq → qG
open Go.Xe.Flw
set_option maxRecDepth 100000
set_option maxHeartbeats 3200000
set_option linter.unusedSimpArgs false
noncomputable def d18 : FCode := (.seq (.run (.go (.box 25 (.tmp (pth 0))) (pth 1)::
.go (.move (.con (.bool false))) (pth 2)::
[])) (.seq (.seq (.run (.go (.move (.con (.int .i64 (.ofNat 0)))) (pth 3)::
[])) (.block 0 (.loop (.seq (.seq (.run (.go (.move (.tmp (pth 3))) (pth 4)::
.go (.fieldAddr 0 (.tmp (pth 1))) (pth 5)::
.go (.load1 (.tmp (pth 5))) (pth 6)::
.go (.len 0 (.tmp (pth 6))) (pth 7)::
.go (.bin .lss 3 (.tmp (pth 4)) (.tmp (pth 7))) (pth 8)::
.go (.move (.tmp (pth 8))) (pth 9)::
.gd (pth 9) true (.move (.tmp (pth 3))) (pth 10)::
.gd (pth 9) true (.bin .lss 3 (.tmp (pth 10)) (.con (.int .i64 (.ofNat 8)))) (pth 11)::
.go (.pick (.tmp (pth 9)) (.tmp (pth 11)) (.con (.bool false))) (pth 12)::
[])) (.cond (.tmp (pth 12)) .skip (.exit 0))) (.seq (.block 1 (.seq (.run (.go (.fieldAddr 0 (.tmp (pth 1))) (pth 15)::
.go (.load1 (.tmp (pth 15))) (pth 16)::
.go (.move (.tmp (pth 3))) (pth 17)::
.go (.indexAddr none 1 (.tmp (pth 16)) (.tmp (pth 17))) (pth 18)::
.go (.load1 (.tmp (pth 18))) (pth 19)::
.go (.len 0 (.tmp (pth 19))) (pth 20)::
.go (.bin .gtr 3 (.tmp (pth 20)) (.con (.int .i64 (.ofNat 7)))) (pth 21)::
[])) (.cond (.tmp (pth 21)) (.seq (.run (.go (.move (.con (.bool false))) (pth 2)::
[])) .ret) .skip))) (.run (.go (.move (.tmp (pth 3))) (pth 13)::
.go (.bin .add 3 (.tmp (pth 13)) (.con (.int .i64 (.ofNat 1)))) (pth 14)::
.go (.move (.tmp (pth 14))) (pth 3)::
[]))))))) (.seq (.run (.go (.fieldAddr 0 (.tmp (pth 1))) (pth 22)::
.go (.load1 (.tmp (pth 22))) (pth 23)::
.go (.len 0 (.tmp (pth 23))) (pth 24)::
.go (.bin .leq 3 (.tmp (pth 24)) (.con (.int .i64 (.ofNat 7)))) (pth 25)::
.go (.move (.tmp (pth 25))) (pth 26)::
.gd (pth 26) true (.fieldAddr 1 (.tmp (pth 1))) (pth 27)::
.gd (pth 26) true (.load1 (.tmp (pth 27))) (pth 28)::
.gd (pth 26) true (.len 0 (.tmp (pth 28))) (pth 29)::
.gd (pth 26) true (.bin .leq 3 (.tmp (pth 29)) (.con (.int .i64 (.ofNat 7)))) (pth 30)::
.go (.pick (.tmp (pth 26)) (.tmp (pth 30)) (.con (.bool false))) (pth 31)::
.go (.move (.tmp (pth 31))) (pth 32)::
.gd (pth 32) true (.fieldAddr 2 (.tmp (pth 1))) (pth 33)::
.gd (pth 32) true (.load1 (.tmp (pth 33))) (pth 34)::
.gd (pth 32) true (.len 0 (.tmp (pth 34))) (pth 35)::
.gd (pth 32) true (.bin .leq 3 (.tmp (pth 35)) (.con (.int .i64 (.ofNat 7)))) (pth 36)::
.go (.pick (.tmp (pth 32)) (.tmp (pth 36)) (.con (.bool false))) (pth 37)::
.go (.move (.tmp (pth 37))) (pth 38)::
.gd (pth 38) true (.fieldAddr 3 (.tmp (pth 1))) (pth 39)::
.gd (pth 38) true (.load1 (.tmp (pth 39))) (pth 40)::
.gd (pth 38) true (.len 0 (.tmp (pth 40))) (pth 41)::
.gd (pth 38) true (.bin .leq 3 (.tmp (pth 41)) (.con (.int .i64 (.ofNat 7)))) (pth 42)::
.go (.pick (.tmp (pth 38)) (.tmp (pth 42)) (.con (.bool false))) (pth 43)::
.go (.move (.tmp (pth 43))) (pth 2)::
[])) .ret)))
theorem de18 : @compF Try.prog (Gl.none Try.prog) Try.f18 1 = .mk d18 (mkTT 44) [(pth 0)] [.tmp (pth 2)] := by kernel_rfl
theorem dg18 : Try.prog.funcs[18]? = some Try.f18 := Try.func18
theorem do18 : okF Try.prog Try.f18 = true := by kernel_rfl
noncomputable def d70 : FCode := (.seq (.run (.go (.box 25 (.tmp (pth 0))) (pth 1)::
.go (.move (.con (.int .i64 (.ofNat 0)))) (pth 2)::
[])) (.seq (.seq (.run (.go (.fieldAddr 0 (.tmp (pth 1))) (pth 8)::
.go (.load1 (.tmp (pth 8))) (pth 9)::
.go (.len 0 (.tmp (pth 9))) (pth 10)::
.go (.bin .gtr 3 (.tmp (pth 10)) (.con (.int .i64 (.ofNat 4)))) (pth 11)::
.go (.move (.tmp (pth 11))) (pth 12)::
.gd (pth 12) false (.loadN 4 (.tmp (pth 1))) (pth 13)::
.gd (pth 12) false (.call (.con (.func (.func 34) ⟨[]⟩ ⟨[]⟩)) [(.tmp (pth 13))]) (pth 14)::
.gd (pth 12) false (.bin .gtr 3 (.tmp (pth 14)) (.con (.int .i64 (.ofNat 4)))) (pth 15)::
.go (.pick (.tmp (pth 12)) (.con (.bool true)) (.tmp (pth 15))) (pth 16)::
[])) (.cond (.tmp (pth 16)) (.seq (.run (.go (.move (.con (.int .i64 (.ofNat 3)))) (pth 2)::
[])) .ret) .skip)) (.seq (.seq (.draw 30 (.go (.loadN 4 (.tmp (pth 1))) (pth 17)::
.go (.call (.con (.func (.func 34) ⟨[]⟩ ⟨[]⟩)) [(.tmp (pth 17))]) (pth 18)::
.go (.bin .lss 3 (.tmp (pth 18)) (.con (.int .i64 (.ofNat 2)))) (pth 19)::
.go (.move (.tmp (pth 19))) (pth 20)::
.gd (pth 20) false (.fieldAddr 1 (.tmp (pth 1))) (pth 21)::
.gd (pth 20) false (.load1 (.tmp (pth 21))) (pth 22)::
.gd (pth 20) false (.len 0 (.tmp (pth 22))) (pth 23)::
.gd (pth 20) false (.fieldAddr 0 (.tmp (pth 1))) (pth 24)::
.gd (pth 20) false (.load1 (.tmp (pth 24))) (pth 25)::
.gd (pth 20) false (.len 0 (.tmp (pth 25))) (pth 26)::
.gd (pth 20) false (.bin .sub 3 (.tmp (pth 26)) (.con (.int .i64 (.ofNat 1)))) (pth 27)::
.gd (pth 20) false (.bin .neq 3 (.tmp (pth 23)) (.tmp (pth 27))) (pth 28)::
.go (.pick (.tmp (pth 20)) (.con (.bool true)) (.tmp (pth 28))) (pth 29)::
.go (.move (.tmp (pth 29))) (pth 30)::
.gd (pth 30) false (.fieldAddr 2 (.tmp (pth 1))) (pth 31)::
.gd (pth 30) false (.load1 (.tmp (pth 31))) (pth 32)::
.gd (pth 30) false (.len 0 (.tmp (pth 32))) (pth 33)::
.gd (pth 30) false (.loadN 4 (.tmp (pth 1))) (pth 34)::
.gd (pth 30) false (.call (.con (.func (.func 34) ⟨[]⟩ ⟨[]⟩)) [(.tmp (pth 34))]) (pth 35)::
.gd (pth 30) false (.bin .add 3 (.tmp (pth 35)) (.con (.int .i64 (.ofNat 1)))) (pth 36)::
.gd (pth 30) false (.bin .neq 3 (.tmp (pth 33)) (.tmp (pth 36))) (pth 37)::
.go (.pick (.tmp (pth 30)) (.con (.bool true)) (.tmp (pth 37))) (pth 38)::
.go (.move (.tmp (pth 38))) (pth 39)::
.gd (pth 39) false (.fieldAddr 3 (.tmp (pth 1))) (pth 40)::
.gd (pth 39) false (.load1 (.tmp (pth 40))) (pth 41)::
.gd (pth 39) false (.len 0 (.tmp (pth 41))) (pth 42)::
.gd (pth 39) false (.loadN 4 (.tmp (pth 1))) (pth 43)::
.gd (pth 39) false (.call (.con (.func (.func 34) ⟨[]⟩ ⟨[]⟩)) [(.tmp (pth 43))]) (pth 44)::
.gd (pth 39) false (.bin .neq 3 (.tmp (pth 42)) (.tmp (pth 44))) (pth 45)::
.go (.pick (.tmp (pth 39)) (.con (.bool true)) (.tmp (pth 45))) (pth 46)::
[]) [.ok,.ok,.ok,.ok,.ok,.ok,.ok,.ok,.ok,.ok,.ok,.ok,.ok,.ok,.ok,.rd (some ((pth 30),false)) (.load1 (.tmp (pth 31))) (some (pth 32)) [19],.rd (some ((pth 30),false)) (.len 0 (.tmp (pth 32))) (some (pth 33)) [19],.ok,.ok,.ok,.ok,.ok,.ok,.ok,.rd (some ((pth 39),false)) (.load1 (.tmp (pth 40))) (some (pth 41)) [28],.rd (some ((pth 39),false)) (.len 0 (.tmp (pth 41))) (some (pth 42)) [28],.ok,.ok,.ok,.ok]) (.cond (.tmp (pth 46)) (.seq (.run (.go (.move (.con (.int .i64 (.ofNat 1)))) (pth 2)::
[])) .ret) .skip)) (.seq (.seq (.run (.go (.move (.con (.int .i64 (.ofNat 0)))) (pth 3)::
[])) (.block 0 (.loop (.seq (.seq (.run (.go (.move (.tmp (pth 3))) (pth 47)::
.go (.fieldAddr 0 (.tmp (pth 1))) (pth 48)::
.go (.load1 (.tmp (pth 48))) (pth 49)::
.go (.len 0 (.tmp (pth 49))) (pth 50)::
.go (.bin .lss 3 (.tmp (pth 47)) (.tmp (pth 50))) (pth 51)::
[])) (.cond (.tmp (pth 51)) .skip (.exit 0))) (.seq (.block 1 (.seq (.seq (.draw 9 (.go (.fieldAddr 0 (.tmp (pth 1))) (pth 54)::
.go (.load1 (.tmp (pth 54))) (pth 55)::
.go (.move (.tmp (pth 3))) (pth 56)::
.go (.indexAddr none 1 (.tmp (pth 55)) (.tmp (pth 56))) (pth 57)::
.go (.load1 (.tmp (pth 57))) (pth 58)::
.go (.len 0 (.tmp (pth 58))) (pth 59)::
.go (.loadN 4 (.tmp (pth 1))) (pth 60)::
.go (.call (.con (.func (.func 34) ⟨[]⟩ ⟨[]⟩)) [(.tmp (pth 60))]) (pth 61)::
.go (.bin .neq 3 (.tmp (pth 59)) (.tmp (pth 61))) (pth 62)::
[]) [.ok,.rd none (.load1 (.tmp (pth 54))) (some (pth 55)) [8],.ok,.ok,.rd none (.load1 (.tmp (pth 57))) (some (pth 58)) [8],.rd none (.len 0 (.tmp (pth 58))) (some (pth 59)) [8],.ok,.ok,.ok]) (.cond (.tmp (pth 62)) (.seq (.run (.go (.move (.con (.int .i64 (.ofNat 1)))) (pth 2)::
[])) .ret) .skip)) (.seq (.run (.go (.move (.con (.int .i64 (.ofNat 0)))) (pth 4)::
[])) (.block 2 (.loop (.seq (.seq (.run (.go (.move (.tmp (pth 4))) (pth 63)::
.go (.fieldAddr 0 (.tmp (pth 1))) (pth 64)::
.go (.load1 (.tmp (pth 64))) (pth 65)::
.go (.move (.tmp (pth 3))) (pth 66)::
.go (.indexAddr none 1 (.tmp (pth 65)) (.tmp (pth 66))) (pth 67)::
.go (.load1 (.tmp (pth 67))) (pth 68)::
.go (.len 0 (.tmp (pth 68))) (pth 69)::
.go (.bin .lss 3 (.tmp (pth 63)) (.tmp (pth 69))) (pth 70)::
[])) (.cond (.tmp (pth 70)) .skip (.exit 2))) (.seq (.block 3 (.seq (.run (.go (.fieldAddr 0 (.tmp (pth 1))) (pth 73)::
.go (.load1 (.tmp (pth 73))) (pth 74)::
.go (.move (.tmp (pth 3))) (pth 75)::
.go (.indexAddr none 1 (.tmp (pth 74)) (.tmp (pth 75))) (pth 76)::
.go (.load1 (.tmp (pth 76))) (pth 77)::
.go (.move (.tmp (pth 4))) (pth 78)::
.go (.indexAddr none 2 (.tmp (pth 77)) (.tmp (pth 78))) (pth 79)::
.go (.loadN 2 (.tmp (pth 79))) (pth 80)::
.go (.call (.con (.func (.func 45) ⟨[]⟩ ⟨[]⟩)) [(.tmp (pth 80)),(.con (.int .i64 (.ofNat 0))),(.con (.int .i64 (.ofNat 500)))]) (pth 81)::
.go (.un .not (.tmp (pth 81))) (pth 82)::
[])) (.cond (.tmp (pth 82)) (.seq (.run (.go (.move (.con (.int .i64 (.ofNat 1)))) (pth 2)::
[])) .ret) .skip))) (.run (.go (.move (.tmp (pth 4))) (pth 71)::
.go (.bin .add 3 (.tmp (pth 71)) (.con (.int .i64 (.ofNat 1)))) (pth 72)::
.go (.move (.tmp (pth 72))) (pth 4)::
[]))))))))) (.run (.go (.move (.tmp (pth 3))) (pth 52)::
.go (.bin .add 3 (.tmp (pth 52)) (.con (.int .i64 (.ofNat 1)))) (pth 53)::
.go (.move (.tmp (pth 53))) (pth 3)::
[]))))))) (.seq (.seq (.run (.go (.move (.con (.int .i64 (.ofNat 0)))) (pth 5)::
[])) (.block 4 (.loop (.seq (.seq (.run (.go (.move (.tmp (pth 5))) (pth 83)::
.go (.fieldAddr 1 (.tmp (pth 1))) (pth 84)::
.go (.load1 (.tmp (pth 84))) (pth 85)::
.go (.len 0 (.tmp (pth 85))) (pth 86)::
.go (.bin .lss 3 (.tmp (pth 83)) (.tmp (pth 86))) (pth 87)::
[])) (.cond (.tmp (pth 87)) .skip (.exit 4))) (.seq (.block 5 (.seq (.run (.go (.fieldAddr 1 (.tmp (pth 1))) (pth 90)::
.go (.load1 (.tmp (pth 90))) (pth 91)::
.go (.move (.tmp (pth 5))) (pth 92)::
.go (.indexAddr none 2 (.tmp (pth 91)) (.tmp (pth 92))) (pth 93)::
.go (.loadN 2 (.tmp (pth 93))) (pth 94)::
.go (.call (.con (.func (.func 45) ⟨[]⟩ ⟨[]⟩)) [(.tmp (pth 94)),(.con (.int .i64 (.ofNat 0))),(.con (.int .i64 (.ofNat 500)))]) (pth 95)::
.go (.un .not (.tmp (pth 95))) (pth 96)::
[])) (.cond (.tmp (pth 96)) (.seq (.run (.go (.move (.con (.int .i64 (.ofNat 1)))) (pth 2)::
[])) .ret) .skip))) (.run (.go (.move (.tmp (pth 5))) (pth 88)::
.go (.bin .add 3 (.tmp (pth 88)) (.con (.int .i64 (.ofNat 1)))) (pth 89)::
.go (.move (.tmp (pth 89))) (pth 5)::
[]))))))) (.seq (.seq (.run (.go (.move (.con (.int .i64 (.ofNat 0)))) (pth 6)::
[])) (.block 6 (.loop (.seq (.seq (.run (.go (.move (.tmp (pth 6))) (pth 97)::
.go (.fieldAddr 2 (.tmp (pth 1))) (pth 98)::
.go (.load1 (.tmp (pth 98))) (pth 99)::
.go (.len 0 (.tmp (pth 99))) (pth 100)::
.go (.bin .lss 3 (.tmp (pth 97)) (.tmp (pth 100))) (pth 101)::
[])) (.cond (.tmp (pth 101)) .skip (.exit 6))) (.seq (.block 7 (.seq (.run (.go (.fieldAddr 2 (.tmp (pth 1))) (pth 104)::
.go (.load1 (.tmp (pth 104))) (pth 105)::
.go (.move (.tmp (pth 6))) (pth 106)::
.go (.indexAddr none 2 (.tmp (pth 105)) (.tmp (pth 106))) (pth 107)::
.go (.loadN 2 (.tmp (pth 107))) (pth 108)::
.go (.call (.con (.func (.func 45) ⟨[]⟩ ⟨[]⟩)) [(.tmp (pth 108)),(.con (.int .i64 (.ofNat 0))),(.con (.int .i64 (.ofNat 1000)))]) (pth 109)::
.go (.un .not (.tmp (pth 109))) (pth 110)::
[])) (.cond (.tmp (pth 110)) (.seq (.run (.go (.move (.con (.int .i64 (.ofNat 1)))) (pth 2)::
[])) .ret) .skip))) (.run (.go (.move (.tmp (pth 6))) (pth 102)::
.go (.bin .add 3 (.tmp (pth 102)) (.con (.int .i64 (.ofNat 1)))) (pth 103)::
.go (.move (.tmp (pth 103))) (pth 6)::
[]))))))) (.seq (.seq (.run (.go (.move (.con (.int .i64 (.ofNat 0)))) (pth 7)::
[])) (.block 8 (.loop (.seq (.seq (.run (.go (.move (.tmp (pth 7))) (pth 111)::
.go (.fieldAddr 3 (.tmp (pth 1))) (pth 112)::
.go (.load1 (.tmp (pth 112))) (pth 113)::
.go (.len 0 (.tmp (pth 113))) (pth 114)::
.go (.bin .lss 3 (.tmp (pth 111)) (.tmp (pth 114))) (pth 115)::
[])) (.cond (.tmp (pth 115)) .skip (.exit 8))) (.seq (.block 9 (.seq (.run (.go (.fieldAddr 3 (.tmp (pth 1))) (pth 118)::
.go (.load1 (.tmp (pth 118))) (pth 119)::
.go (.move (.tmp (pth 7))) (pth 120)::
.go (.indexAddr none 2 (.tmp (pth 119)) (.tmp (pth 120))) (pth 121)::
.go (.loadN 2 (.tmp (pth 121))) (pth 122)::
.go (.call (.con (.func (.func 45) ⟨[]⟩ ⟨[]⟩)) [(.tmp (pth 122)),(.con (.int .i64 (.negSucc 49))),(.con (.int .i64 (.ofNat 50)))]) (pth 123)::
.go (.un .not (.tmp (pth 123))) (pth 124)::
[])) (.cond (.tmp (pth 124)) (.seq (.run (.go (.move (.con (.int .i64 (.ofNat 1)))) (pth 2)::
[])) .ret) .skip))) (.run (.go (.move (.tmp (pth 7))) (pth 116)::
.go (.bin .add 3 (.tmp (pth 116)) (.con (.int .i64 (.ofNat 1)))) (pth 117)::
.go (.move (.tmp (pth 117))) (pth 7)::
[]))))))) (.seq (.run (.go (.move (.con (.int .i64 (.ofNat 0)))) (pth 2)::
[])) .ret))))))))
theorem de70 : @compF Try.prog (Gl.none Try.prog) Try.f70 1 = .mk d70 (mkTT 125) [(pth 0)] [.tmp (pth 2)] := by kernel_rfl
theorem dg70 : Try.prog.funcs[70]? = some Try.f70 := Try.func70
theorem do70 : okF Try.prog Try.f70 = true := by kernel_rfl
def thin (T : Tb) : Prop := (∀ row ∈ T.C.take 8, row.length ≤ 7) ∧ T.C.length ≤ 7 ∧ T.B.length ≤ 7 ∧ T.Rt.length ≤ 7 ∧ T.N.length ≤ 7
instance (T : Tb) : Decidable (thin T) := by unfold thin; infer_instance
theorem thin_sh {T : Tb} (h : thin T) : sh T := by
  obtain ⟨h1, h2, h3, h4, h5⟩ := h
  rw [List.take_of_length_le (by omega)] at h1
  exact ⟨by omega, fun row hr => by have := h1 row hr; omega, by omega, by omega, by omega⟩
theorem f18_ok {H : Heap} {c b r n : Value} {T : Tb} (h : TV H c b r n T) : Gives Try.prog 18 [.agg ⟨[c, b, r, n]⟩] H (.bool (decide (thin T))) := by
  have hlc : ∀ X, ylen 0 X c = some (I T.C.length) := h.c.len
  have hlb : ∀ X, ylen 0 X b = some (I T.B.length) := h.b.len
  have hlr : ∀ X, ylen 0 X r = some (I T.Rt.length) := h.r.len
  have hln : ∀ X, ylen 0 X n = some (I T.N.length) := h.n.len
  refine F.entryL rfl dg18 do18 de18 rfl (by kernel_rfl) ?_
  simp only [sets]
  refine V.re [(0, .agg ⟨[c, b, r, n]⟩)] (N := 44) (by intro i; simp only [full_st, Full.mk]) (by simp only [Kn, gt_st, full_st, Full.mk, ↓reduceIte, qD, qE, decide_true, and_self]) ?_
  intro t hF hA
  simp only [Kn, and_true] at hA
  (repeat first|apply V.seq|apply V.block|apply V.scope|apply V.skip|apply V.close)
  refine V.line' (by simp +contextual (disch := first|omega|simp only [nx];omega) only [D4,qF,qG,qA,qB,qC,D5,hF,hA,↓reduceIte,qD,qE]; with_reducible rfl) ?_
  refine V.heap (fun X => Grow H X ∧ Bx X H.next [c, b, r, n] 25) ⟨?_, ?_⟩ ?_
  · (repeat first | assumption | exact Grow.refl _ | refine Grow.alloc ?_ _ | refine Grow.set ?_ (by first|omega|simp only [nx];omega) _)
  · (repeat first | assumption | exact Bx.new _ _ _ | exact Bx.newAt (by first|omega|simp only [nx];omega) | refine Bx.put (by first|omega|simp only [nx];omega) _ _ | refine Bx.alloc ?_ _ | refine Bx.set ?_ (by first|omega|simp only [nx];omega) _)
  rintro H1 ⟨g1, b1⟩
  (repeat first|apply V.seq|apply V.block|apply V.scope|apply V.skip|apply V.close)
  refine V.line' (by simp +contextual (disch := first|omega|simp only [nx];omega) only [D4,qF,qG,qA,qB,qC,D5,hF,hA,↓reduceIte,qD,qE]; with_reducible rfl) ?_
  (repeat first|apply V.seq|apply V.block|apply V.scope|apply V.skip|apply V.close)
  refine V.loop (fun z t m X => ∃ (k : Nat), k ≤ T.C.length ∧ k ≤ 8 ∧ z = 8 - k ∧ m = [] ∧ Grow H1 X ∧ (∀ row ∈ T.C.take k, row.length ≤ 7) ∧ Full 44 t ∧ Kn [(1, .pointer (some ⟨H.next, 0, none⟩)), (3, I k)] t) 8 ?_ ?_
  · exact ⟨0, by omega, by omega, by omega, rfl, .refl _, by simp, (by intro i; simp only [full_st, hF]), (by simp only [Kn, D5,hF,hA,↓reduceIte,qD,qE, and_self, and_true, true_and]; try (repeat' constructor))⟩
  clear hF hA
  rintro z t m X ⟨k, hk, hk8, rfl, rfl, hg, hall, hF, hA⟩
  simp only [Kn, and_true] at hA
  have bx := b1.grow hg
  (repeat first|apply V.seq|apply V.block|apply V.scope|apply V.skip|apply V.close)
  refine V.line' (by simp +contextual (disch := first|omega|simp only [nx];omega) only [D4,qF,qG,qA,qB,qC,D5,hF,hA,↓reduceIte,qD,qE, bx.2, hlc]; with_reducible rfl) ?_
  (repeat first|apply V.seq|apply V.block|apply V.scope|apply V.skip|apply V.close)
  refine V.condP (by simp only [D6,D5,hF,hA,↓reduceIte,qD,qE]; rfl) (fun hlt => ?_) (fun hlt => ?_)
  · have hlt' : k < T.C.length ∧ k < 8 := by omega
    obtain ⟨p, x, hp, hx⟩ := h.c.at rp hlt'.1
    obtain ⟨hx1, hx2⟩ := hx _ (g1.trans hg)
    have hpk := hp .i64
    have hxl := hx2.len
    (repeat first|apply V.seq|apply V.block|apply V.scope|apply V.skip|apply V.close)
    refine V.line' (by simp +contextual (disch := first|omega|simp only [nx];omega) only [D4,qF,qG,qA,qB,qC,D5,hF,hA,↓reduceIte,qD,qE, bx.2, hpk, hx1, hxl]; with_reducible rfl) ?_
    (repeat first|apply V.seq|apply V.block|apply V.scope|apply V.skip|apply V.close)
    refine V.condP (by simp only [D6,D5,hF,hA,↓reduceIte,qD,qE]; rfl) (fun h7 => ?_) (fun h7 => ?_)
    · (repeat first|apply V.seq|apply V.block|apply V.scope|apply V.skip|apply V.close)
      refine V.line' (by simp +contextual (disch := first|omega|simp only [nx];omega) only [D4,qF,qG,qA,qB,qC,D5,hF,hA,↓reduceIte,qD,qE]; with_reducible rfl) ?_
      (repeat first|apply V.seq|apply V.block|apply V.scope|apply V.skip|apply V.close)
      refine V.ret (V.rets rfl (Or.inr ⟨by simp, V.rets rfl (Lv.retG (by simp +contextual (disch := first|omega|simp only [nx];omega) only [D1, cells_alloc_at, cells_alloc_ne, cells_set_at, cells_set_ne, yres, yres1, yresL, qA, qB, qC, D5,hF,hA,↓reduceIte,qD,qE]; rfl) ?_ ?_)⟩))
      · exact g1.trans hg
      · congr 1
        symm
        refine decide_eq_false (fun hh => ?_)
        have := hh.1 T.C[k] (List.mem_take_iff_getElem.2 ⟨k, by omega, rfl⟩)
        omega
    · (repeat first|apply V.seq|apply V.block|apply V.scope|apply V.skip|apply V.close)
      refine V.line' (by simp +contextual (disch := first|omega|simp only [nx];omega) only [D4,qF,qG,qA,qB,qC,D5,hF,hA,↓reduceIte,qD,qE]; with_reducible rfl) ?_
      refine V.nil (Or.inl ⟨rfl, 8 - (k + 1), by omega, ?_⟩)
      refine ⟨k + 1, by omega, by omega, rfl, rfl, hg, ?_, (by intro i; simp only [full_st, hF]), (by simp only [Kn, D5,hF,hA,↓reduceIte,qD,qE, and_self, and_true, true_and]; try (repeat' constructor))⟩
      intro row hr
      rw [List.take_succ_eq_append_getElem hlt'.1] at hr
      rcases List.mem_append.1 hr with hr | hr
      · exact hall row hr
      · rw [List.mem_singleton.1 hr]; omega
  · refine V.exit ?_
    (repeat first | refine V.pass ?_ | refine V.here ?_ | refine V.out (by decide) ?_)
    refine V.nil (Or.inr ⟨by simp, ?_⟩)
    (repeat first | refine V.pass ?_ | refine V.here ?_ | refine V.out (by decide) ?_)
    (repeat first|apply V.seq|apply V.block|apply V.scope|apply V.skip|apply V.close)
    refine V.line' (by simp +contextual (disch := first|omega|simp only [nx];omega) only [D4,qF,qG,qA,qB,qC,D5,hF,hA,↓reduceIte,qD,qE, bx.2, hlc, hlb, hlr, hln]; with_reducible rfl) ?_
    (repeat first|apply V.seq|apply V.block|apply V.scope|apply V.skip|apply V.close)
    refine V.ret (V.rets rfl (Lv.retG (by simp +contextual (disch := first|omega|simp only [nx];omega) only [D1, cells_alloc_at, cells_alloc_ne, cells_set_at, cells_set_ne, yres, yres1, yresL, qA, qB, qC, D5,hF,hA,↓reduceIte,qD,qE]; rfl) ?_ ?_))
    · exact g1.trans hg
    · congr 1
      rw [decide_eq_decide]
      have e : T.C.take 8 = T.C.take k := by
        rcases (by omega : k = 8 ∨ k = T.C.length) with e | e
        · rw [e]
        · rw [e, List.take_length, List.take_of_length_le (by omega)]
      unfold thin
      rw [e]
      constructor
      · intro hh; exact ⟨hall, by omega, by omega, by omega, by omega⟩
      · rintro ⟨_, h2, h3, h4, h5⟩; omega
def fit (T : Tb) : Prop := T.C.length ≤ 4 ∧ grp T ≤ 4
def val (T : Tb) : Prop := 2 ≤ grp T ∧ T.B.length + 1 = T.C.length ∧ T.Rt.length = grp T + 1 ∧ T.N.length = grp T ∧ (∀ row ∈ T.C, row.length = grp T ∧ ∀ r ∈ row, wi 0 500 r) ∧ (∀ r ∈ T.B, wi 0 500 r) ∧ (∀ r ∈ T.Rt, wi 0 1000 r) ∧ ∀ r ∈ T.N, wi (-50) 50 r
instance (T : Tb) : Decidable (fit T) := by unfold fit; infer_instance
instance (T : Tb) : Decidable (val T) := by unfold val; infer_instance
def flt (T : Tb) : Int := if ¬ fit T then 3 else if ¬ val T then 1 else 0
theorem f70_ok {H : Heap} {c b r n : Value} {T : Tb} (h : TV H c b r n T) : Gives Try.prog 70 [.agg ⟨[c, b, r, n]⟩] H (I (flt T)) := by
  have hlc : ∀ X, ylen 0 X c = some (I T.C.length) := h.c.len
  have hlb : ∀ X, ylen 0 X b = some (I T.B.length) := h.b.len
  have hlr : ∀ X, ylen 0 X r = some (I T.Rt.length) := h.r.len
  have hln : ∀ X, ylen 0 X n = some (I T.N.length) := h.n.len
  refine F.entryL rfl dg70 do70 de70 rfl (by kernel_rfl) ?_
  simp only [sets]
  refine V.re [(0, .agg ⟨[c, b, r, n]⟩)] (N := 125) (by intro i; simp only [full_st, Full.mk]) (by simp only [Kn, gt_st, full_st, Full.mk, ↓reduceIte, qD, qE, decide_true, and_self]) ?_
  intro t hF hA
  simp only [Kn, and_true] at hA
  (repeat first|apply V.seq|apply V.block|apply V.scope|apply V.skip|apply V.close)
  refine V.line' (by simp +contextual (disch := first|omega|simp only [nx];omega) only [D4,qF,qG,qA,qB,qC,D5,hF,hA,↓reduceIte,qD,qE]; with_reducible rfl) ?_
  refine V.heap (fun X => Grow H X ∧ Bx X H.next [c, b, r, n] 25) ⟨?_, ?_⟩ ?_
  · (repeat first | assumption | exact Grow.refl _ | refine Grow.alloc ?_ _ | refine Grow.set ?_ (by first|omega|simp only [nx];omega) _)
  · (repeat first | assumption | exact Bx.new _ _ _ | exact Bx.newAt (by first|omega|simp only [nx];omega) | refine Bx.put (by first|omega|simp only [nx];omega) _ _ | refine Bx.alloc ?_ _ | refine Bx.set ?_ (by first|omega|simp only [nx];omega) _)
  rintro H1 ⟨g1, b1⟩
  (repeat first|apply V.seq|apply V.block|apply V.scope|apply V.skip|apply V.close)
  refine V.run ?_
  refine VI.steps' 6 (by simp +contextual (disch := first|omega|simp only [nx];omega) only [D4,qF,qG,qA,qB,qC,D5,hF,hA,↓reduceIte,qD,qE, b1.2, hlc]; with_reducible rfl) ?_
  simp only [ds]
  first | refine VI.callGt (by simp only [D5,hF,hA,↓reduceIte,qD,qE]; try rfl) (fun hc => by simp only [D6,D5,hF,hA,↓reduceIte,qD,qE, hc, and_self, and_true, true_and, not_false_eq_true]; try rfl) (fun hc => f34_ok (h.grow g1)) (fun hc => by simp only [D6,D5,hF,hA,↓reduceIte,qD,qE, hc, and_self, and_true, true_and, not_false_eq_true]; try rfl) (fun H2 g2 => ?_) | refine VI.callGf (by simp only [D5,hF,hA,↓reduceIte,qD,qE]; try rfl) (fun hc => by simp only [D6,D5,hF,hA,↓reduceIte,qD,qE, hc, and_self, and_true, true_and, not_false_eq_true]; try rfl) (fun hc => f34_ok (h.grow g1)) (fun hc => by simp only [D6,D5,hF,hA,↓reduceIte,qD,qE, hc, and_self, and_true, true_and, not_false_eq_true]; try rfl) (fun H2 g2 => ?_)
  have b2 := b1.grow g2
  refine VI.line' (by simp +contextual (disch := first|omega|simp only [nx];omega) only [D4,qF,qG,qA,qB,qC,D5,hF,hA,↓reduceIte,qD,qE]; with_reducible rfl) ?_
  (repeat first|apply V.seq|apply V.block|apply V.scope|apply V.skip|apply V.close)
  refine V.condP (by simp only [D6,D5,hF,hA,↓reduceIte,qD,qE]; rfl) (fun hf => ?_) (fun hf => ?_)
  · (repeat first|apply V.seq|apply V.block|apply V.scope|apply V.skip|apply V.close)
    refine V.line' (by simp +contextual (disch := first|omega|simp only [nx];omega) only [D4,qF,qG,qA,qB,qC,D5,hF,hA,↓reduceIte,qD,qE]; with_reducible rfl) ?_
    (repeat first|apply V.seq|apply V.block|apply V.scope|apply V.skip|apply V.close)
    refine V.ret (V.rets rfl (Lv.retG (by simp +contextual (disch := first|omega|simp only [nx];omega) only [D1, cells_alloc_at, cells_alloc_ne, cells_set_at, cells_set_ne, yres, yres1, yresL, qA, qB, qC, D5,hF,hA,↓reduceIte,qD,qE]; rfl) ?_ ?_))
    · exact g1.trans g2
    · rw [flt, if_pos (by unfold fit; omega)]
  · have hfit : fit T := by unfold fit; omega
    have hf1 := hfit.1
    have hf2 := hfit.2
    have h2 := h.grow (g1.trans g2)
    (repeat first|apply V.seq|apply V.block|apply V.scope|apply V.skip|apply V.close)
    refine V.draw ?_
    refine VD.dins 1 (by simp +contextual (disch := first|omega|simp only [nx];omega) only [D4,qF,qG,qA,qB,qC,D5,hF,hA,↓reduceIte,qD,qE, b2.2]; with_reducible rfl) ?_
    simp only [ds]
    refine VD.callA (by simp only [D6,D5,hF,hA,↓reduceIte,qD,qE]; try rfl) (f34_ok h2) (by simp only [D6,D5,hF,hA,↓reduceIte,qD,qE]; try rfl) (fun H3 g3 => ?_)
    have b3 := b2.grow g3
    have h3 := h2.grow g3
    refine VD.dins 9 (by simp +contextual (disch := first|omega|simp only [nx];omega) only [D4,qF,qG,qA,qB,qC,D5,hF,hA,↓reduceIte,qD,qE, b3.2, hlb, hlc, hlr]; with_reducible rfl) ?_
    simp only [ds]
    refine VD.dins 7 (by simp +contextual (disch := first|omega|simp only [nx];omega) only [D4,qF,qG,qA,qB,qC,D5,hF,hA,↓reduceIte,qD,qE, b3.2, hlb, hlc, hlr]; with_reducible rfl) ?_
    simp only [ds]
    first | refine VD.callGt (by simp only [D5,hF,hA,↓reduceIte,qD,qE]; try rfl) (fun hc => by simp only [D6,D5,hF,hA,↓reduceIte,qD,qE, hc, and_self, and_true, true_and, not_false_eq_true]; try rfl) (fun hc => f34_ok h3) (fun hc => by simp only [D6,D5,hF,hA,↓reduceIte,qD,qE, hc, and_self, and_true, true_and, not_false_eq_true]; try rfl) (fun H4 g4 => ?_) | refine VD.callGf (by simp only [D5,hF,hA,↓reduceIte,qD,qE]; try rfl) (fun hc => by simp only [D6,D5,hF,hA,↓reduceIte,qD,qE, hc, and_self, and_true, true_and, not_false_eq_true]; try rfl) (fun hc => f34_ok h3) (fun hc => by simp only [D6,D5,hF,hA,↓reduceIte,qD,qE, hc, and_self, and_true, true_and, not_false_eq_true]; try rfl) (fun H4 g4 => ?_)
    have b4 := b3.grow g4
    have h4 := h3.grow g4
    refine VD.dins 8 (by simp +contextual (disch := first|omega|simp only [nx];omega) only [D4,qF,qG,qA,qB,qC,D5,hF,hA,↓reduceIte,qD,qE, b4.2, hlr, hln]; with_reducible rfl) ?_
    simp only [ds]
    first | refine VD.callGt (by simp only [D5,hF,hA,↓reduceIte,qD,qE]; try rfl) (fun hc => by simp only [D6,D5,hF,hA,↓reduceIte,qD,qE, hc, and_self, and_true, true_and, not_false_eq_true]; try rfl) (fun hc => f34_ok h4) (fun hc => by simp only [D6,D5,hF,hA,↓reduceIte,qD,qE, hc, and_self, and_true, true_and, not_false_eq_true]; try rfl) (fun H5 g5 => ?_) | refine VD.callGf (by simp only [D5,hF,hA,↓reduceIte,qD,qE]; try rfl) (fun hc => by simp only [D6,D5,hF,hA,↓reduceIte,qD,qE, hc, and_self, and_true, true_and, not_false_eq_true]; try rfl) (fun hc => f34_ok h4) (fun hc => by simp only [D6,D5,hF,hA,↓reduceIte,qD,qE, hc, and_self, and_true, true_and, not_false_eq_true]; try rfl) (fun H5 g5 => ?_)
    have b5 := b4.grow g5
    refine VD.lineD' (by simp +contextual (disch := first|omega|simp only [nx];omega) only [D4,qF,qG,qA,qB,qC,D5,hF,hA,↓reduceIte,qD,qE]; with_reducible rfl) ?_ ?_ rfl ?_
    · have m3 := g3.1
      have m4 := g4.1
      have m5 := g5.1
      simp only [monoG, List.cons_append, List.nil_append, Heap.next_set, Heap.next_alloc, Nat.le_refl, true_and, and_true] <;> omega
    · simp only [dcAll, dcOk, wantD, List.cons_append, List.nil_append, true_and, and_true]
      have v1 := (sl1 h.r.isS).2.2.1
      have v2 := (sl1 h.n.isS).2.2.1
      exact ⟨fun hw q hq => by simp only [wantD, D5,hF,hA,↓reduceIte,qD,qE, beq_iff_eq, decide_eq_false_iff_not, decide_eq_true_eq] at hw; simp only [List.mem_cons, List.not_mem_nil, or_false] at hq; (repeat (rcases hq with rfl | hq; exact ⟨_, _, _, rfl, (by simp +contextual (disch := first|omega|simp only [nx];omega) only [D4,qF,qG,qA,qB,qC,D5,hF,hA,↓reduceIte,qD,qE, if_true, not_false_eq_true, not_true_eq_false, hw, b3.2, b4.2, b5.2]; with_reducible rfl), fun p hp => by cases hp; simp only [D5,hF,hA,↓reduceIte,qD,qE, hw, if_true, not_false_eq_true]; first | exact vEq_An | (simp [vEq, vEq0, all2]; done) | assumption⟩)); (try (subst hq; exact ⟨_, _, _, rfl, (by simp +contextual (disch := first|omega|simp only [nx];omega) only [D4,qF,qG,qA,qB,qC,D5,hF,hA,↓reduceIte,qD,qE, if_true, not_false_eq_true, not_true_eq_false, hw, b3.2, b4.2, b5.2]; with_reducible rfl), fun p hp => by cases hp; simp only [D5,hF,hA,↓reduceIte,qD,qE, hw, if_true, not_false_eq_true]; first | exact vEq_An | (simp [vEq, vEq0, all2]; done) | assumption⟩)), fun hw q hq => by simp only [wantD, D5,hF,hA,↓reduceIte,qD,qE, beq_iff_eq, decide_eq_false_iff_not, decide_eq_true_eq] at hw; simp only [List.mem_cons, List.not_mem_nil, or_false] at hq; (repeat (rcases hq with rfl | hq; exact ⟨_, _, _, rfl, (by simp +contextual (disch := first|omega|simp only [nx];omega) only [D4,qF,qG,qA,qB,qC,D5,hF,hA,↓reduceIte,qD,qE, if_true, not_false_eq_true, not_true_eq_false, hw, hlr]; with_reducible rfl), fun p hp => by cases hp; simp only [D5,hF,hA,↓reduceIte,qD,qE, hw, if_true, not_false_eq_true]; first | exact vEq_An | (simp [vEq, vEq0, all2]; done) | assumption⟩)); (try (subst hq; exact ⟨_, _, _, rfl, (by simp +contextual (disch := first|omega|simp only [nx];omega) only [D4,qF,qG,qA,qB,qC,D5,hF,hA,↓reduceIte,qD,qE, if_true, not_false_eq_true, not_true_eq_false, hw, hlr]; with_reducible rfl), fun p hp => by cases hp; simp only [D5,hF,hA,↓reduceIte,qD,qE, hw, if_true, not_false_eq_true]; first | exact vEq_An | (simp [vEq, vEq0, all2]; done) | assumption⟩)), fun hw q hq => by simp only [wantD, D5,hF,hA,↓reduceIte,qD,qE, beq_iff_eq, decide_eq_false_iff_not, decide_eq_true_eq] at hw; simp only [List.mem_cons, List.not_mem_nil, or_false] at hq; (repeat (rcases hq with rfl | hq; exact ⟨_, _, _, rfl, (by simp +contextual (disch := first|omega|simp only [nx];omega) only [D4,qF,qG,qA,qB,qC,D5,hF,hA,↓reduceIte,qD,qE, if_true, not_false_eq_true, not_true_eq_false, hw, b3.2, b4.2, b5.2]; with_reducible rfl), fun p hp => by cases hp; simp only [D5,hF,hA,↓reduceIte,qD,qE, hw, if_true, not_false_eq_true]; first | exact vEq_An | (simp [vEq, vEq0, all2]; done) | assumption⟩)); (try (subst hq; exact ⟨_, _, _, rfl, (by simp +contextual (disch := first|omega|simp only [nx];omega) only [D4,qF,qG,qA,qB,qC,D5,hF,hA,↓reduceIte,qD,qE, if_true, not_false_eq_true, not_true_eq_false, hw, b3.2, b4.2, b5.2]; with_reducible rfl), fun p hp => by cases hp; simp only [D5,hF,hA,↓reduceIte,qD,qE, hw, if_true, not_false_eq_true]; first | exact vEq_An | (simp [vEq, vEq0, all2]; done) | assumption⟩)), fun hw q hq => by simp only [wantD, D5,hF,hA,↓reduceIte,qD,qE, beq_iff_eq, decide_eq_false_iff_not, decide_eq_true_eq] at hw; simp only [List.mem_cons, List.not_mem_nil, or_false] at hq; (repeat (rcases hq with rfl | hq; exact ⟨_, _, _, rfl, (by simp +contextual (disch := first|omega|simp only [nx];omega) only [D4,qF,qG,qA,qB,qC,D5,hF,hA,↓reduceIte,qD,qE, if_true, not_false_eq_true, not_true_eq_false, hw, hln]; with_reducible rfl), fun p hp => by cases hp; simp only [D5,hF,hA,↓reduceIte,qD,qE, hw, if_true, not_false_eq_true]; first | exact vEq_An | (simp [vEq, vEq0, all2]; done) | assumption⟩)); (try (subst hq; exact ⟨_, _, _, rfl, (by simp +contextual (disch := first|omega|simp only [nx];omega) only [D4,qF,qG,qA,qB,qC,D5,hF,hA,↓reduceIte,qD,qE, if_true, not_false_eq_true, not_true_eq_false, hw, hln]; with_reducible rfl), fun p hp => by cases hp; simp only [D5,hF,hA,↓reduceIte,qD,qE, hw, if_true, not_false_eq_true]; first | exact vEq_An | (simp [vEq, vEq0, all2]; done) | assumption⟩))⟩
    have g25 := (g3.trans g4).trans g5
    clear h3 h4 b3 b4
    (repeat first|apply V.seq|apply V.block|apply V.scope|apply V.skip|apply V.close)
    refine V.condP (by simp only [D6,D5,hF,hA,↓reduceIte,qD,qE]; rfl) (fun hv => ?_) (fun hv => ?_)
    · (repeat first|apply V.seq|apply V.block|apply V.scope|apply V.skip|apply V.close)
      refine V.line' (by simp +contextual (disch := first|omega|simp only [nx];omega) only [D4,qF,qG,qA,qB,qC,D5,hF,hA,↓reduceIte,qD,qE]; with_reducible rfl) ?_
      (repeat first|apply V.seq|apply V.block|apply V.scope|apply V.skip|apply V.close)
      refine V.ret (V.rets rfl (Lv.retG (by simp +contextual (disch := first|omega|simp only [nx];omega) only [D1, cells_alloc_at, cells_alloc_ne, cells_set_at, cells_set_ne, yres, yres1, yresL, qA, qB, qC, D5,hF,hA,↓reduceIte,qD,qE]; rfl) ?_ ?_))
      · exact (g1.trans g2).trans g25
      · rw [flt, if_neg (not_not_intro hfit), if_pos (by rintro ⟨q1, q2, q3, q4, _⟩; omega)]
    have hd1 : 2 ≤ grp T := by omega
    have hd2 : T.B.length + 1 = T.C.length := by omega
    have hd3 : T.Rt.length = grp T + 1 := by omega
    have hd4 : T.N.length = grp T := by omega
    clear hv
    (repeat first|apply V.seq|apply V.block|apply V.scope|apply V.skip|apply V.close)
    refine V.line' (by simp +contextual (disch := first|omega|simp only [nx];omega) only [D4,qF,qG,qA,qB,qC,D5,hF,hA,↓reduceIte,qD,qE]; with_reducible rfl) ?_
    (repeat first|apply V.seq|apply V.block|apply V.scope|apply V.skip|apply V.close)
    refine V.re [(1, .pointer (some ⟨H.next, 0, none⟩)), (3, I 0)] (N := 125) (by intro i; simp only [full_st, hF]) (by simp only [Kn, D5,hF,hA,↓reduceIte,qD,qE, and_self, and_true, true_and]; try (repeat' constructor)) ?_
    clear hF hA
    intro t hF hA
    simp only [Kn, and_true] at hA
    refine V.loop (fun z t m X => ∃ (k : Nat), k ≤ T.C.length ∧ z = T.C.length - k ∧ m = [] ∧ Grow H2 X ∧ (∀ row ∈ T.C.take k, row.length = grp T ∧ ∀ r ∈ row, wi 0 500 r) ∧ Full 125 t ∧ Kn [(1, .pointer (some ⟨H.next, 0, none⟩)), (3, I k)] t) T.C.length ?_ ?_
    · exact ⟨0, by omega, by omega, rfl, g25, by simp, (by intro i; simp only [full_st, hF]), (by simp only [Kn, D5,hF,hA,↓reduceIte,qD,qE, and_self, and_true, true_and]; try (repeat' constructor))⟩
    clear hF hA
    rintro z t m X ⟨k, hk, rfl, rfl, hg, hall, hF, hA⟩
    simp only [Kn, and_true] at hA
    have bx := b2.grow hg
    (repeat first|apply V.seq|apply V.block|apply V.scope|apply V.skip|apply V.close)
    refine V.line' (by simp +contextual (disch := first|omega|simp only [nx];omega) only [D4,qF,qG,qA,qB,qC,D5,hF,hA,↓reduceIte,qD,qE, bx.2, hlc]; with_reducible rfl) ?_
    (repeat first|apply V.seq|apply V.block|apply V.scope|apply V.skip|apply V.close)
    refine V.condP (by simp only [D6,D5,hF,hA,↓reduceIte,qD,qE]; rfl) (fun hlt => ?_) (fun hlt => ?_)
    · have hlt' : k < T.C.length := by omega
      obtain ⟨p, x, hp, hx⟩ := h.c.at rp hlt'
      obtain ⟨hx1, hx2⟩ := hx _ ((g1.trans g2).trans hg)
      have hpk := hp .i64
      have hxl := hx2.len
      (repeat first|apply V.seq|apply V.block|apply V.scope|apply V.skip|apply V.close)
      refine V.draw ?_
      refine VD.dins 7 (by simp +contextual (disch := first|omega|simp only [nx];omega) only [D4,qF,qG,qA,qB,qC,D5,hF,hA,↓reduceIte,qD,qE, bx.2, hpk, hx1, hxl]; with_reducible rfl) ?_
      simp only [ds]
      refine VD.callA (by simp only [D6,D5,hF,hA,↓reduceIte,qD,qE]; try rfl) (f34_ok (h2.grow hg)) (by simp only [D6,D5,hF,hA,↓reduceIte,qD,qE]; try rfl) (fun X1 gx => ?_)
      have bx1 := bx.grow gx
      obtain ⟨hx3, _⟩ := hx _ (((g1.trans g2).trans hg).trans gx)
      refine VD.lineD' (by simp +contextual (disch := first|omega|simp only [nx];omega) only [D4,qF,qG,qA,qB,qC,D5,hF,hA,↓reduceIte,qD,qE]; with_reducible rfl) ?_ ?_ rfl ?_
      · have m1 := gx.1
        simp only [monoG, List.cons_append, List.nil_append, Heap.next_set, Heap.next_alloc, Nat.le_refl, true_and, and_true] <;> omega
      · simp only [dcAll, dcOk, wantD, List.cons_append, List.nil_append, true_and, and_true]
        have v1 := (sl1 h.c.isS).2.2.1
        have v2 := (sl1 (rp.sl hx2)).2.2.1
        exact ⟨fun _ q hq => by simp only [List.mem_cons, List.not_mem_nil, or_false] at hq; (repeat (rcases hq with rfl | hq; exact ⟨_, _, _, rfl, (by simp +contextual (disch := first|omega|simp only [nx];omega) only [D4,qF,qG,qA,qB,qC,D5,hF,hA,↓reduceIte,qD,qE, bx.2, bx1.2]; with_reducible rfl), fun p hp => by cases hp; simp only [D5,hF,hA,↓reduceIte,qD,qE]; first | exact vEq_An | (simp [vEq, vEq0, all2]; done) | assumption⟩)); (try (subst hq; exact ⟨_, _, _, rfl, (by simp +contextual (disch := first|omega|simp only [nx];omega) only [D4,qF,qG,qA,qB,qC,D5,hF,hA,↓reduceIte,qD,qE, bx.2, bx1.2]; with_reducible rfl), fun p hp => by cases hp; simp only [D5,hF,hA,↓reduceIte,qD,qE]; first | exact vEq_An | (simp [vEq, vEq0, all2]; done) | assumption⟩)), fun _ q hq => by simp only [List.mem_cons, List.not_mem_nil, or_false] at hq; (repeat (rcases hq with rfl | hq; exact ⟨_, _, _, rfl, (by simp +contextual (disch := first|omega|simp only [nx];omega) only [D4,qF,qG,qA,qB,qC,D5,hF,hA,↓reduceIte,qD,qE, hx1, hx3]; with_reducible rfl), fun p hp => by cases hp; simp only [D5,hF,hA,↓reduceIte,qD,qE]; first | exact vEq_An | (simp [vEq, vEq0, all2]; done) | assumption⟩)); (try (subst hq; exact ⟨_, _, _, rfl, (by simp +contextual (disch := first|omega|simp only [nx];omega) only [D4,qF,qG,qA,qB,qC,D5,hF,hA,↓reduceIte,qD,qE, hx1, hx3]; with_reducible rfl), fun p hp => by cases hp; simp only [D5,hF,hA,↓reduceIte,qD,qE]; first | exact vEq_An | (simp [vEq, vEq0, all2]; done) | assumption⟩)), fun _ q hq => by simp only [List.mem_cons, List.not_mem_nil, or_false] at hq; (repeat (rcases hq with rfl | hq; exact ⟨_, _, _, rfl, (by simp +contextual (disch := first|omega|simp only [nx];omega) only [D4,qF,qG,qA,qB,qC,D5,hF,hA,↓reduceIte,qD,qE, hxl]; with_reducible rfl), fun p hp => by cases hp; simp only [D5,hF,hA,↓reduceIte,qD,qE]; first | exact vEq_An | (simp [vEq, vEq0, all2]; done) | assumption⟩)); (try (subst hq; exact ⟨_, _, _, rfl, (by simp +contextual (disch := first|omega|simp only [nx];omega) only [D4,qF,qG,qA,qB,qC,D5,hF,hA,↓reduceIte,qD,qE, hxl]; with_reducible rfl), fun p hp => by cases hp; simp only [D5,hF,hA,↓reduceIte,qD,qE]; first | exact vEq_An | (simp [vEq, vEq0, all2]; done) | assumption⟩))⟩
      (repeat first|apply V.seq|apply V.block|apply V.scope|apply V.skip|apply V.close)
      refine V.condP (by simp only [D6,D5,hF,hA,↓reduceIte,qD,qE]; rfl) (fun hw => ?_) (fun hw => ?_)
      · (repeat first|apply V.seq|apply V.block|apply V.scope|apply V.skip|apply V.close)
        refine V.line' (by simp +contextual (disch := first|omega|simp only [nx];omega) only [D4,qF,qG,qA,qB,qC,D5,hF,hA,↓reduceIte,qD,qE]; with_reducible rfl) ?_
        (repeat first|apply V.seq|apply V.block|apply V.scope|apply V.skip|apply V.close)
        refine V.ret (V.rets rfl (Or.inr ⟨by simp, V.rets rfl (Lv.retG (by simp +contextual (disch := first|omega|simp only [nx];omega) only [D1, cells_alloc_at, cells_alloc_ne, cells_set_at, cells_set_ne, yres, yres1, yresL, qA, qB, qC, D5,hF,hA,↓reduceIte,qD,qE]; rfl) ?_ ?_)⟩))
        · exact ((g1.trans g2).trans hg).trans gx
        · rw [flt, if_neg (not_not_intro hfit), if_pos (by rintro ⟨_, _, _, _, q5, _⟩; have := (q5 _ (List.getElem_mem hlt')).1; omega)]
      have hrl : (T.C[k]).length = grp T := by omega
      (repeat first|apply V.seq|apply V.block|apply V.scope|apply V.skip|apply V.close)
      refine V.line' (by simp +contextual (disch := first|omega|simp only [nx];omega) only [D4,qF,qG,qA,qB,qC,D5,hF,hA,↓reduceIte,qD,qE]; with_reducible rfl) ?_
      (repeat first|apply V.seq|apply V.block|apply V.scope|apply V.skip|apply V.close)
      refine V.re [(1, .pointer (some ⟨H.next, 0, none⟩)), (3, I k), (4, I 0)] (N := 125) (by intro i; simp only [full_st, hF]) (by simp only [Kn, D5,hF,hA,↓reduceIte,qD,qE, and_self, and_true, true_and]; try (repeat' constructor)) ?_
      clear hF hA
      intro t hF hA
      simp only [Kn, and_true] at hA
      refine V.loop (fun z t m Y => ∃ (j : Nat), j ≤ (T.C[k]).length ∧ z = (T.C[k]).length - j ∧ m = [] ∧ Grow H2 Y ∧ (∀ r ∈ (T.C[k]).take j, wi 0 500 r) ∧ Full 125 t ∧ Kn [(1, .pointer (some ⟨H.next, 0, none⟩)), (3, I k), (4, I j)] t) (T.C[k]).length ?_ ?_
      · exact ⟨0, by omega, by omega, rfl, hg.trans gx, by simp, (by intro i; simp only [full_st, hF]), (by simp only [Kn, D5,hF,hA,↓reduceIte,qD,qE, and_self, and_true, true_and]; try (repeat' constructor))⟩
      clear hF hA
      rintro z t m Y ⟨j, hj, rfl, rfl, hgy, hally, hF, hA⟩
      simp only [Kn, and_true] at hA
      have by' := b2.grow hgy
      obtain ⟨hy1, hy2⟩ := hx _ ((g1.trans g2).trans hgy)
      (repeat first|apply V.seq|apply V.block|apply V.scope|apply V.skip|apply V.close)
      refine V.line' (by simp +contextual (disch := first|omega|simp only [nx];omega) only [D4,qF,qG,qA,qB,qC,D5,hF,hA,↓reduceIte,qD,qE, by'.2, hpk, hy1, hxl]; with_reducible rfl) ?_
      (repeat first|apply V.seq|apply V.block|apply V.scope|apply V.skip|apply V.close)
      refine V.condP (by simp only [D6,D5,hF,hA,↓reduceIte,qD,qE]; rfl) (fun hlj => ?_) (fun hlj => ?_)
      · have hlj' : j < (T.C[k]).length := by omega
        obtain ⟨i, o, hp2, hz⟩ := hy2.at hlj'
        obtain ⟨hz1, _, _⟩ := hz _ (.refl _)
        (repeat first|apply V.seq|apply V.block|apply V.scope|apply V.skip|apply V.close)
        refine V.run ?_
        refine VI.steps' 8 (by simp +contextual (disch := first|omega|simp only [nx];omega) only [D4,qF,qG,qA,qB,qC,D5,hF,hA,↓reduceIte,qD,qE, by'.2, hpk, hy1, hp2, hz1]; with_reducible rfl) ?_
        simp only [ds]
        refine VI.callA rfl (f45_ok (T.C[k])[j] 0 500 Y) (by simp only [D6,D5,hF,hA,↓reduceIte,qD,qE]; try rfl) (fun Y1 gy1 => ?_)
        refine VI.line' (by simp +contextual (disch := first|omega|simp only [nx];omega) only [D4,qF,qG,qA,qB,qC,D5,hF,hA,↓reduceIte,qD,qE]; with_reducible rfl) ?_
        (repeat first|apply V.seq|apply V.block|apply V.scope|apply V.skip|apply V.close)
        refine V.condP (by simp only [D6,D5,hF,hA,↓reduceIte,qD,qE]; rfl) (fun hw2 => ?_) (fun hw2 => ?_)
        · (repeat first|apply V.seq|apply V.block|apply V.scope|apply V.skip|apply V.close)
          refine V.line' (by simp +contextual (disch := first|omega|simp only [nx];omega) only [D4,qF,qG,qA,qB,qC,D5,hF,hA,↓reduceIte,qD,qE]; with_reducible rfl) ?_
          (repeat first|apply V.seq|apply V.block|apply V.scope|apply V.skip|apply V.close)
          refine V.ret (V.rets rfl (Or.inr ⟨by simp, V.rets rfl (Or.inr ⟨by simp, V.rets rfl (Lv.retG (by simp +contextual (disch := first|omega|simp only [nx];omega) only [D1, cells_alloc_at, cells_alloc_ne, cells_set_at, cells_set_ne, yres, yres1, yresL, qA, qB, qC, D5,hF,hA,↓reduceIte,qD,qE]; rfl) ?_ ?_)⟩)⟩))
          · exact ((g1.trans g2).trans hgy).trans gy1
          · rw [flt, if_neg (not_not_intro hfit), if_pos (by rintro ⟨_, _, _, _, q5, _⟩; exact hw2 ((q5 _ (List.getElem_mem hlt')).2 _ (List.getElem_mem hlj')))]
        · (repeat first|apply V.seq|apply V.block|apply V.scope|apply V.skip|apply V.close)
          refine V.line' (by simp +contextual (disch := first|omega|simp only [nx];omega) only [D4,qF,qG,qA,qB,qC,D5,hF,hA,↓reduceIte,qD,qE]; with_reducible rfl) ?_
          refine V.nil (Or.inl ⟨rfl, (T.C[k]).length - (j + 1), by omega, ?_⟩)
          refine ⟨j + 1, by omega, rfl, rfl, hgy.trans gy1, ?_, (by intro i; simp only [full_st, hF]), (by simp only [Kn, D5,hF,hA,↓reduceIte,qD,qE, and_self, and_true, true_and]; try (repeat' constructor))⟩
          intro q hq
          rw [List.take_succ_eq_append_getElem hlj'] at hq
          rcases List.mem_append.1 hq with hq | hq
          · exact hally q hq
          · rw [List.mem_singleton.1 hq]; exact Decidable.not_not.1 hw2
      · refine V.exit ?_
        (repeat first | refine V.pass ?_ | refine V.here ?_ | refine V.out (by decide) ?_)
        refine V.nil (Or.inr ⟨by simp, ?_⟩)
        (repeat first | refine V.pass ?_ | refine V.here ?_ | refine V.out (by decide) ?_)
        (repeat first|apply V.seq|apply V.block|apply V.scope|apply V.skip|apply V.close)
        refine V.line' (by simp +contextual (disch := first|omega|simp only [nx];omega) only [D4,qF,qG,qA,qB,qC,D5,hF,hA,↓reduceIte,qD,qE]; with_reducible rfl) ?_
        refine V.nil (Or.inl ⟨rfl, T.C.length - (k + 1), by omega, ?_⟩)
        refine ⟨k + 1, by omega, rfl, rfl, hgy, ?_, (by intro i; simp only [full_st, hF]), (by simp only [Kn, D5,hF,hA,↓reduceIte,qD,qE, and_self, and_true, true_and]; try (repeat' constructor))⟩
        intro q hq
        rw [List.take_succ_eq_append_getElem hlt'] at hq
        rcases List.mem_append.1 hq with hq | hq
        · exact hall q hq
        · rw [List.mem_singleton.1 hq]
          refine ⟨hrl, ?_⟩
          have e : (T.C[k]).take j = T.C[k] := List.take_of_length_le (by omega)
          rw [e] at hally
          exact hally
    have hC : ∀ row ∈ T.C, row.length = grp T ∧ ∀ r ∈ row, wi 0 500 r := by
      have e : T.C.take k = T.C := List.take_of_length_le (by omega)
      rw [e] at hall
      exact hall
    refine V.exit ?_
    (repeat first | refine V.pass ?_ | refine V.here ?_ | refine V.out (by decide) ?_)
    refine V.nil (Or.inr ⟨by simp, ?_⟩)
    (repeat first | refine V.pass ?_ | refine V.here ?_ | refine V.out (by decide) ?_)
    (repeat first|apply V.seq|apply V.block|apply V.scope|apply V.skip|apply V.close)
    refine V.line' (by simp +contextual (disch := first|omega|simp only [nx];omega) only [D4,qF,qG,qA,qB,qC,D5,hF,hA,↓reduceIte,qD,qE]; with_reducible rfl) ?_
    (repeat first|apply V.seq|apply V.block|apply V.scope|apply V.skip|apply V.close)
    refine V.re [(1, .pointer (some ⟨H.next, 0, none⟩)), (5, I 0)] (N := 125) (by intro i; simp only [full_st, hF]) (by simp only [Kn, D5,hF,hA,↓reduceIte,qD,qE, and_self, and_true, true_and]; try (repeat' constructor)) ?_
    clear hF hA
    intro t hF hA
    simp only [Kn, and_true] at hA
    refine V.loop (fun z t m X => ∃ (k : Nat), k ≤ T.B.length ∧ z = T.B.length - k ∧ m = [] ∧ Grow H2 X ∧ (∀ r ∈ T.B.take k, wi 0 500 r) ∧ Full 125 t ∧ Kn [(1, .pointer (some ⟨H.next, 0, none⟩)), (5, I k)] t) T.B.length ?_ ?_
    · exact ⟨0, by omega, by omega, rfl, hg, by simp, (by intro i; simp only [full_st, hF]), (by simp only [Kn, D5,hF,hA,↓reduceIte,qD,qE, and_self, and_true, true_and]; try (repeat' constructor))⟩
    clear hF hA
    rintro z t m X5 ⟨k, hk, rfl, rfl, hg5, hall, hF, hA⟩
    simp only [Kn, and_true] at hA
    have bx := b2.grow hg5
    (repeat first|apply V.seq|apply V.block|apply V.scope|apply V.skip|apply V.close)
    refine V.line' (by simp +contextual (disch := first|omega|simp only [nx];omega) only [D4,qF,qG,qA,qB,qC,D5,hF,hA,↓reduceIte,qD,qE, bx.2, hlb]; with_reducible rfl) ?_
    (repeat first|apply V.seq|apply V.block|apply V.scope|apply V.skip|apply V.close)
    refine V.condP (by simp only [D6,D5,hF,hA,↓reduceIte,qD,qE]; rfl) (fun hlt => ?_) (fun hlt => ?_)
    · have hlt' : k < T.B.length := by omega
      obtain ⟨i, o, hp, hx⟩ := h.b.at hlt'
      obtain ⟨hx1, _, _⟩ := hx _ ((g1.trans g2).trans hg5)
      (repeat first|apply V.seq|apply V.block|apply V.scope|apply V.skip|apply V.close)
      refine V.run ?_
      refine VI.steps' 5 (by simp +contextual (disch := first|omega|simp only [nx];omega) only [D4,qF,qG,qA,qB,qC,D5,hF,hA,↓reduceIte,qD,qE, bx.2, hp, hx1]; with_reducible rfl) ?_
      simp only [ds]
      refine VI.callA rfl (f45_ok T.B[k] (0) 500 X5) (by simp only [D6,D5,hF,hA,↓reduceIte,qD,qE]; try rfl) (fun Y gy => ?_)
      refine VI.line' (by simp +contextual (disch := first|omega|simp only [nx];omega) only [D4,qF,qG,qA,qB,qC,D5,hF,hA,↓reduceIte,qD,qE]; with_reducible rfl) ?_
      (repeat first|apply V.seq|apply V.block|apply V.scope|apply V.skip|apply V.close)
      refine V.condP (by simp only [D6,D5,hF,hA,↓reduceIte,qD,qE]; rfl) (fun hw => ?_) (fun hw => ?_)
      · (repeat first|apply V.seq|apply V.block|apply V.scope|apply V.skip|apply V.close)
        refine V.line' (by simp +contextual (disch := first|omega|simp only [nx];omega) only [D4,qF,qG,qA,qB,qC,D5,hF,hA,↓reduceIte,qD,qE]; with_reducible rfl) ?_
        (repeat first|apply V.seq|apply V.block|apply V.scope|apply V.skip|apply V.close)
        refine V.ret (V.rets rfl (Or.inr ⟨by simp, V.rets rfl (Lv.retG (by simp +contextual (disch := first|omega|simp only [nx];omega) only [D1, cells_alloc_at, cells_alloc_ne, cells_set_at, cells_set_ne, yres, yres1, yresL, qA, qB, qC, D5,hF,hA,↓reduceIte,qD,qE]; rfl) ?_ ?_)⟩))
        · exact ((g1.trans g2).trans hg5).trans gy
        · rw [flt, if_neg (not_not_intro hfit), if_pos (fun hh => hw (hh.2.2.2.2.2.1 _ (List.getElem_mem hlt')))]
      · (repeat first|apply V.seq|apply V.block|apply V.scope|apply V.skip|apply V.close)
        refine V.line' (by simp +contextual (disch := first|omega|simp only [nx];omega) only [D4,qF,qG,qA,qB,qC,D5,hF,hA,↓reduceIte,qD,qE]; with_reducible rfl) ?_
        refine V.nil (Or.inl ⟨rfl, T.B.length - (k + 1), by omega, ?_⟩)
        refine ⟨k + 1, by omega, rfl, rfl, hg5.trans gy, ?_, (by intro i; simp only [full_st, hF]), (by simp only [Kn, D5,hF,hA,↓reduceIte,qD,qE, and_self, and_true, true_and]; try (repeat' constructor))⟩
        intro q hq
        rw [List.take_succ_eq_append_getElem hlt'] at hq
        rcases List.mem_append.1 hq with hq | hq
        · exact hall q hq
        · rw [List.mem_singleton.1 hq]; exact Decidable.not_not.1 hw
    have hB : ∀ q ∈ T.B, wi (0) 500 q := by
      have e : T.B.take k = T.B := List.take_of_length_le (by omega)
      rw [e] at hall
      exact hall
    refine V.exit ?_
    (repeat first | refine V.pass ?_ | refine V.here ?_ | refine V.out (by decide) ?_)
    refine V.nil (Or.inr ⟨by simp, ?_⟩)
    (repeat first | refine V.pass ?_ | refine V.here ?_ | refine V.out (by decide) ?_)
    (repeat first|apply V.seq|apply V.block|apply V.scope|apply V.skip|apply V.close)
    refine V.line' (by simp +contextual (disch := first|omega|simp only [nx];omega) only [D4,qF,qG,qA,qB,qC,D5,hF,hA,↓reduceIte,qD,qE]; with_reducible rfl) ?_
    (repeat first|apply V.seq|apply V.block|apply V.scope|apply V.skip|apply V.close)
    refine V.re [(1, .pointer (some ⟨H.next, 0, none⟩)), (6, I 0)] (N := 125) (by intro i; simp only [full_st, hF]) (by simp only [Kn, D5,hF,hA,↓reduceIte,qD,qE, and_self, and_true, true_and]; try (repeat' constructor)) ?_
    clear hF hA
    intro t hF hA
    simp only [Kn, and_true] at hA
    refine V.loop (fun z t m X => ∃ (k : Nat), k ≤ T.Rt.length ∧ z = T.Rt.length - k ∧ m = [] ∧ Grow H2 X ∧ (∀ r ∈ T.Rt.take k, wi 0 1000 r) ∧ Full 125 t ∧ Kn [(1, .pointer (some ⟨H.next, 0, none⟩)), (6, I k)] t) T.Rt.length ?_ ?_
    · exact ⟨0, by omega, by omega, rfl, hg5, by simp, (by intro i; simp only [full_st, hF]), (by simp only [Kn, D5,hF,hA,↓reduceIte,qD,qE, and_self, and_true, true_and]; try (repeat' constructor))⟩
    clear hF hA
    rintro z t m X6 ⟨k, hk, rfl, rfl, hg6, hall, hF, hA⟩
    simp only [Kn, and_true] at hA
    have bx := b2.grow hg6
    (repeat first|apply V.seq|apply V.block|apply V.scope|apply V.skip|apply V.close)
    refine V.line' (by simp +contextual (disch := first|omega|simp only [nx];omega) only [D4,qF,qG,qA,qB,qC,D5,hF,hA,↓reduceIte,qD,qE, bx.2, hlr]; with_reducible rfl) ?_
    (repeat first|apply V.seq|apply V.block|apply V.scope|apply V.skip|apply V.close)
    refine V.condP (by simp only [D6,D5,hF,hA,↓reduceIte,qD,qE]; rfl) (fun hlt => ?_) (fun hlt => ?_)
    · have hlt' : k < T.Rt.length := by omega
      obtain ⟨i, o, hp, hx⟩ := h.r.at hlt'
      obtain ⟨hx1, _, _⟩ := hx _ ((g1.trans g2).trans hg6)
      (repeat first|apply V.seq|apply V.block|apply V.scope|apply V.skip|apply V.close)
      refine V.run ?_
      refine VI.steps' 5 (by simp +contextual (disch := first|omega|simp only [nx];omega) only [D4,qF,qG,qA,qB,qC,D5,hF,hA,↓reduceIte,qD,qE, bx.2, hp, hx1]; with_reducible rfl) ?_
      simp only [ds]
      refine VI.callA rfl (f45_ok T.Rt[k] (0) 1000 X6) (by simp only [D6,D5,hF,hA,↓reduceIte,qD,qE]; try rfl) (fun Y gy => ?_)
      refine VI.line' (by simp +contextual (disch := first|omega|simp only [nx];omega) only [D4,qF,qG,qA,qB,qC,D5,hF,hA,↓reduceIte,qD,qE]; with_reducible rfl) ?_
      (repeat first|apply V.seq|apply V.block|apply V.scope|apply V.skip|apply V.close)
      refine V.condP (by simp only [D6,D5,hF,hA,↓reduceIte,qD,qE]; rfl) (fun hw => ?_) (fun hw => ?_)
      · (repeat first|apply V.seq|apply V.block|apply V.scope|apply V.skip|apply V.close)
        refine V.line' (by simp +contextual (disch := first|omega|simp only [nx];omega) only [D4,qF,qG,qA,qB,qC,D5,hF,hA,↓reduceIte,qD,qE]; with_reducible rfl) ?_
        (repeat first|apply V.seq|apply V.block|apply V.scope|apply V.skip|apply V.close)
        refine V.ret (V.rets rfl (Or.inr ⟨by simp, V.rets rfl (Lv.retG (by simp +contextual (disch := first|omega|simp only [nx];omega) only [D1, cells_alloc_at, cells_alloc_ne, cells_set_at, cells_set_ne, yres, yres1, yresL, qA, qB, qC, D5,hF,hA,↓reduceIte,qD,qE]; rfl) ?_ ?_)⟩))
        · exact ((g1.trans g2).trans hg6).trans gy
        · rw [flt, if_neg (not_not_intro hfit), if_pos (fun hh => hw (hh.2.2.2.2.2.2.1 _ (List.getElem_mem hlt')))]
      · (repeat first|apply V.seq|apply V.block|apply V.scope|apply V.skip|apply V.close)
        refine V.line' (by simp +contextual (disch := first|omega|simp only [nx];omega) only [D4,qF,qG,qA,qB,qC,D5,hF,hA,↓reduceIte,qD,qE]; with_reducible rfl) ?_
        refine V.nil (Or.inl ⟨rfl, T.Rt.length - (k + 1), by omega, ?_⟩)
        refine ⟨k + 1, by omega, rfl, rfl, hg6.trans gy, ?_, (by intro i; simp only [full_st, hF]), (by simp only [Kn, D5,hF,hA,↓reduceIte,qD,qE, and_self, and_true, true_and]; try (repeat' constructor))⟩
        intro q hq
        rw [List.take_succ_eq_append_getElem hlt'] at hq
        rcases List.mem_append.1 hq with hq | hq
        · exact hall q hq
        · rw [List.mem_singleton.1 hq]; exact Decidable.not_not.1 hw
    have hR : ∀ q ∈ T.Rt, wi (0) 1000 q := by
      have e : T.Rt.take k = T.Rt := List.take_of_length_le (by omega)
      rw [e] at hall
      exact hall
    refine V.exit ?_
    (repeat first | refine V.pass ?_ | refine V.here ?_ | refine V.out (by decide) ?_)
    refine V.nil (Or.inr ⟨by simp, ?_⟩)
    (repeat first | refine V.pass ?_ | refine V.here ?_ | refine V.out (by decide) ?_)
    (repeat first|apply V.seq|apply V.block|apply V.scope|apply V.skip|apply V.close)
    refine V.line' (by simp +contextual (disch := first|omega|simp only [nx];omega) only [D4,qF,qG,qA,qB,qC,D5,hF,hA,↓reduceIte,qD,qE]; with_reducible rfl) ?_
    (repeat first|apply V.seq|apply V.block|apply V.scope|apply V.skip|apply V.close)
    refine V.re [(1, .pointer (some ⟨H.next, 0, none⟩)), (7, I 0)] (N := 125) (by intro i; simp only [full_st, hF]) (by simp only [Kn, D5,hF,hA,↓reduceIte,qD,qE, and_self, and_true, true_and]; try (repeat' constructor)) ?_
    clear hF hA
    intro t hF hA
    simp only [Kn, and_true] at hA
    refine V.loop (fun z t m X => ∃ (k : Nat), k ≤ T.N.length ∧ z = T.N.length - k ∧ m = [] ∧ Grow H2 X ∧ (∀ r ∈ T.N.take k, wi (-50) 50 r) ∧ Full 125 t ∧ Kn [(1, .pointer (some ⟨H.next, 0, none⟩)), (7, I k)] t) T.N.length ?_ ?_
    · exact ⟨0, by omega, by omega, rfl, hg6, by simp, (by intro i; simp only [full_st, hF]), (by simp only [Kn, D5,hF,hA,↓reduceIte,qD,qE, and_self, and_true, true_and]; try (repeat' constructor))⟩
    clear hF hA
    rintro z t m X7 ⟨k, hk, rfl, rfl, hg7, hall, hF, hA⟩
    simp only [Kn, and_true] at hA
    have bx := b2.grow hg7
    (repeat first|apply V.seq|apply V.block|apply V.scope|apply V.skip|apply V.close)
    refine V.line' (by simp +contextual (disch := first|omega|simp only [nx];omega) only [D4,qF,qG,qA,qB,qC,D5,hF,hA,↓reduceIte,qD,qE, bx.2, hln]; with_reducible rfl) ?_
    (repeat first|apply V.seq|apply V.block|apply V.scope|apply V.skip|apply V.close)
    refine V.condP (by simp only [D6,D5,hF,hA,↓reduceIte,qD,qE]; rfl) (fun hlt => ?_) (fun hlt => ?_)
    · have hlt' : k < T.N.length := by omega
      obtain ⟨i, o, hp, hx⟩ := h.n.at hlt'
      obtain ⟨hx1, _, _⟩ := hx _ ((g1.trans g2).trans hg7)
      (repeat first|apply V.seq|apply V.block|apply V.scope|apply V.skip|apply V.close)
      refine V.run ?_
      refine VI.steps' 5 (by simp +contextual (disch := first|omega|simp only [nx];omega) only [D4,qF,qG,qA,qB,qC,D5,hF,hA,↓reduceIte,qD,qE, bx.2, hp, hx1]; with_reducible rfl) ?_
      simp only [ds]
      refine VI.callA rfl (f45_ok T.N[k] (-50) 50 X7) (by simp only [D6,D5,hF,hA,↓reduceIte,qD,qE]; try rfl) (fun Y gy => ?_)
      refine VI.line' (by simp +contextual (disch := first|omega|simp only [nx];omega) only [D4,qF,qG,qA,qB,qC,D5,hF,hA,↓reduceIte,qD,qE]; with_reducible rfl) ?_
      (repeat first|apply V.seq|apply V.block|apply V.scope|apply V.skip|apply V.close)
      refine V.condP (by simp only [D6,D5,hF,hA,↓reduceIte,qD,qE]; rfl) (fun hw => ?_) (fun hw => ?_)
      · (repeat first|apply V.seq|apply V.block|apply V.scope|apply V.skip|apply V.close)
        refine V.line' (by simp +contextual (disch := first|omega|simp only [nx];omega) only [D4,qF,qG,qA,qB,qC,D5,hF,hA,↓reduceIte,qD,qE]; with_reducible rfl) ?_
        (repeat first|apply V.seq|apply V.block|apply V.scope|apply V.skip|apply V.close)
        refine V.ret (V.rets rfl (Or.inr ⟨by simp, V.rets rfl (Lv.retG (by simp +contextual (disch := first|omega|simp only [nx];omega) only [D1, cells_alloc_at, cells_alloc_ne, cells_set_at, cells_set_ne, yres, yres1, yresL, qA, qB, qC, D5,hF,hA,↓reduceIte,qD,qE]; rfl) ?_ ?_)⟩))
        · exact ((g1.trans g2).trans hg7).trans gy
        · rw [flt, if_neg (not_not_intro hfit), if_pos (fun hh => hw (hh.2.2.2.2.2.2.2 _ (List.getElem_mem hlt')))]
      · (repeat first|apply V.seq|apply V.block|apply V.scope|apply V.skip|apply V.close)
        refine V.line' (by simp +contextual (disch := first|omega|simp only [nx];omega) only [D4,qF,qG,qA,qB,qC,D5,hF,hA,↓reduceIte,qD,qE]; with_reducible rfl) ?_
        refine V.nil (Or.inl ⟨rfl, T.N.length - (k + 1), by omega, ?_⟩)
        refine ⟨k + 1, by omega, rfl, rfl, hg7.trans gy, ?_, (by intro i; simp only [full_st, hF]), (by simp only [Kn, D5,hF,hA,↓reduceIte,qD,qE, and_self, and_true, true_and]; try (repeat' constructor))⟩
        intro q hq
        rw [List.take_succ_eq_append_getElem hlt'] at hq
        rcases List.mem_append.1 hq with hq | hq
        · exact hall q hq
        · rw [List.mem_singleton.1 hq]; exact Decidable.not_not.1 hw
    have hN : ∀ q ∈ T.N, wi (-50) 50 q := by
      have e : T.N.take k = T.N := List.take_of_length_le (by omega)
      rw [e] at hall
      exact hall
    refine V.exit ?_
    (repeat first | refine V.pass ?_ | refine V.here ?_ | refine V.out (by decide) ?_)
    refine V.nil (Or.inr ⟨by simp, ?_⟩)
    (repeat first | refine V.pass ?_ | refine V.here ?_ | refine V.out (by decide) ?_)
    (repeat first|apply V.seq|apply V.block|apply V.scope|apply V.skip|apply V.close)
    refine V.line' (by simp +contextual (disch := first|omega|simp only [nx];omega) only [D4,qF,qG,qA,qB,qC,D5,hF,hA,↓reduceIte,qD,qE]; with_reducible rfl) ?_
    (repeat first|apply V.seq|apply V.block|apply V.scope|apply V.skip|apply V.close)
    refine V.ret (V.rets rfl (Lv.retG (by simp +contextual (disch := first|omega|simp only [nx];omega) only [D1, cells_alloc_at, cells_alloc_ne, cells_set_at, cells_set_ne, yres, yres1, yresL, qA, qB, qC, D5,hF,hA,↓reduceIte,qD,qE]; rfl) ?_ ?_))
    · exact (g1.trans g2).trans hg7
    · rw [flt, if_neg (not_not_intro hfit), if_neg (not_not_intro ⟨hd1, hd2, hd3, hd4, hC, hB, hR, hN⟩)]
end Go.Xe.TFX
