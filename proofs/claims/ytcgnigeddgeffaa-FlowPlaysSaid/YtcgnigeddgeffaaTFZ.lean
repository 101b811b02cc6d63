/- What the functions of the layer flow come to: the error of a table. Conditions: none. -/
import Derived.Test.YtcgnigeddgeffaaTFY
-- MOD TF
namespace Go.Xe.TFX
open Go Go.Xe Go.Proofs
open Nat renaming reduceLeDiff → qA, reduceSub → qB, reduceAdd → qC, reduceEqDiff → qD, reduceLT → qE
open Int renaming reduceNegSucc → qF, reduceEq → qG
open Go.Xe.Flw
set_option maxRecDepth 100000
set_option maxHeartbeats 3200000
set_option linter.unusedSimpArgs false
noncomputable def d26 : FCode := (.seq (.run (.go (.box 25 (.tmp (pth 0))) (pth 1)::
.go (.move (.con (.int .i64 (.ofNat 0)))) (pth 2)::
[])) (.seq (.run (.go (.loadN 4 (.tmp (pth 1))) (pth 3)::
.go (.call (.con (.func (.func 70) ⟨[]⟩ ⟨[]⟩)) [(.tmp (pth 3))]) (pth 4)::
.go (.move (.tmp (pth 4))) (pth 2)::
[])) .ret))
theorem de26 : @compF Try.prog (Gl.none Try.prog) Try.f26 1 = .mk d26 (mkTT 5) [(pth 0)] [.tmp (pth 2)] := by kernel_rfl
theorem dg26 : Try.prog.funcs[26]? = some Try.f26 := Try.func26
theorem do26 : okF Try.prog Try.f26 = true := by kernel_rfl
noncomputable def d109 : FCode := (.seq (.run (.go (.box 69 (.tmp (pth 0))) (pth 2)::
.go (.move (.con (.bool false))) (pth 4)::
[])) (.seq (.run (.go (.fieldAddr 0 (.tmp (pth 2))) (pth 5)::
.go (.load1 (.tmp (pth 5))) (pth 6)::
.go (.move (.tmp (pth 1))) (pth 7)::
.go (.bin .leq 3 (.tmp (pth 6)) (.tmp (pth 7))) (pth 8)::
.go (.move (.tmp (pth 8))) (pth 9)::
.gd (pth 9) true (.move (.tmp (pth 1))) (pth 10)::
.gd (pth 9) true (.fieldAddr 1 (.tmp (pth 2))) (pth 11)::
.gd (pth 9) true (.load1 (.tmp (pth 11))) (pth 12)::
.gd (pth 9) true (.bin .leq 3 (.tmp (pth 10)) (.tmp (pth 12))) (pth 13)::
.go (.pick (.tmp (pth 9)) (.tmp (pth 13)) (.con (.bool false))) (pth 14)::
.go (.move (.tmp (pth 14))) (pth 4)::
[])) .ret))
theorem de109 : @compF Try.prog (Gl.none Try.prog) Try.f109 2 = .mk d109 (mkTT 15) [(pth 0),(pth 1)] [.tmp (pth 4)] := by kernel_rfl
theorem dg109 : Try.prog.funcs[109]? = some Try.f109 := Try.func109
theorem do109 : okF Try.prog Try.f109 = true := by kernel_rfl
noncomputable def d86 : FCode := (.seq (.run (.go (.box 69 (.tmp (pth 0))) (pth 2)::
.go (.box 69 (.tmp (pth 1))) (pth 3)::
.go (.move (.con (.bool false))) (pth 4)::
[])) (.seq (.run (.go (.loadN 2 (.tmp (pth 2))) (pth 5)::
.go (.fieldAddr 0 (.tmp (pth 3))) (pth 6)::
.go (.load1 (.tmp (pth 6))) (pth 7)::
.go (.call (.con (.func (.func 109) ⟨[]⟩ ⟨[]⟩)) [(.tmp (pth 5)),(.tmp (pth 7))]) (pth 8)::
.go (.move (.tmp (pth 8))) (pth 9)::
.gd (pth 9) true (.loadN 2 (.tmp (pth 2))) (pth 10)::
.gd (pth 9) true (.fieldAddr 1 (.tmp (pth 3))) (pth 11)::
.gd (pth 9) true (.load1 (.tmp (pth 11))) (pth 12)::
.gd (pth 9) true (.call (.con (.func (.func 109) ⟨[]⟩ ⟨[]⟩)) [(.tmp (pth 10)),(.tmp (pth 12))]) (pth 13)::
.go (.pick (.tmp (pth 9)) (.tmp (pth 13)) (.con (.bool false))) (pth 14)::
.go (.move (.tmp (pth 14))) (pth 15)::
.gd (pth 15) true (.fieldAddr 0 (.tmp (pth 3))) (pth 16)::
.gd (pth 15) true (.load1 (.tmp (pth 16))) (pth 17)::
.gd (pth 15) true (.fieldAddr 1 (.tmp (pth 3))) (pth 18)::
.gd (pth 15) true (.load1 (.tmp (pth 18))) (pth 19)::
.gd (pth 15) true (.bin .leq 3 (.tmp (pth 17)) (.tmp (pth 19))) (pth 20)::
.go (.pick (.tmp (pth 15)) (.tmp (pth 20)) (.con (.bool false))) (pth 21)::
.go (.move (.tmp (pth 21))) (pth 4)::
[])) .ret))
theorem de86 : @compF Try.prog (Gl.none Try.prog) Try.f86 2 = .mk d86 (mkTT 22) [(pth 0),(pth 1)] [.tmp (pth 4)] := by kernel_rfl
theorem dg86 : Try.prog.funcs[86]? = some Try.f86 := Try.func86
theorem do86 : okF Try.prog Try.f86 = true := by kernel_rfl
noncomputable def d85 : FCode := (.seq (.run (.go (.alloc 69 [(.int .i64 (.ofNat 0)),(.int .i64 (.ofNat 0))]) (pth 0)::
[])) (.seq (.run (.go (.build [(.int .i64 (.ofNat 0)),(.int .i64 (.ofNat 0))] [(0,1,(.con (.int .i64 (.ofNat 0)))),(1,1,(.con (.int .i64 (.ofNat 500))))]) (pth 1)::
.un (.store 2 (.tmp (pth 0)) (.tmp (pth 1)))::
[])) .ret))
theorem de85 : @compF Try.prog (Gl.none Try.prog) Try.f85 0 = .mk d85 (mkTT 2) [] [.many (pth 0) 2] := by kernel_rfl
theorem dg85 : Try.prog.funcs[85]? = some Try.f85 := Try.func85
theorem do85 : okF Try.prog Try.f85 = true := by kernel_rfl
noncomputable def d103 : FCode := (.seq (.run (.go (.move (.con (.bool false))) (pth 4)::
[])) (.seq (.seq (.run (.go (.move (.tmp (pth 0))) (pth 7)::
.go (.len 0 (.tmp (pth 7))) (pth 8)::
.go (.move (.con (.int .i64 (.ofNat 0)))) (pth 9)::
[])) (.block 0 (.loop (.seq (.run (.go (.bin .lss 3 (.tmp (pth 9)) (.tmp (pth 8))) (pth 10)::
[])) (.seq (.cond (.tmp (pth 10)) .skip (.exit 0)) (.seq (.block 1 (.seq (.run (.go (.indexAddr none 2 (.tmp (pth 7)) (.tmp (pth 9))) (pth 11)::
.go (.loadN 2 (.tmp (pth 11))) (pth 12)::
.go (.alloc 69 [(.int .i64 (.ofNat 0)),(.int .i64 (.ofNat 0))]) (pth 6)::
.un (.store 2 (.tmp (pth 6)) (.tmp (pth 12)))::
[])) (.seq (.run (.go (.move (.tmp (pth 1))) (pth 13)::
.go (.loadN 2 (.tmp (pth 6))) (pth 14)::
.go (.call (.tmp (pth 13)) [(.tmp (pth 14))]) (pth 15)::
.go (.un .not (.tmp (pth 15))) (pth 16)::
[])) (.cond (.tmp (pth 16)) (.seq (.run (.go (.move (.con (.bool false))) (pth 4)::
[])) .ret) .skip)))) (.run (.go (.bin .add 3 (.tmp (pth 9)) (.con (.int .i64 (.ofNat 1)))) (pth 17)::
.go (.move (.tmp (pth 17))) (pth 9)::
[])))))))) (.seq (.run (.go (.move (.con (.bool true))) (pth 4)::
[])) .ret)))
theorem de103 : @compF Try.prog (Gl.none Try.prog) Try.f103 2 = .mk d103 (mkTT 18) [(pth 0),(pth 1)] [.tmp (pth 4)] := by kernel_rfl
theorem dg103 : Try.prog.funcs[103]? = some Try.f103 := Try.func103
theorem do103 : okF Try.prog Try.f103 = true := by kernel_rfl
noncomputable def d104 : FCode := (.seq (.run (.go (.move (.con (.bool false))) (pth 4)::
[])) (.seq (.seq (.run (.go (.move (.tmp (pth 0))) (pth 7)::
.go (.len 0 (.tmp (pth 7))) (pth 8)::
.go (.move (.con (.int .i64 (.ofNat 0)))) (pth 9)::
[])) (.block 0 (.loop (.seq (.run (.go (.bin .lss 3 (.tmp (pth 9)) (.tmp (pth 8))) (pth 10)::
[])) (.seq (.cond (.tmp (pth 10)) .skip (.exit 0)) (.seq (.block 1 (.seq (.run (.go (.indexAddr none 1 (.tmp (pth 7)) (.tmp (pth 9))) (pth 11)::
.go (.load1 (.tmp (pth 11))) (pth 12)::
.go (.move (.tmp (pth 12))) (pth 6)::
[])) (.seq (.run (.go (.move (.tmp (pth 1))) (pth 13)::
.go (.move (.tmp (pth 6))) (pth 14)::
.go (.call (.tmp (pth 13)) [(.tmp (pth 14))]) (pth 15)::
.go (.un .not (.tmp (pth 15))) (pth 16)::
[])) (.cond (.tmp (pth 16)) (.seq (.run (.go (.move (.con (.bool false))) (pth 4)::
[])) .ret) .skip)))) (.run (.go (.bin .add 3 (.tmp (pth 9)) (.con (.int .i64 (.ofNat 1)))) (pth 17)::
.go (.move (.tmp (pth 17))) (pth 9)::
[])))))))) (.seq (.run (.go (.move (.con (.bool true))) (pth 4)::
[])) .ret)))
theorem de104 : @compF Try.prog (Gl.none Try.prog) Try.f104 2 = .mk d104 (mkTT 18) [(pth 0),(pth 1)] [.tmp (pth 4)] := by kernel_rfl
theorem dg104 : Try.prog.funcs[104]? = some Try.f104 := Try.func104
theorem do104 : okF Try.prog Try.f104 = true := by kernel_rfl
noncomputable def d102 : FCode := (.seq (.run (.go (.move (.con (.bool false))) (pth 4)::
[])) (.seq (.run (.go (.move (.tmp (pth 0))) (pth 5)::
.go (.len 0 (.tmp (pth 5))) (pth 6)::
.go (.loadN 4 (.tmp (pth 1))) (pth 7)::
.go (.call (.con (.func (.func 101) ⟨[]⟩ ⟨[]⟩)) [(.tmp (pth 7))]) (pth 8)::
.go (.bin .eql 3 (.tmp (pth 6)) (.tmp (pth 8))) (pth 9)::
.go (.move (.tmp (pth 9))) (pth 10)::
.gd (pth 10) true (.move (.tmp (pth 0))) (pth 11)::
.gd (pth 10) true (.load1 (.tmp (pth 2))) (pth 12)::
.gd (pth 10) true (.call (.con (.func (.func 103) ⟨[]⟩ ⟨[]⟩)) [(.tmp (pth 11)),(.tmp (pth 12))]) (pth 13)::
.go (.pick (.tmp (pth 10)) (.tmp (pth 13)) (.con (.bool false))) (pth 14)::
.go (.move (.tmp (pth 14))) (pth 4)::
[])) .ret))
theorem de102 : @compF Try.prog (Gl.none Try.prog) Try.f102 3 = .mk d102 (mkTT 15) [(pth 0),(pth 1),(pth 2)] [.tmp (pth 4)] := by kernel_rfl
theorem dg102 : Try.prog.funcs[102]? = some Try.f102 := Try.func102
theorem do102 : okF Try.prog Try.f102 = true := by kernel_rfl
noncomputable def d62 : FCode := (.seq (.run (.go (.box 38 (.tmp (pth 0))) (pth 1)::
.go (.move (.con (.bool false))) (pth 2)::
[])) (.seq (.run (.go (.fieldAddr 0 (.tmp (pth 1))) (pth 3)::
.go (.load1 (.tmp (pth 3))) (pth 4)::
.go (.len 0 (.tmp (pth 4))) (pth 5)::
.go (.bin .leq 3 (.tmp (pth 5)) (.con (.int .i64 (.ofNat 4)))) (pth 6)::
.go (.move (.tmp (pth 6))) (pth 7)::
.gd (pth 7) true (.loadN 4 (.tmp (pth 1))) (pth 8)::
.gd (pth 7) true (.call (.con (.func (.func 101) ⟨[]⟩ ⟨[]⟩)) [(.tmp (pth 8))]) (pth 9)::
.gd (pth 7) true (.bin .leq 3 (.tmp (pth 9)) (.con (.int .i64 (.ofNat 4)))) (pth 10)::
.go (.pick (.tmp (pth 7)) (.tmp (pth 10)) (.con (.bool false))) (pth 11)::
.go (.move (.tmp (pth 11))) (pth 2)::
[])) .ret))
theorem de62 : @compF Try.prog (Gl.none Try.prog) Try.f62 1 = .mk d62 (mkTT 12) [(pth 0)] [.tmp (pth 2)] := by kernel_rfl
theorem dg62 : Try.prog.funcs[62]? = some Try.f62 := Try.func62
theorem do62 : okF Try.prog Try.f62 = true := by kernel_rfl
noncomputable def d63 : FCode := (.seq (.run (.go (.box 38 (.tmp (pth 0))) (pth 1)::
.go (.move (.con (.bool false))) (pth 2)::
[])) (.seq (.run (.go (.call (.con (.func (.func 85) ⟨[]⟩ ⟨[]⟩)) []) (pth 7)::
.go (.makeFunc 86 [(.tmp (pth 7))] []) (pth 8)::
.go (.build [(.int .i64 (.ofNat 0)),(.int .i64 (.ofNat 0))] [(0,1,(.con (.int .i64 (.ofNat 0)))),(1,1,(.con (.int .i64 (.ofNat 1000))))]) (pth 9)::
.go (.makeFunc 86 [(.tmp (pth 9))] []) (pth 10)::
.go (.build [(.int .i64 (.ofNat 0)),(.int .i64 (.ofNat 0))] [(0,1,(.con (.int .i64 (.negSucc 49)))),(1,1,(.con (.int .i64 (.ofNat 50))))]) (pth 11)::
.go (.makeFunc 86 [(.tmp (pth 11))] []) (pth 12)::
.go (.alloc 152 [.nilFunc]) (pth 3)::
.un (.store 1 (.tmp (pth 3)) (.tmp (pth 8)))::
.go (.move (.tmp (pth 10))) (pth 4)::
.go (.move (.tmp (pth 12))) (pth 5)::
[])) (.seq (.run (.go (.makeFunc 102 [] [(.tmp (pth 1)),(.tmp (pth 3))]) (pth 13)::
.go (.move (.tmp (pth 13))) (pth 6)::
[])) (.seq (.draw 55 (.go (.loadN 4 (.tmp (pth 1))) (pth 14)::
.go (.call (.con (.func (.func 101) ⟨[]⟩ ⟨[]⟩)) [(.tmp (pth 14))]) (pth 15)::
.go (.bin .geq 3 (.tmp (pth 15)) (.con (.int .i64 (.ofNat 2)))) (pth 16)::
.go (.move (.tmp (pth 16))) (pth 17)::
.gd (pth 17) true (.fieldAddr 0 (.tmp (pth 1))) (pth 18)::
.gd (pth 17) true (.load1 (.tmp (pth 18))) (pth 19)::
.gd (pth 17) true (.move (.tmp (pth 6))) (pth 20)::
.gd (pth 17) true (.call (.con (.func (.func 104) ⟨[]⟩ ⟨[]⟩)) [(.tmp (pth 19)),(.tmp (pth 20))]) (pth 21)::
.go (.pick (.tmp (pth 17)) (.tmp (pth 21)) (.con (.bool false))) (pth 22)::
.go (.move (.tmp (pth 22))) (pth 23)::
.gd (pth 23) true (.fieldAddr 1 (.tmp (pth 1))) (pth 24)::
.gd (pth 23) true (.load1 (.tmp (pth 24))) (pth 25)::
.gd (pth 23) true (.len 0 (.tmp (pth 25))) (pth 26)::
.gd (pth 23) true (.fieldAddr 0 (.tmp (pth 1))) (pth 27)::
.gd (pth 23) true (.load1 (.tmp (pth 27))) (pth 28)::
.gd (pth 23) true (.len 0 (.tmp (pth 28))) (pth 29)::
.gd (pth 23) true (.bin .sub 3 (.tmp (pth 29)) (.con (.int .i64 (.ofNat 1)))) (pth 30)::
.gd (pth 23) true (.bin .eql 3 (.tmp (pth 26)) (.tmp (pth 30))) (pth 31)::
.go (.pick (.tmp (pth 23)) (.tmp (pth 31)) (.con (.bool false))) (pth 32)::
.go (.move (.tmp (pth 32))) (pth 33)::
.gd (pth 33) true (.fieldAddr 1 (.tmp (pth 1))) (pth 34)::
.gd (pth 33) true (.load1 (.tmp (pth 34))) (pth 35)::
.gd (pth 33) true (.load1 (.tmp (pth 3))) (pth 36)::
.gd (pth 33) true (.call (.con (.func (.func 103) ⟨[]⟩ ⟨[]⟩)) [(.tmp (pth 35)),(.tmp (pth 36))]) (pth 37)::
.go (.pick (.tmp (pth 33)) (.tmp (pth 37)) (.con (.bool false))) (pth 38)::
.go (.move (.tmp (pth 38))) (pth 39)::
.gd (pth 39) true (.fieldAddr 2 (.tmp (pth 1))) (pth 40)::
.gd (pth 39) true (.load1 (.tmp (pth 40))) (pth 41)::
.gd (pth 39) true (.len 0 (.tmp (pth 41))) (pth 42)::
.gd (pth 39) true (.loadN 4 (.tmp (pth 1))) (pth 43)::
.gd (pth 39) true (.call (.con (.func (.func 101) ⟨[]⟩ ⟨[]⟩)) [(.tmp (pth 43))]) (pth 44)::
.gd (pth 39) true (.bin .add 3 (.tmp (pth 44)) (.con (.int .i64 (.ofNat 1)))) (pth 45)::
.gd (pth 39) true (.bin .eql 3 (.tmp (pth 42)) (.tmp (pth 45))) (pth 46)::
.go (.pick (.tmp (pth 39)) (.tmp (pth 46)) (.con (.bool false))) (pth 47)::
.go (.move (.tmp (pth 47))) (pth 48)::
.gd (pth 48) true (.fieldAddr 2 (.tmp (pth 1))) (pth 49)::
.gd (pth 48) true (.load1 (.tmp (pth 49))) (pth 50)::
.gd (pth 48) true (.move (.tmp (pth 4))) (pth 51)::
.gd (pth 48) true (.call (.con (.func (.func 103) ⟨[]⟩ ⟨[]⟩)) [(.tmp (pth 50)),(.tmp (pth 51))]) (pth 52)::
.go (.pick (.tmp (pth 48)) (.tmp (pth 52)) (.con (.bool false))) (pth 53)::
.go (.move (.tmp (pth 53))) (pth 54)::
.gd (pth 54) true (.fieldAddr 3 (.tmp (pth 1))) (pth 55)::
.gd (pth 54) true (.load1 (.tmp (pth 55))) (pth 56)::
.gd (pth 54) true (.len 0 (.tmp (pth 56))) (pth 57)::
.gd (pth 54) true (.loadN 4 (.tmp (pth 1))) (pth 58)::
.gd (pth 54) true (.call (.con (.func (.func 101) ⟨[]⟩ ⟨[]⟩)) [(.tmp (pth 58))]) (pth 59)::
.gd (pth 54) true (.bin .eql 3 (.tmp (pth 57)) (.tmp (pth 59))) (pth 60)::
.go (.pick (.tmp (pth 54)) (.tmp (pth 60)) (.con (.bool false))) (pth 61)::
.go (.move (.tmp (pth 61))) (pth 62)::
.gd (pth 62) true (.fieldAddr 3 (.tmp (pth 1))) (pth 63)::
.gd (pth 62) true (.load1 (.tmp (pth 63))) (pth 64)::
.gd (pth 62) true (.move (.tmp (pth 5))) (pth 65)::
.gd (pth 62) true (.call (.con (.func (.func 103) ⟨[]⟩ ⟨[]⟩)) [(.tmp (pth 64)),(.tmp (pth 65))]) (pth 66)::
.go (.pick (.tmp (pth 62)) (.tmp (pth 66)) (.con (.bool false))) (pth 67)::
.go (.move (.tmp (pth 67))) (pth 2)::
[]) [.ok,.ok,.ok,.ok,.ok,.ok,.ok,.ok,.ok,.ok,.ok,.ok,.ok,.ok,.ok,.ok,.ok,.ok,.ok,.ok,.ok,.ok,.ok,.ok,.ok,.ok,.ok,.rd (some ((pth 39),true)) (.load1 (.tmp (pth 40))) (some (pth 41)) [31],.rd (some ((pth 39),true)) (.len 0 (.tmp (pth 41))) (some (pth 42)) [31],.ok,.ok,.ok,.ok,.ok,.ok,.ok,.ok,.ok,.ok,.ok,.ok,.ok,.rd (some ((pth 54),true)) (.load1 (.tmp (pth 55))) (some (pth 56)) [46],.rd (some ((pth 54),true)) (.len 0 (.tmp (pth 56))) (some (pth 57)) [46],.ok,.ok,.ok,.ok,.ok,.ok,.ok,.ok,.ok,.ok,.ok]) .ret))))
theorem de63 : @compF Try.prog (Gl.none Try.prog) Try.f63 1 = .mk d63 (mkTT 68) [(pth 0)] [.tmp (pth 2)] := by kernel_rfl
theorem dg63 : Try.prog.funcs[63]? = some Try.f63 := Try.func63
theorem do63 : okF Try.prog Try.f63 = true := by kernel_rfl
noncomputable def d21 : FCode := (.seq (.run (.go (.box 38 (.tmp (pth 0))) (pth 1)::
.go (.move (.con (.int .i64 (.ofNat 0)))) (pth 2)::
[])) (.seq (.block 0 (.seq (.run (.go (.loadN 4 (.tmp (pth 1))) (pth 4)::
.go (.call (.con (.func (.func 62) ⟨[]⟩ ⟨[]⟩)) [(.tmp (pth 4))]) (pth 5)::
.go (.un .not (.tmp (pth 5))) (pth 6)::
.go (.move (.tmp (pth 6))) (pth 3)::
[])) (.cond (.tmp (pth 3)) (.seq (.run (.go (.move (.con (.int .i64 (.ofNat 3)))) (pth 2)::
[])) .ret) (.seq (.run (.go (.loadN 4 (.tmp (pth 1))) (pth 8)::
.go (.call (.con (.func (.func 63) ⟨[]⟩ ⟨[]⟩)) [(.tmp (pth 8))]) (pth 9)::
.go (.un .not (.tmp (pth 9))) (pth 10)::
.go (.move (.tmp (pth 10))) (pth 7)::
[])) (.cond (.tmp (pth 7)) (.seq (.run (.go (.move (.con (.int .i64 (.ofNat 1)))) (pth 2)::
[])) .ret) .skip))))) (.seq (.run (.go (.move (.con (.int .i64 (.ofNat 0)))) (pth 2)::
[])) .ret)))
theorem de21 : @compF Try.prog (Gl.none Try.prog) Try.f21 1 = .mk d21 (mkTT 11) [(pth 0)] [.tmp (pth 2)] := by kernel_rfl
theorem dg21 : Try.prog.funcs[21]? = some Try.f21 := Try.func21
theorem do21 : okF Try.prog Try.f21 = true := by kernel_rfl
theorem f26_ok {H : Heap} {c b r n : Value} {T : Tb} (h : TV H c b r n T) : Gives Try.prog 26 [.agg ⟨[c, b, r, n]⟩] H (I (flt T)) := by
  refine F.entryL rfl dg26 do26 de26 rfl (by kernel_rfl) ?_
  simp only [sets]
  refine V.re [(0, .agg ⟨[c, b, r, n]⟩)] (N := 5) (by intro i; simp only [full_st, Full.mk]) (by simp only [Kn, gt_st, full_st, Full.mk, ↓reduceIte, qD, qE, decide_true, and_self]) ?_
  intro t hF hA
  simp only [Kn, and_true] at hA
  (repeat first|apply V.seq|apply V.block|apply V.scope|apply V.skip|apply V.close)
  refine V.line' (by simp +contextual (disch := first|omega|simp only [nx];omega) only [D4,qF,qG,qA,qB,qC,D5,hF,hA,↓reduceIte,qD,qE]; with_reducible rfl) ?_
  refine V.heap (fun X => Grow H X ∧ Bx X H.next [c, b, r, n] 25) ⟨?_, ?_⟩ ?_
  · (repeat first | assumption | exact Grow.refl _ | refine Grow.alloc ?_ _ | refine Grow.set ?_ (by first|omega|simp only [nx];omega) _)
  · (repeat first | assumption | exact Bx.new _ _ _ | exact Bx.newAt (by first|omega|simp only [nx];omega) | refine Bx.put (by first|omega|simp only [nx];omega) _ _ | refine Bx.alloc ?_ _ | refine Bx.set ?_ (by first|omega|simp only [nx];omega) _)
  rintro H1 ⟨g1, b1⟩
  (repeat first|apply V.seq|apply V.block|apply V.scope|apply V.skip|apply V.close)
  refine V.run ?_
  refine VI.steps' 1 (by simp +contextual (disch := first|omega|simp only [nx];omega) only [D4,qF,qG,qA,qB,qC,D5,hF,hA,↓reduceIte,qD,qE, b1.2]; with_reducible rfl) ?_
  simp only [ds]
  refine VI.callA rfl (f70_ok (h.grow g1)) (by simp only [D6,D5,hF,hA,↓reduceIte,qD,qE]; try rfl) (fun H2 g2 => ?_)
  refine VI.line' (by simp +contextual (disch := first|omega|simp only [nx];omega) only [D4,qF,qG,qA,qB,qC,D5,hF,hA,↓reduceIte,qD,qE]; with_reducible rfl) ?_
  (repeat first|apply V.seq|apply V.block|apply V.scope|apply V.skip|apply V.close)
  refine V.ret (V.rets rfl (Lv.retG (by simp +contextual (disch := first|omega|simp only [nx];omega) only [D1, cells_alloc_at, cells_alloc_ne, cells_set_at, cells_set_ne, yres, yres1, yresL, qA, qB, qC, D5,hF,hA,↓reduceIte,qD,qE]; rfl) ?_ ?_))
  · exact g1.trans g2
  · rfl
theorem f109_ok (r : R2) (n : Int) (H : Heap) : Gives Try.prog 109 [.agg ⟨r2 r⟩, I n] H (.bool (decide (r.1 ≤ n ∧ n ≤ r.2))) := by
  obtain ⟨x, y⟩ := r
  refine F.entryL rfl dg109 do109 de109 rfl (by kernel_rfl) ?_
  simp only [sets]
  refine V.re [(0, .agg ⟨A2 x y⟩), (1, I n)] (N := 15) (by intro i; simp only [full_st, Full.mk]) (by simp only [Kn, gt_st, full_st, Full.mk, ↓reduceIte, qD, qE, decide_true, and_self]) ?_
  intro t hF hA
  simp only [Kn, and_true] at hA
  (repeat first|apply V.seq|apply V.block|apply V.scope|apply V.skip|apply V.close)
  refine V.line' (by simp +contextual (disch := first|omega|simp only [nx];omega) only [D4,qF,qG,qA,qB,qC,D5,hF,hA,↓reduceIte,qD,qE]; with_reducible rfl) ?_
  (repeat first|apply V.seq|apply V.block|apply V.scope|apply V.skip|apply V.close)
  refine V.line' (by simp +contextual (disch := first|omega|simp only [nx];omega) only [D4,qF,qG,qA,qB,qC,D5,hF,hA,↓reduceIte,qD,qE]; with_reducible rfl) ?_
  (repeat first|apply V.seq|apply V.block|apply V.scope|apply V.skip|apply V.close)
  refine V.ret (V.rets rfl (Lv.retG (by simp +contextual (disch := first|omega|simp only [nx];omega) only [D1, cells_alloc_at, cells_alloc_ne, cells_set_at, cells_set_ne, yres, yres1, yresL, qA, qB, qC, D5,hF,hA,↓reduceIte,qD,qE]; rfl) ?_ ?_))
  · (repeat first | assumption | exact Grow.refl _ | refine Grow.alloc ?_ _ | refine Grow.set ?_ (by first|omega|simp only [nx];omega) _)
  · rfl
theorem f86_ok (o r : R2) (H : Heap) : Gives Try.prog 86 [.agg ⟨r2 o⟩, .agg ⟨r2 r⟩] H (.bool (decide (wi o.1 o.2 r))) := by
  obtain ⟨x, y⟩ := r
  obtain ⟨a, b⟩ := o
  refine F.entryL rfl dg86 do86 de86 rfl (by kernel_rfl) ?_
  simp only [sets]
  refine V.re [(0, .agg ⟨A2 a b⟩), (1, .agg ⟨A2 x y⟩)] (N := 22) (by intro i; simp only [full_st, Full.mk]) (by simp only [Kn, gt_st, full_st, Full.mk, ↓reduceIte, qD, qE, decide_true, and_self]) ?_
  intro t hF hA
  simp only [Kn, and_true] at hA
  (repeat first|apply V.seq|apply V.block|apply V.scope|apply V.skip|apply V.close)
  refine V.line' (by simp +contextual (disch := first|omega|simp only [nx];omega) only [D4,qF,qG,qA,qB,qC,D5,hF,hA,↓reduceIte,qD,qE]; with_reducible rfl) ?_
  refine V.heap (fun X => Grow H X ∧ Bx X H.next (A2 a b) 69 ∧ Bx X (H.next + 1) (A2 x y) 69) ⟨?_, ?_, ?_⟩ ?_
  · (repeat first | assumption | exact Grow.refl _ | refine Grow.alloc ?_ _ | refine Grow.set ?_ (by first|omega|simp only [nx];omega) _)
  · (repeat first | assumption | exact Bx.new _ _ _ | exact Bx.newAt (by first|omega|simp only [nx];omega) | refine Bx.put (by first|omega|simp only [nx];omega) _ _ | refine Bx.alloc ?_ _ | refine Bx.set ?_ (by first|omega|simp only [nx];omega) _)
  · (repeat first | assumption | exact Bx.new _ _ _ | exact Bx.newAt (by first|omega|simp only [nx];omega) | refine Bx.put (by first|omega|simp only [nx];omega) _ _ | refine Bx.alloc ?_ _ | refine Bx.set ?_ (by first|omega|simp only [nx];omega) _)
  rintro H1 ⟨g1, b1, c1⟩
  (repeat first|apply V.seq|apply V.block|apply V.scope|apply V.skip|apply V.close)
  refine V.run ?_
  refine VI.steps' 3 (by simp +contextual (disch := first|omega|simp only [nx];omega) only [D4,qF,qG,qA,qB,qC,D5,hF,hA,↓reduceIte,qD,qE, b1.2, c1.2]; with_reducible rfl) ?_
  simp only [ds]
  refine VI.callA rfl (f109_ok (a, b) x _) (by simp only [D6,D5,hF,hA,↓reduceIte,qD,qE]; try rfl) (fun H2 g2 => ?_)
  have b2 := b1.grow g2
  have c2 := c1.grow g2
  refine VI.steps' 4 (by simp +contextual (disch := first|omega|simp only [nx];omega) only [D4,qF,qG,qA,qB,qC,D5,hF,hA,↓reduceIte,qD,qE, b2.2, c2.2]; with_reducible rfl) ?_
  simp only [ds]
  first | refine VI.callGt (by simp only [D5,hF,hA,↓reduceIte,qD,qE]; try rfl) (fun hc => by simp only [D6,D5,hF,hA,↓reduceIte,qD,qE, hc, and_self, and_true, true_and, not_false_eq_true]; try rfl) (fun hc => f109_ok (a, b) y _) (fun hc => by simp only [D6,D5,hF,hA,↓reduceIte,qD,qE, hc, and_self, and_true, true_and, not_false_eq_true]; try rfl) (fun H3 g3 => ?_) | refine VI.callGf (by simp only [D5,hF,hA,↓reduceIte,qD,qE]; try rfl) (fun hc => by simp only [D6,D5,hF,hA,↓reduceIte,qD,qE, hc, and_self, and_true, true_and, not_false_eq_true]; try rfl) (fun hc => f109_ok (a, b) y _) (fun hc => by simp only [D6,D5,hF,hA,↓reduceIte,qD,qE, hc, and_self, and_true, true_and, not_false_eq_true]; try rfl) (fun H3 g3 => ?_)
  have b3 := b2.grow g3
  have c3 := c2.grow g3
  refine VI.line' (by simp +contextual (disch := first|omega|simp only [nx];omega) only [D4,qF,qG,qA,qB,qC,D5,hF,hA,↓reduceIte,qD,qE, b3.2, c3.2]; with_reducible rfl) ?_
  (repeat first|apply V.seq|apply V.block|apply V.scope|apply V.skip|apply V.close)
  refine V.ret (V.rets rfl (Lv.retG (by simp +contextual (disch := first|omega|simp only [nx];omega) only [D1, cells_alloc_at, cells_alloc_ne, cells_set_at, cells_set_ne, yres, yres1, yresL, qA, qB, qC, D5,hF,hA,↓reduceIte,qD,qE]; rfl) ?_ ?_))
  · exact (g1.trans g2).trans g3
  · congr 1
    rw [decide_eq_decide]
    unfold wi
    simp only
    omega
theorem f85_ok (H : Heap) : Gives Try.prog 85 [] H (.agg ⟨A2 0 500⟩) := by
  refine F.entryL rfl dg85 do85 de85 rfl (by kernel_rfl) ?_
  simp only [sets]
  refine V.re [] (N := 2) (by intro i; simp only [full_st, Full.mk]) (by simp only [Kn, gt_st, full_st, Full.mk, ↓reduceIte, qD, qE, decide_true, and_self]) ?_
  intro t hF hA
  (repeat first|apply V.seq|apply V.block|apply V.scope|apply V.skip|apply V.close)
  refine V.line' (by simp +contextual (disch := first|omega|simp only [nx];omega) only [D4,qF,qG,qA,qB,qC,D5,hF,hA,↓reduceIte,qD,qE]; with_reducible rfl) ?_
  (repeat first|apply V.seq|apply V.block|apply V.scope|apply V.skip|apply V.close)
  refine V.line' (by simp +contextual (disch := first|omega|simp only [nx];omega) only [D4,qF,qG,qA,qB,qC,D5,hF,hA,↓reduceIte,qD,qE]; with_reducible rfl) ?_
  (repeat first|apply V.seq|apply V.block|apply V.scope|apply V.skip|apply V.close)
  refine V.ret (V.rets rfl (Lv.retG (by simp +contextual (disch := first|omega|simp only [nx];omega) only [D1, cells_alloc_at, cells_alloc_ne, cells_set_at, cells_set_ne, yres, yres1, yresL, qA, qB, qC, D5,hF,hA,↓reduceIte,qD,qE]; rfl) ?_ ?_))
  · (repeat first | assumption | exact Grow.refl _ | refine Grow.alloc ?_ _ | refine Grow.set ?_ (by first|omega|simp only [nx];omega) _)
  · rfl
theorem f103_ok {H : Heap} {v y : Value} {L : List R2} {p : R2 → Prop} [DecidablePred p] (h : RS H v L) (hn : L.length ≤ 1048576) (hy : ∀ X, Grow H X → ∀ r, FV Try.prog y [.agg ⟨r2 r⟩] X (fun w X' => w = .bool (decide (p r)) ∧ Grow X X')) : Gives Try.prog 103 [v, y] H (.bool (decide (∀ r ∈ L, p r))) := by
  have hl := h.len
  refine F.entryL rfl dg103 do103 de103 rfl (by kernel_rfl) ?_
  simp only [sets]
  refine V.re [(0, v), (1, y)] (N := 18) (by intro i; simp only [full_st, Full.mk]) (by simp only [Kn, gt_st, full_st, Full.mk, ↓reduceIte, qD, qE, decide_true, and_self]) ?_
  intro t hF hA
  simp only [Kn, and_true] at hA
  (repeat first|apply V.seq|apply V.block|apply V.scope|apply V.skip|apply V.close)
  refine V.line' (by simp +contextual (disch := first|omega|simp only [nx];omega) only [D4,qF,qG,qA,qB,qC,D5,hF,hA,↓reduceIte,qD,qE]; with_reducible rfl) ?_
  (repeat first|apply V.seq|apply V.block|apply V.scope|apply V.skip|apply V.close)
  refine V.line' (by simp +contextual (disch := first|omega|simp only [nx];omega) only [D4,qF,qG,qA,qB,qC,D5,hF,hA,↓reduceIte,qD,qE, hl]; with_reducible rfl) ?_
  (repeat first|apply V.seq|apply V.block|apply V.scope|apply V.skip|apply V.close)
  refine V.loop (fun z t m X => ∃ (k : Nat), k ≤ L.length ∧ z = L.length - k ∧ m = [] ∧ Grow H X ∧ (∀ r ∈ L.take k, p r) ∧ Full 18 t ∧ Kn [(1, y), (7, v), (8, I L.length), (9, I k)] t) L.length ?_ ?_
  · exact ⟨0, by omega, by omega, rfl, .refl _, by simp, (by intro i; simp only [full_st, hF]), (by simp only [Kn, D5,hF,hA,↓reduceIte,qD,qE, and_self, and_true, true_and]; try (repeat' constructor))⟩
  clear hF hA
  rintro z t m X ⟨k, hk, rfl, rfl, hg, hall, hF, hA⟩
  simp only [Kn, and_true] at hA
  (repeat first|apply V.seq|apply V.block|apply V.scope|apply V.skip|apply V.close)
  refine V.line' (by simp +contextual (disch := first|omega|simp only [nx];omega) only [D4,qF,qG,qA,qB,qC,D5,hF,hA,↓reduceIte,qD,qE]; with_reducible rfl) ?_
  (repeat first|apply V.seq|apply V.block|apply V.scope|apply V.skip|apply V.close)
  refine V.condP (by simp only [D6,D5,hF,hA,↓reduceIte,qD,qE]; rfl) (fun hlt => ?_) (fun hlt => ?_)
  · have hlt' : k < L.length := by omega
    obtain ⟨i, o, hp, hx⟩ := h.at hlt'
    obtain ⟨hx1, _, _⟩ := hx _ hg
    (repeat first|apply V.seq|apply V.block|apply V.scope|apply V.skip|apply V.close)
    refine V.line' (by simp +contextual (disch := first|omega|simp only [nx];omega) only [D4,qF,qG,qA,qB,qC,D5,hF,hA,↓reduceIte,qD,qE, hp, hx1]; with_reducible rfl) ?_
    refine V.heap (fun Y => Grow X Y ∧ Bx Y X.next (A2 L[k].1 L[k].2) 69) ⟨?_, ?_⟩ ?_
    · (repeat first | assumption | exact Grow.refl _ | refine Grow.alloc ?_ _ | refine Grow.set ?_ (by first|omega|simp only [nx];omega) _)
    · (repeat first | assumption | exact Bx.new _ _ _ | exact Bx.newAt (by first|omega|simp only [nx];omega) | refine Bx.put (by first|omega|simp only [nx];omega) _ _ | refine Bx.alloc ?_ _ | refine Bx.set ?_ (by first|omega|simp only [nx];omega) _)
    rintro X1 ⟨gx, bx⟩
    (repeat first|apply V.seq|apply V.block|apply V.scope|apply V.skip|apply V.close)
    refine V.run ?_
    refine VI.steps' 2 (by simp +contextual (disch := first|omega|simp only [nx];omega) only [D4,qF,qG,qA,qB,qC,D5,hF,hA,↓reduceIte,qD,qE, bx.2]; with_reducible rfl) ?_
    simp only [ds]
    refine VI.callV (by simp only [D6,D5,hF,hA,↓reduceIte,qD,qE]; rfl) (by simp only [dA, List.map_cons, List.map_nil, D5,hF,hA,↓reduceIte,qD,qE]; exact hy X1 (hg.trans gx) L[k]) (fun w X2 hw => ?_)
    obtain ⟨rfl, gy⟩ := hw
    refine VI.line' (by simp +contextual (disch := first|omega|simp only [nx];omega) only [D4,qF,qG,qA,qB,qC,D5,hF,hA,↓reduceIte,qD,qE]; with_reducible rfl) ?_
    (repeat first|apply V.seq|apply V.block|apply V.scope|apply V.skip|apply V.close)
    refine V.condP (by simp only [D6,D5,hF,hA,↓reduceIte,qD,qE]; rfl) (fun hw => ?_) (fun hw => ?_)
    · (repeat first|apply V.seq|apply V.block|apply V.scope|apply V.skip|apply V.close)
      refine V.line' (by simp +contextual (disch := first|omega|simp only [nx];omega) only [D4,qF,qG,qA,qB,qC,D5,hF,hA,↓reduceIte,qD,qE]; with_reducible rfl) ?_
      (repeat first|apply V.seq|apply V.block|apply V.scope|apply V.skip|apply V.close)
      refine V.ret (V.rets rfl (Or.inr ⟨by simp, V.rets rfl (Lv.retG (by simp +contextual (disch := first|omega|simp only [nx];omega) only [D1, cells_alloc_at, cells_alloc_ne, cells_set_at, cells_set_ne, yres, yres1, yresL, qA, qB, qC, D5,hF,hA,↓reduceIte,qD,qE]; rfl) ?_ ?_)⟩))
      · exact (hg.trans gx).trans gy
      · congr 1
        exact (decide_eq_false (fun hh => hw (hh _ (List.getElem_mem hlt')))).symm
    · (repeat first|apply V.seq|apply V.block|apply V.scope|apply V.skip|apply V.close)
      refine V.line' (by simp +contextual (disch := first|omega|simp only [nx];omega) only [D4,qF,qG,qA,qB,qC,D5,hF,hA,↓reduceIte,qD,qE]; with_reducible rfl) ?_
      refine V.nil (Or.inl ⟨rfl, L.length - (k + 1), by omega, ?_⟩)
      refine ⟨k + 1, by omega, rfl, rfl, (hg.trans gx).trans gy, ?_, (by intro i; simp only [full_st, hF]), (by simp only [Kn, D5,hF,hA,↓reduceIte,qD,qE, and_self, and_true, true_and]; try (repeat' constructor))⟩
      intro q hq
      rw [List.take_succ_eq_append_getElem hlt'] at hq
      rcases List.mem_append.1 hq with hq | hq
      · exact hall q hq
      · rw [List.mem_singleton.1 hq]; exact Decidable.not_not.1 hw
  · refine V.exit ?_
    (repeat first | refine V.pass ?_ | refine V.here ?_ | refine V.out (by decide) ?_)
    refine V.nil (Or.inr ⟨by simp, ?_⟩)
    (repeat first | refine V.pass ?_ | refine V.here ?_ | refine V.out (by decide) ?_)
    have e : L.take k = L := List.take_of_length_le (by omega)
    rw [e] at hall
    (repeat first|apply V.seq|apply V.block|apply V.scope|apply V.skip|apply V.close)
    refine V.line' (by simp +contextual (disch := first|omega|simp only [nx];omega) only [D4,qF,qG,qA,qB,qC,D5,hF,hA,↓reduceIte,qD,qE]; with_reducible rfl) ?_
    (repeat first|apply V.seq|apply V.block|apply V.scope|apply V.skip|apply V.close)
    refine V.ret (V.rets rfl (Lv.retG (by simp +contextual (disch := first|omega|simp only [nx];omega) only [D1, cells_alloc_at, cells_alloc_ne, cells_set_at, cells_set_ne, yres, yres1, yresL, qA, qB, qC, D5,hF,hA,↓reduceIte,qD,qE]; rfl) ?_ ?_))
    · exact hg
    · rw [decide_eq_true hall]
theorem f104_ok {H : Heap} {v y : Value} {L : List (List R2)} {p : List R2 → Prop} [DecidablePred p] (h : Nest RS H v L) (hn : L.length ≤ 1048576) (hy : ∀ X, Grow H X → ∀ x row, RS X x row → row ∈ L → FV Try.prog y [x] X (fun w X' => w = .bool (decide (p row)) ∧ Grow X X')) : Gives Try.prog 104 [v, y] H (.bool (decide (∀ r ∈ L, p r))) := by
  have hl := h.len
  refine F.entryL rfl dg104 do104 de104 rfl (by kernel_rfl) ?_
  simp only [sets]
  refine V.re [(0, v), (1, y)] (N := 18) (by intro i; simp only [full_st, Full.mk]) (by simp only [Kn, gt_st, full_st, Full.mk, ↓reduceIte, qD, qE, decide_true, and_self]) ?_
  intro t hF hA
  simp only [Kn, and_true] at hA
  (repeat first|apply V.seq|apply V.block|apply V.scope|apply V.skip|apply V.close)
  refine V.line' (by simp +contextual (disch := first|omega|simp only [nx];omega) only [D4,qF,qG,qA,qB,qC,D5,hF,hA,↓reduceIte,qD,qE]; with_reducible rfl) ?_
  (repeat first|apply V.seq|apply V.block|apply V.scope|apply V.skip|apply V.close)
  refine V.line' (by simp +contextual (disch := first|omega|simp only [nx];omega) only [D4,qF,qG,qA,qB,qC,D5,hF,hA,↓reduceIte,qD,qE, hl]; with_reducible rfl) ?_
  (repeat first|apply V.seq|apply V.block|apply V.scope|apply V.skip|apply V.close)
  refine V.loop (fun z t m X => ∃ (k : Nat), k ≤ L.length ∧ z = L.length - k ∧ m = [] ∧ Grow H X ∧ (∀ r ∈ L.take k, p r) ∧ Full 18 t ∧ Kn [(1, y), (7, v), (8, I L.length), (9, I k)] t) L.length ?_ ?_
  · exact ⟨0, by omega, by omega, rfl, .refl _, by simp, (by intro i; simp only [full_st, hF]), (by simp only [Kn, D5,hF,hA,↓reduceIte,qD,qE, and_self, and_true, true_and]; try (repeat' constructor))⟩
  clear hF hA
  rintro z t m X ⟨k, hk, rfl, rfl, hg, hall, hF, hA⟩
  simp only [Kn, and_true] at hA
  (repeat first|apply V.seq|apply V.block|apply V.scope|apply V.skip|apply V.close)
  refine V.line' (by simp +contextual (disch := first|omega|simp only [nx];omega) only [D4,qF,qG,qA,qB,qC,D5,hF,hA,↓reduceIte,qD,qE]; with_reducible rfl) ?_
  (repeat first|apply V.seq|apply V.block|apply V.scope|apply V.skip|apply V.close)
  refine V.condP (by simp only [D6,D5,hF,hA,↓reduceIte,qD,qE]; rfl) (fun hlt => ?_) (fun hlt => ?_)
  · have hlt' : k < L.length := by omega
    obtain ⟨q, x, hp, hx⟩ := h.at rp hlt'
    obtain ⟨hx1, hx2⟩ := hx _ hg
    have hpk := hp .i64
    (repeat first|apply V.seq|apply V.block|apply V.scope|apply V.skip|apply V.close)
    refine V.line' (by simp +contextual (disch := first|omega|simp only [nx];omega) only [D4,qF,qG,qA,qB,qC,D5,hF,hA,↓reduceIte,qD,qE, hpk, hx1]; with_reducible rfl) ?_
    (repeat first|apply V.seq|apply V.block|apply V.scope|apply V.skip|apply V.close)
    refine V.run ?_
    refine VI.steps' 2 (by simp +contextual (disch := first|omega|simp only [nx];omega) only [D4,qF,qG,qA,qB,qC,D5,hF,hA,↓reduceIte,qD,qE]; with_reducible rfl) ?_
    simp only [ds]
    refine VI.callV (by simp only [D6,D5,hF,hA,↓reduceIte,qD,qE]; rfl) (by simp only [dA, List.map_cons, List.map_nil, D5,hF,hA,↓reduceIte,qD,qE]; exact hy X hg x L[k] hx2 (List.getElem_mem hlt')) (fun w X2 hw => ?_)
    obtain ⟨rfl, gy⟩ := hw
    refine VI.line' (by simp +contextual (disch := first|omega|simp only [nx];omega) only [D4,qF,qG,qA,qB,qC,D5,hF,hA,↓reduceIte,qD,qE]; with_reducible rfl) ?_
    (repeat first|apply V.seq|apply V.block|apply V.scope|apply V.skip|apply V.close)
    refine V.condP (by simp only [D6,D5,hF,hA,↓reduceIte,qD,qE]; rfl) (fun hw => ?_) (fun hw => ?_)
    · (repeat first|apply V.seq|apply V.block|apply V.scope|apply V.skip|apply V.close)
      refine V.line' (by simp +contextual (disch := first|omega|simp only [nx];omega) only [D4,qF,qG,qA,qB,qC,D5,hF,hA,↓reduceIte,qD,qE]; with_reducible rfl) ?_
      (repeat first|apply V.seq|apply V.block|apply V.scope|apply V.skip|apply V.close)
      refine V.ret (V.rets rfl (Or.inr ⟨by simp, V.rets rfl (Lv.retG (by simp +contextual (disch := first|omega|simp only [nx];omega) only [D1, cells_alloc_at, cells_alloc_ne, cells_set_at, cells_set_ne, yres, yres1, yresL, qA, qB, qC, D5,hF,hA,↓reduceIte,qD,qE]; rfl) ?_ ?_)⟩))
      · exact hg.trans gy
      · congr 1
        exact (decide_eq_false (fun hh => hw (hh _ (List.getElem_mem hlt')))).symm
    · (repeat first|apply V.seq|apply V.block|apply V.scope|apply V.skip|apply V.close)
      refine V.line' (by simp +contextual (disch := first|omega|simp only [nx];omega) only [D4,qF,qG,qA,qB,qC,D5,hF,hA,↓reduceIte,qD,qE]; with_reducible rfl) ?_
      refine V.nil (Or.inl ⟨rfl, L.length - (k + 1), by omega, ?_⟩)
      refine ⟨k + 1, by omega, rfl, rfl, hg.trans gy, ?_, (by intro i; simp only [full_st, hF]), (by simp only [Kn, D5,hF,hA,↓reduceIte,qD,qE, and_self, and_true, true_and]; try (repeat' constructor))⟩
      intro q hq
      rw [List.take_succ_eq_append_getElem hlt'] at hq
      rcases List.mem_append.1 hq with hq | hq
      · exact hall q hq
      · rw [List.mem_singleton.1 hq]; exact Decidable.not_not.1 hw
  · refine V.exit ?_
    (repeat first | refine V.pass ?_ | refine V.here ?_ | refine V.out (by decide) ?_)
    refine V.nil (Or.inr ⟨by simp, ?_⟩)
    (repeat first | refine V.pass ?_ | refine V.here ?_ | refine V.out (by decide) ?_)
    have e : L.take k = L := List.take_of_length_le (by omega)
    rw [e] at hall
    (repeat first|apply V.seq|apply V.block|apply V.scope|apply V.skip|apply V.close)
    refine V.line' (by simp +contextual (disch := first|omega|simp only [nx];omega) only [D4,qF,qG,qA,qB,qC,D5,hF,hA,↓reduceIte,qD,qE]; with_reducible rfl) ?_
    (repeat first|apply V.seq|apply V.block|apply V.scope|apply V.skip|apply V.close)
    refine V.ret (V.rets rfl (Lv.retG (by simp +contextual (disch := first|omega|simp only [nx];omega) only [D1, cells_alloc_at, cells_alloc_ne, cells_set_at, cells_set_ne, yres, yres1, yresL, qA, qB, qC, D5,hF,hA,↓reduceIte,qD,qE]; rfl) ?_ ?_))
    · exact hg
    · rw [decide_eq_true hall]
theorem f86_fv (o : R2) {X : Heap} (r : R2) : FV Try.prog (.func (.func 86) ⟨[.agg ⟨r2 o⟩]⟩ ⟨[]⟩) [.agg ⟨r2 r⟩] X (fun w X' => w = .bool (decide (wi o.1 o.2 r)) ∧ Grow X X') := FV.fn (f86_ok o r X)
theorem f102_ok {H : Heap} {c b r n x : Value} {T : Tb} {row : List R2} {i j : Nat} (h : TV H c b r n T) (hb : Bx H i [c, b, r, n] 38) (hj : Bx H j [.func (.func 86) ⟨[.agg ⟨A2 0 500⟩]⟩ ⟨[]⟩] 152) (hx : RS H x row) (hn : row.length ≤ 1048576) :
    Gives Try.prog 102 [x, .pointer (some ⟨i, 0, none⟩), .pointer (some ⟨j, 0, none⟩)] H (.bool (decide (row.length = grp T ∧ ∀ r ∈ row, wi 0 500 r))) := by
  have hl := hx.len
  refine F.entryL rfl dg102 do102 de102 rfl (by kernel_rfl) ?_
  simp only [sets]
  refine V.re [(0, x), (1, .pointer (some ⟨i, 0, none⟩)), (2, .pointer (some ⟨j, 0, none⟩))] (N := 15) (by intro i; simp only [full_st, Full.mk]) (by simp only [Kn, gt_st, full_st, Full.mk, ↓reduceIte, qD, qE, decide_true, and_self]) ?_
  intro t hF hA
  simp only [Kn, and_true] at hA
  (repeat first|apply V.seq|apply V.block|apply V.scope|apply V.skip|apply V.close)
  refine V.line' (by simp +contextual (disch := first|omega|simp only [nx];omega) only [D4,qF,qG,qA,qB,qC,D5,hF,hA,↓reduceIte,qD,qE]; with_reducible rfl) ?_
  (repeat first|apply V.seq|apply V.block|apply V.scope|apply V.skip|apply V.close)
  refine V.run ?_
  refine VI.steps' 3 (by simp +contextual (disch := first|omega|simp only [nx];omega) only [D4,qF,qG,qA,qB,qC,D5,hF,hA,↓reduceIte,qD,qE, hb.2, hl]; with_reducible rfl) ?_
  simp only [ds]
  refine VI.callA rfl (f101_ok h) (by simp only [D6,D5,hF,hA,↓reduceIte,qD,qE]; try rfl) (fun H2 g2 => ?_)
  have j2 := hj.grow g2
  refine VI.steps' 4 (by simp +contextual (disch := first|omega|simp only [nx];omega) only [D4,qF,qG,qA,qB,qC,D5,hF,hA,↓reduceIte,qD,qE, j2.2]; with_reducible rfl) ?_
  simp only [ds]
  first | refine VI.callGt (by simp only [D5,hF,hA,↓reduceIte,qD,qE]; try rfl) (fun hc => by simp only [D6,D5,hF,hA,↓reduceIte,qD,qE, hc, and_self, and_true, true_and, not_false_eq_true]; try rfl) (fun hc => f103_ok (rp.grow g2 hx) hn (p := wi 0 500) (fun X g r => f86_fv (0, 500) r)) (fun hc => by simp only [D6,D5,hF,hA,↓reduceIte,qD,qE, hc, and_self, and_true, true_and, not_false_eq_true]; try rfl) (fun H3 g3 => ?_) | refine VI.callGf (by simp only [D5,hF,hA,↓reduceIte,qD,qE]; try rfl) (fun hc => by simp only [D6,D5,hF,hA,↓reduceIte,qD,qE, hc, and_self, and_true, true_and, not_false_eq_true]; try rfl) (fun hc => f103_ok (rp.grow g2 hx) hn (p := wi 0 500) (fun X g r => f86_fv (0, 500) r)) (fun hc => by simp only [D6,D5,hF,hA,↓reduceIte,qD,qE, hc, and_self, and_true, true_and, not_false_eq_true]; try rfl) (fun H3 g3 => ?_)
  refine VI.line' (by simp +contextual (disch := first|omega|simp only [nx];omega) only [D4,qF,qG,qA,qB,qC,D5,hF,hA,↓reduceIte,qD,qE]; with_reducible rfl) ?_
  (repeat first|apply V.seq|apply V.block|apply V.scope|apply V.skip|apply V.close)
  refine V.ret (V.rets rfl (Lv.retG (by simp +contextual (disch := first|omega|simp only [nx];omega) only [D1, cells_alloc_at, cells_alloc_ne, cells_set_at, cells_set_ne, yres, yres1, yresL, qA, qB, qC, D5,hF,hA,↓reduceIte,qD,qE]; rfl) ?_ ?_))
  · exact g2.trans g3
  · congr 1
    rw [decide_eq_decide]
    exact ⟨fun hh => ⟨by omega, hh.2⟩, fun hh => ⟨by omega, hh.2⟩⟩
theorem f102_fv {H : Heap} {c b r n x : Value} {T : Tb} {row : List R2} {i j : Nat} (h : TV H c b r n T) (hb : Bx H i [c, b, r, n] 38) (hj : Bx H j [.func (.func 86) ⟨[.agg ⟨A2 0 500⟩]⟩ ⟨[]⟩] 152) (hx : RS H x row) (hn : row.length ≤ 1048576) :
    FV Try.prog (.func (.func 102) ⟨[]⟩ ⟨[.pointer (some ⟨i, 0, none⟩), .pointer (some ⟨j, 0, none⟩)]⟩) [x] H (fun w X' => w = .bool (decide (row.length = grp T ∧ ∀ r ∈ row, wi 0 500 r)) ∧ Grow H X') := FV.fn (a := []) (f102_ok h hb hj hx hn)
theorem f62_ok {H : Heap} {c b r n : Value} {T : Tb} (h : TV H c b r n T) : Gives Try.prog 62 [.agg ⟨[c, b, r, n]⟩] H (.bool (decide (fit T))) := by
  have hlc : ∀ X, ylen 0 X c = some (I T.C.length) := h.c.len
  refine F.entryL rfl dg62 do62 de62 rfl (by kernel_rfl) ?_
  simp only [sets]
  refine V.re [(0, .agg ⟨[c, b, r, n]⟩)] (N := 12) (by intro i; simp only [full_st, Full.mk]) (by simp only [Kn, gt_st, full_st, Full.mk, ↓reduceIte, qD, qE, decide_true, and_self]) ?_
  intro t hF hA
  simp only [Kn, and_true] at hA
  (repeat first|apply V.seq|apply V.block|apply V.scope|apply V.skip|apply V.close)
  refine V.line' (by simp +contextual (disch := first|omega|simp only [nx];omega) only [D4,qF,qG,qA,qB,qC,D5,hF,hA,↓reduceIte,qD,qE]; with_reducible rfl) ?_
  refine V.heap (fun X => Grow H X ∧ Bx X H.next [c, b, r, n] 38) ⟨?_, ?_⟩ ?_
  · (repeat first | assumption | exact Grow.refl _ | refine Grow.alloc ?_ _ | refine Grow.set ?_ (by first|omega|simp only [nx];omega) _)
  · (repeat first | assumption | exact Bx.new _ _ _ | exact Bx.newAt (by first|omega|simp only [nx];omega) | refine Bx.put (by first|omega|simp only [nx];omega) _ _ | refine Bx.alloc ?_ _ | refine Bx.set ?_ (by first|omega|simp only [nx];omega) _)
  rintro H1 ⟨g1, b1⟩
  (repeat first|apply V.seq|apply V.block|apply V.scope|apply V.skip|apply V.close)
  refine V.run ?_
  refine VI.steps' 6 (by simp +contextual (disch := first|omega|simp only [nx];omega) only [D4,qF,qG,qA,qB,qC,D5,hF,hA,↓reduceIte,qD,qE, b1.2, hlc]; with_reducible rfl) ?_
  simp only [ds]
  first | refine VI.callGt (by simp only [D5,hF,hA,↓reduceIte,qD,qE]; try rfl) (fun hc => by simp only [D6,D5,hF,hA,↓reduceIte,qD,qE, hc, and_self, and_true, true_and, not_false_eq_true]; try rfl) (fun hc => f101_ok (h.grow g1)) (fun hc => by simp only [D6,D5,hF,hA,↓reduceIte,qD,qE, hc, and_self, and_true, true_and, not_false_eq_true]; try rfl) (fun H2 g2 => ?_) | refine VI.callGf (by simp only [D5,hF,hA,↓reduceIte,qD,qE]; try rfl) (fun hc => by simp only [D6,D5,hF,hA,↓reduceIte,qD,qE, hc, and_self, and_true, true_and, not_false_eq_true]; try rfl) (fun hc => f101_ok (h.grow g1)) (fun hc => by simp only [D6,D5,hF,hA,↓reduceIte,qD,qE, hc, and_self, and_true, true_and, not_false_eq_true]; try rfl) (fun H2 g2 => ?_)
  refine VI.line' (by simp +contextual (disch := first|omega|simp only [nx];omega) only [D4,qF,qG,qA,qB,qC,D5,hF,hA,↓reduceIte,qD,qE]; with_reducible rfl) ?_
  (repeat first|apply V.seq|apply V.block|apply V.scope|apply V.skip|apply V.close)
  refine V.ret (V.rets rfl (Lv.retG (by simp +contextual (disch := first|omega|simp only [nx];omega) only [D1, cells_alloc_at, cells_alloc_ne, cells_set_at, cells_set_ne, yres, yres1, yresL, qA, qB, qC, D5,hF,hA,↓reduceIte,qD,qE]; rfl) ?_ ?_))
  · exact g1.trans g2
  · congr 1
    rw [decide_eq_decide]
    unfold fit
    omega
def okC (T : Tb) : Prop := ∀ row ∈ T.C, row.length = grp T ∧ ∀ r ∈ row, wi 0 500 r
def okL (a b : Int) (l : List R2) : Prop := ∀ r ∈ l, wi a b r
instance okCd (T : Tb) : Decidable (okC T) := inferInstanceAs (Decidable (∀ row ∈ T.C, row.length = grp T ∧ ∀ r ∈ row, wi 0 500 r))
instance okLd (a b : Int) (l : List R2) : Decidable (okL a b l) := inferInstanceAs (Decidable (∀ r ∈ l, wi a b r))
theorem f104_C {H : Heap} {c y : Value} {T : Tb} (h : Nest RS H c T.C) (hn : T.C.length ≤ 1048576) (hy : ∀ X, Grow H X → ∀ x row, RS X x row → row ∈ T.C → FV Try.prog y [x] X (fun w X' => w = .bool (decide (row.length = grp T ∧ ∀ r ∈ row, wi 0 500 r)) ∧ Grow X X')) : Gives Try.prog 104 [c, y] H (.bool (decide (okC T))) := f104_ok h hn hy
theorem f103_L {H : Heap} {v : Value} {L : List R2} (o : R2) (h : RS H v L) (hn : L.length ≤ 1048576) : Gives Try.prog 103 [v, .func (.func 86) ⟨[.agg ⟨r2 o⟩]⟩ ⟨[]⟩] H (.bool (decide (okL o.1 o.2 L))) := f103_ok h hn (fun _ _ r => f86_fv o r)
theorem f63_ok {H : Heap} {c b r n : Value} {T : Tb} (h : TV H c b r n T) (hs : sh T) : Gives Try.prog 63 [.agg ⟨[c, b, r, n]⟩] H (.bool (decide (val T))) := by
  obtain ⟨s1, s2, s3, s4, s5⟩ := hs
  have hlc : ∀ X, ylen 0 X c = some (I T.C.length) := h.c.len
  have hlb : ∀ X, ylen 0 X b = some (I T.B.length) := h.b.len
  have hlr : ∀ X, ylen 0 X r = some (I T.Rt.length) := h.r.len
  have hln : ∀ X, ylen 0 X n = some (I T.N.length) := h.n.len
  have hgl : grp T ≤ 1048576 := by
    unfold grp
    cases hC : T.C with
    | nil => simp
    | cons z l => exact s2 z (by rw [hC]; simp)
  refine F.entryL rfl dg63 do63 de63 rfl (by kernel_rfl) ?_
  simp only [sets]
  refine V.re [(0, .agg ⟨[c, b, r, n]⟩)] (N := 68) (by intro i; simp only [full_st, Full.mk]) (by simp only [Kn, gt_st, full_st, Full.mk, ↓reduceIte, qD, qE, decide_true, and_self]) ?_
  intro t hF hA
  simp only [Kn, and_true] at hA
  (repeat first|apply V.seq|apply V.block|apply V.scope|apply V.skip|apply V.close)
  refine V.line' (by simp +contextual (disch := first|omega|simp only [nx];omega) only [D4,qF,qG,qA,qB,qC,D5,hF,hA,↓reduceIte,qD,qE]; with_reducible rfl) ?_
  refine V.heap (fun X => Grow H X ∧ Bx X H.next [c, b, r, n] 38) ⟨?_, ?_⟩ ?_
  · (repeat first | assumption | exact Grow.refl _ | refine Grow.alloc ?_ _ | refine Grow.set ?_ (by first|omega|simp only [nx];omega) _)
  · (repeat first | assumption | exact Bx.new _ _ _ | exact Bx.newAt (by first|omega|simp only [nx];omega) | refine Bx.put (by first|omega|simp only [nx];omega) _ _ | refine Bx.alloc ?_ _ | refine Bx.set ?_ (by first|omega|simp only [nx];omega) _)
  rintro H1 ⟨g1, b1⟩
  (repeat first|apply V.seq|apply V.block|apply V.scope|apply V.skip|apply V.close)
  refine V.run ?_
  refine VI.callA rfl (f85_ok H1) (by simp only [D6,D5,hF,hA,↓reduceIte,qD,qE]; try rfl) (fun H2 g2 => ?_)
  have b2 := b1.grow g2
  refine VI.line' (by simp +contextual (disch := first|omega|simp only [nx];omega) only [D4,qF,qG,qA,qB,qC,D5,hF,hA,↓reduceIte,qD,qE]; with_reducible rfl) ?_
  refine V.heap (fun X => Grow H2 X ∧ Bx X H2.next [.func (.func 86) ⟨[.agg ⟨A2 0 500⟩]⟩ ⟨[]⟩] 152) ⟨?_, ?_⟩ ?_
  · (repeat first | assumption | exact Grow.refl _ | refine Grow.alloc ?_ _ | refine Grow.set ?_ (by first|omega|simp only [nx];omega) _)
  · (repeat first | assumption | exact Bx.new _ _ _ | exact Bx.newAt (by first|omega|simp only [nx];omega) | refine Bx.put (by first|omega|simp only [nx];omega) _ _ | refine Bx.alloc ?_ _ | refine Bx.set ?_ (by first|omega|simp only [nx];omega) _)
  rintro H3 ⟨g3, d3⟩
  have b3 := b2.grow g3
  have h3 := h.grow ((g1.trans g2).trans g3)
  (repeat first|apply V.seq|apply V.block|apply V.scope|apply V.skip|apply V.close)
  refine V.line' (by simp +contextual (disch := first|omega|simp only [nx];omega) only [D4,qF,qG,qA,qB,qC,D5,hF,hA,↓reduceIte,qD,qE]; with_reducible rfl) ?_
  (repeat first|apply V.seq|apply V.block|apply V.scope|apply V.skip|apply V.close)
  refine V.draw ?_
  refine VD.dins 1 (by simp +contextual (disch := first|omega|simp only [nx];omega) only [D4,qF,qG,qA,qB,qC,D5,hF,hA,↓reduceIte,qD,qE, b3.2]; with_reducible rfl) ?_
  simp only [ds]
  refine VD.callA (by simp only [D6,D5,hF,hA,↓reduceIte,qD,qE]; try rfl) (f101_ok h3) (by simp only [D6,D5,hF,hA,↓reduceIte,qD,qE]; try rfl) (fun H4 g4 => ?_)
  have b4 := b3.grow g4
  have d4 := d3.grow g4
  have h4 := h3.grow g4
  refine VD.dins 5 (by simp +contextual (disch := first|omega|simp only [nx];omega) only [D4,qF,qG,qA,qB,qC,D5,hF,hA,↓reduceIte,qD,qE, b4.2]; with_reducible rfl) ?_
  simp only [ds]
  first | refine VD.callGt (by simp only [D5,hF,hA,↓reduceIte,qD,qE]; try rfl) (fun hc => by simp only [D6,D5,hF,hA,↓reduceIte,qD,qE, hc, and_self, and_true, true_and, not_false_eq_true]; try rfl) (fun hc => f104_C h4.c s1 (fun X g x row hx hm => f102_fv (h4.grow g) (b4.grow g) (d4.grow g) hx (s2 row hm))) (fun hc => by simp only [D6,D5,hF,hA,↓reduceIte,qD,qE, hc, and_self, and_true, true_and, not_false_eq_true]; try rfl) (fun H5 g5 => ?_) | refine VD.callGf (by simp only [D5,hF,hA,↓reduceIte,qD,qE]; try rfl) (fun hc => by simp only [D6,D5,hF,hA,↓reduceIte,qD,qE, hc, and_self, and_true, true_and, not_false_eq_true]; try rfl) (fun hc => f104_C h4.c s1 (fun X g x row hx hm => f102_fv (h4.grow g) (b4.grow g) (d4.grow g) hx (s2 row hm))) (fun hc => by simp only [D6,D5,hF,hA,↓reduceIte,qD,qE, hc, and_self, and_true, true_and, not_false_eq_true]; try rfl) (fun H5 g5 => ?_)
  have b5 := b4.grow g5
  have d5 := d4.grow g5
  have h5 := h4.grow g5
  refine VD.dins 9 (by simp +contextual (disch := first|omega|simp only [nx];omega) only [D4,qF,qG,qA,qB,qC,D5,hF,hA,↓reduceIte,qD,qE, b5.2, d5.2, hlb, hlc]; with_reducible rfl) ?_
  simp only [ds]
  refine VD.dins 6 (by simp +contextual (disch := first|omega|simp only [nx];omega) only [D4,qF,qG,qA,qB,qC,D5,hF,hA,↓reduceIte,qD,qE, b5.2, d5.2, hlb, hlc]; with_reducible rfl) ?_
  simp only [ds]
  first | refine VD.callGt (by simp only [D5,hF,hA,↓reduceIte,qD,qE]; try rfl) (fun hc => by simp only [D6,D5,hF,hA,↓reduceIte,qD,qE, hc, and_self, and_true, true_and, not_false_eq_true]; try rfl) (fun hc => f103_L (0, 500) h5.b s3) (fun hc => by simp only [D6,D5,hF,hA,↓reduceIte,qD,qE, hc, and_self, and_true, true_and, not_false_eq_true]; try rfl) (fun H6 g6 => ?_) | refine VD.callGf (by simp only [D5,hF,hA,↓reduceIte,qD,qE]; try rfl) (fun hc => by simp only [D6,D5,hF,hA,↓reduceIte,qD,qE, hc, and_self, and_true, true_and, not_false_eq_true]; try rfl) (fun hc => f103_L (0, 500) h5.b s3) (fun hc => by simp only [D6,D5,hF,hA,↓reduceIte,qD,qE, hc, and_self, and_true, true_and, not_false_eq_true]; try rfl) (fun H6 g6 => ?_)
  have b6 := b5.grow g6
  have h6 := h5.grow g6
  refine VD.dins 6 (by simp +contextual (disch := first|omega|simp only [nx];omega) only [D4,qF,qG,qA,qB,qC,D5,hF,hA,↓reduceIte,qD,qE, b6.2, hlr]; with_reducible rfl) ?_
  simp only [ds]
  first | refine VD.callGt (by simp only [D5,hF,hA,↓reduceIte,qD,qE]; try rfl) (fun hc => by simp only [D6,D5,hF,hA,↓reduceIte,qD,qE, hc, and_self, and_true, true_and, not_false_eq_true]; try rfl) (fun hc => f101_ok h6) (fun hc => by simp only [D6,D5,hF,hA,↓reduceIte,qD,qE, hc, and_self, and_true, true_and, not_false_eq_true]; try rfl) (fun H7 g7 => ?_) | refine VD.callGf (by simp only [D5,hF,hA,↓reduceIte,qD,qE]; try rfl) (fun hc => by simp only [D6,D5,hF,hA,↓reduceIte,qD,qE, hc, and_self, and_true, true_and, not_false_eq_true]; try rfl) (fun hc => f101_ok h6) (fun hc => by simp only [D6,D5,hF,hA,↓reduceIte,qD,qE, hc, and_self, and_true, true_and, not_false_eq_true]; try rfl) (fun H7 g7 => ?_)
  have b7 := b6.grow g7
  have h7 := h6.grow g7
  refine VD.dins 7 (by simp +contextual (disch := first|omega|simp only [nx];omega) only [D4,qF,qG,qA,qB,qC,D5,hF,hA,↓reduceIte,qD,qE, b7.2]; with_reducible rfl) ?_
  simp only [ds]
  first | refine VD.callGt (by simp only [D5,hF,hA,↓reduceIte,qD,qE]; try rfl) (fun hc => by simp only [D6,D5,hF,hA,↓reduceIte,qD,qE, hc, and_self, and_true, true_and, not_false_eq_true]; try rfl) (fun hc => f103_L (0, 1000) h7.r s4) (fun hc => by simp only [D6,D5,hF,hA,↓reduceIte,qD,qE, hc, and_self, and_true, true_and, not_false_eq_true]; try rfl) (fun H8 g8 => ?_) | refine VD.callGf (by simp only [D5,hF,hA,↓reduceIte,qD,qE]; try rfl) (fun hc => by simp only [D6,D5,hF,hA,↓reduceIte,qD,qE, hc, and_self, and_true, true_and, not_false_eq_true]; try rfl) (fun hc => f103_L (0, 1000) h7.r s4) (fun hc => by simp only [D6,D5,hF,hA,↓reduceIte,qD,qE, hc, and_self, and_true, true_and, not_false_eq_true]; try rfl) (fun H8 g8 => ?_)
  have b8 := b7.grow g8
  have h8 := h7.grow g8
  refine VD.dins 6 (by simp +contextual (disch := first|omega|simp only [nx];omega) only [D4,qF,qG,qA,qB,qC,D5,hF,hA,↓reduceIte,qD,qE, b8.2, hln]; with_reducible rfl) ?_
  simp only [ds]
  first | refine VD.callGt (by simp only [D5,hF,hA,↓reduceIte,qD,qE]; try rfl) (fun hc => by simp only [D6,D5,hF,hA,↓reduceIte,qD,qE, hc, and_self, and_true, true_and, not_false_eq_true]; try rfl) (fun hc => f101_ok h8) (fun hc => by simp only [D6,D5,hF,hA,↓reduceIte,qD,qE, hc, and_self, and_true, true_and, not_false_eq_true]; try rfl) (fun H9 g9 => ?_) | refine VD.callGf (by simp only [D5,hF,hA,↓reduceIte,qD,qE]; try rfl) (fun hc => by simp only [D6,D5,hF,hA,↓reduceIte,qD,qE, hc, and_self, and_true, true_and, not_false_eq_true]; try rfl) (fun hc => f101_ok h8) (fun hc => by simp only [D6,D5,hF,hA,↓reduceIte,qD,qE, hc, and_self, and_true, true_and, not_false_eq_true]; try rfl) (fun H9 g9 => ?_)
  have b9 := b8.grow g9
  have h9 := h8.grow g9
  refine VD.dins 6 (by simp +contextual (disch := first|omega|simp only [nx];omega) only [D4,qF,qG,qA,qB,qC,D5,hF,hA,↓reduceIte,qD,qE, b9.2]; with_reducible rfl) ?_
  simp only [ds]
  first | refine VD.callGt (by simp only [D5,hF,hA,↓reduceIte,qD,qE]; try rfl) (fun hc => by simp only [D6,D5,hF,hA,↓reduceIte,qD,qE, hc, and_self, and_true, true_and, not_false_eq_true]; try rfl) (fun hc => f103_L (-50, 50) h9.n s5) (fun hc => by simp only [D6,D5,hF,hA,↓reduceIte,qD,qE, hc, and_self, and_true, true_and, not_false_eq_true]; try rfl) (fun Ha ga => ?_) | refine VD.callGf (by simp only [D5,hF,hA,↓reduceIte,qD,qE]; try rfl) (fun hc => by simp only [D6,D5,hF,hA,↓reduceIte,qD,qE, hc, and_self, and_true, true_and, not_false_eq_true]; try rfl) (fun hc => f103_L (-50, 50) h9.n s5) (fun hc => by simp only [D6,D5,hF,hA,↓reduceIte,qD,qE, hc, and_self, and_true, true_and, not_false_eq_true]; try rfl) (fun Ha ga => ?_)
  refine VD.lineD' (by simp +contextual (disch := first|omega|simp only [nx];omega) only [D4,qF,qG,qA,qB,qC,D5,hF,hA,↓reduceIte,qD,qE]; with_reducible rfl) ?_ ?_ rfl ?_
  · have m4 := g4.1
    have m5 := g5.1
    have m6 := g6.1
    have m7 := g7.1
    have m8 := g8.1
    have m9 := g9.1
    have ma := ga.1
    simp only [monoG, List.cons_append, List.nil_append, Heap.next_set, Heap.next_alloc, Nat.le_refl, true_and, and_true] <;> omega
  · simp only [dcAll, dcOk, wantD, List.cons_append, List.nil_append, true_and, and_true]
    have v1 := (sl1 h.r.isS).2.2.1
    have v2 := (sl1 h.n.isS).2.2.1
    exact ⟨fun hw q hq => by simp only [wantD, D5,hF,hA,↓reduceIte,qD,qE, beq_iff_eq, decide_eq_false_iff_not, decide_eq_true_eq] at hw; simp only [List.mem_cons, List.not_mem_nil, or_false] at hq; (repeat (rcases hq with rfl | hq; exact ⟨_, _, _, rfl, (by simp +contextual (disch := first|omega|simp only [nx];omega) only [D4,qF,qG,qA,qB,qC,D5,hF,hA,↓reduceIte,qD,qE, if_true, not_false_eq_true, not_true_eq_false, hw, b6.2, b7.2]; with_reducible rfl), fun p hp => by cases hp; simp only [D5,hF,hA,↓reduceIte,qD,qE, hw, if_true, not_false_eq_true]; first | exact vEq_An | (simp [vEq, vEq0, all2]; done) | assumption⟩)); (try (subst hq; exact ⟨_, _, _, rfl, (by simp +contextual (disch := first|omega|simp only [nx];omega) only [D4,qF,qG,qA,qB,qC,D5,hF,hA,↓reduceIte,qD,qE, if_true, not_false_eq_true, not_true_eq_false, hw, b6.2, b7.2]; with_reducible rfl), fun p hp => by cases hp; simp only [D5,hF,hA,↓reduceIte,qD,qE, hw, if_true, not_false_eq_true]; first | exact vEq_An | (simp [vEq, vEq0, all2]; done) | assumption⟩)), fun hw q hq => by simp only [wantD, D5,hF,hA,↓reduceIte,qD,qE, beq_iff_eq, decide_eq_false_iff_not, decide_eq_true_eq] at hw; simp only [List.mem_cons, List.not_mem_nil, or_false] at hq; (repeat (rcases hq with rfl | hq; exact ⟨_, _, _, rfl, (by simp +contextual (disch := first|omega|simp only [nx];omega) only [D4,qF,qG,qA,qB,qC,D5,hF,hA,↓reduceIte,qD,qE, if_true, not_false_eq_true, not_true_eq_false, hw, hlr]; with_reducible rfl), fun p hp => by cases hp; simp only [D5,hF,hA,↓reduceIte,qD,qE, hw, if_true, not_false_eq_true]; first | exact vEq_An | (simp [vEq, vEq0, all2]; done) | assumption⟩)); (try (subst hq; exact ⟨_, _, _, rfl, (by simp +contextual (disch := first|omega|simp only [nx];omega) only [D4,qF,qG,qA,qB,qC,D5,hF,hA,↓reduceIte,qD,qE, if_true, not_false_eq_true, not_true_eq_false, hw, hlr]; with_reducible rfl), fun p hp => by cases hp; simp only [D5,hF,hA,↓reduceIte,qD,qE, hw, if_true, not_false_eq_true]; first | exact vEq_An | (simp [vEq, vEq0, all2]; done) | assumption⟩)), fun hw q hq => by simp only [wantD, D5,hF,hA,↓reduceIte,qD,qE, beq_iff_eq, decide_eq_false_iff_not, decide_eq_true_eq] at hw; simp only [List.mem_cons, List.not_mem_nil, or_false] at hq; (repeat (rcases hq with rfl | hq; exact ⟨_, _, _, rfl, (by simp +contextual (disch := first|omega|simp only [nx];omega) only [D4,qF,qG,qA,qB,qC,D5,hF,hA,↓reduceIte,qD,qE, if_true, not_false_eq_true, not_true_eq_false, hw, b8.2, b9.2]; with_reducible rfl), fun p hp => by cases hp; simp only [D5,hF,hA,↓reduceIte,qD,qE, hw, if_true, not_false_eq_true]; first | exact vEq_An | (simp [vEq, vEq0, all2]; done) | assumption⟩)); (try (subst hq; exact ⟨_, _, _, rfl, (by simp +contextual (disch := first|omega|simp only [nx];omega) only [D4,qF,qG,qA,qB,qC,D5,hF,hA,↓reduceIte,qD,qE, if_true, not_false_eq_true, not_true_eq_false, hw, b8.2, b9.2]; with_reducible rfl), fun p hp => by cases hp; simp only [D5,hF,hA,↓reduceIte,qD,qE, hw, if_true, not_false_eq_true]; first | exact vEq_An | (simp [vEq, vEq0, all2]; done) | assumption⟩)), fun hw q hq => by simp only [wantD, D5,hF,hA,↓reduceIte,qD,qE, beq_iff_eq, decide_eq_false_iff_not, decide_eq_true_eq] at hw; simp only [List.mem_cons, List.not_mem_nil, or_false] at hq; (repeat (rcases hq with rfl | hq; exact ⟨_, _, _, rfl, (by simp +contextual (disch := first|omega|simp only [nx];omega) only [D4,qF,qG,qA,qB,qC,D5,hF,hA,↓reduceIte,qD,qE, if_true, not_false_eq_true, not_true_eq_false, hw, hln]; with_reducible rfl), fun p hp => by cases hp; simp only [D5,hF,hA,↓reduceIte,qD,qE, hw, if_true, not_false_eq_true]; first | exact vEq_An | (simp [vEq, vEq0, all2]; done) | assumption⟩)); (try (subst hq; exact ⟨_, _, _, rfl, (by simp +contextual (disch := first|omega|simp only [nx];omega) only [D4,qF,qG,qA,qB,qC,D5,hF,hA,↓reduceIte,qD,qE, if_true, not_false_eq_true, not_true_eq_false, hw, hln]; with_reducible rfl), fun p hp => by cases hp; simp only [D5,hF,hA,↓reduceIte,qD,qE, hw, if_true, not_false_eq_true]; first | exact vEq_An | (simp [vEq, vEq0, all2]; done) | assumption⟩))⟩
  (repeat first|apply V.seq|apply V.block|apply V.scope|apply V.skip|apply V.close)
  refine V.ret (V.rets rfl (Lv.retG (by simp +contextual (disch := first|omega|simp only [nx];omega) only [D1, cells_alloc_at, cells_alloc_ne, cells_set_at, cells_set_ne, yres, yres1, yresL, qA, qB, qC, D5,hF,hA,↓reduceIte,qD,qE]; rfl) ?_ ?_))
  · exact ((((((((g1.trans g2).trans g3).trans g4).trans g5).trans g6).trans g7).trans g8).trans g9).trans ga
  · congr 1
    rw [decide_eq_decide]
    unfold val
    constructor
    · intro hh
      have q0 := s1
      exact ⟨by omega, by omega, by omega, by omega, hh.1.1.1.1.1.1.2, hh.1.1.1.1.2, hh.1.1.2, hh.2⟩
    · rintro ⟨q1, q2, q3, q4, q5, q6, q7, q8⟩
      exact ⟨⟨⟨⟨⟨⟨⟨by omega, q5⟩, by omega⟩, q6⟩, by omega⟩, q7⟩, by omega⟩, q8⟩
theorem f21_ok {H : Heap} {c b r n : Value} {T : Tb} (h : TV H c b r n T) (hs : sh T) : Gives Try.prog 21 [.agg ⟨[c, b, r, n]⟩] H (I (flt T)) := by
  refine F.entryL rfl dg21 do21 de21 rfl (by kernel_rfl) ?_
  simp only [sets]
  refine V.re [(0, .agg ⟨[c, b, r, n]⟩)] (N := 11) (by intro i; simp only [full_st, Full.mk]) (by simp only [Kn, gt_st, full_st, Full.mk, ↓reduceIte, qD, qE, decide_true, and_self]) ?_
  intro t hF hA
  simp only [Kn, and_true] at hA
  (repeat first|apply V.seq|apply V.block|apply V.scope|apply V.skip|apply V.close)
  refine V.line' (by simp +contextual (disch := first|omega|simp only [nx];omega) only [D4,qF,qG,qA,qB,qC,D5,hF,hA,↓reduceIte,qD,qE]; with_reducible rfl) ?_
  refine V.heap (fun X => Grow H X ∧ Bx X H.next [c, b, r, n] 38) ⟨?_, ?_⟩ ?_
  · (repeat first | assumption | exact Grow.refl _ | refine Grow.alloc ?_ _ | refine Grow.set ?_ (by first|omega|simp only [nx];omega) _)
  · (repeat first | assumption | exact Bx.new _ _ _ | exact Bx.newAt (by first|omega|simp only [nx];omega) | refine Bx.put (by first|omega|simp only [nx];omega) _ _ | refine Bx.alloc ?_ _ | refine Bx.set ?_ (by first|omega|simp only [nx];omega) _)
  rintro H1 ⟨g1, b1⟩
  (repeat first|apply V.seq|apply V.block|apply V.scope|apply V.skip|apply V.close)
  refine V.run ?_
  refine VI.steps' 1 (by simp +contextual (disch := first|omega|simp only [nx];omega) only [D4,qF,qG,qA,qB,qC,D5,hF,hA,↓reduceIte,qD,qE, b1.2]; with_reducible rfl) ?_
  simp only [ds]
  refine VI.callA rfl (f62_ok (h.grow g1)) (by simp only [D6,D5,hF,hA,↓reduceIte,qD,qE]; try rfl) (fun H2 g2 => ?_)
  have b2 := b1.grow g2
  refine VI.line' (by simp +contextual (disch := first|omega|simp only [nx];omega) only [D4,qF,qG,qA,qB,qC,D5,hF,hA,↓reduceIte,qD,qE]; with_reducible rfl) ?_
  (repeat first|apply V.seq|apply V.block|apply V.scope|apply V.skip|apply V.close)
  refine V.condP (by simp only [D6,D5,hF,hA,↓reduceIte,qD,qE]; rfl) (fun hf => ?_) (fun hf => ?_)
  · (repeat first|apply V.seq|apply V.block|apply V.scope|apply V.skip|apply V.close)
    refine V.line' (by simp +contextual (disch := first|omega|simp only [nx];omega) only [D4,qF,qG,qA,qB,qC,D5,hF,hA,↓reduceIte,qD,qE]; with_reducible rfl) ?_
    (repeat first|apply V.seq|apply V.block|apply V.scope|apply V.skip|apply V.close)
    refine V.ret (V.rets rfl (Lv.retG (by simp +contextual (disch := first|omega|simp only [nx];omega) only [D1, cells_alloc_at, cells_alloc_ne, cells_set_at, cells_set_ne, yres, yres1, yresL, qA, qB, qC, D5,hF,hA,↓reduceIte,qD,qE]; rfl) ?_ ?_))
    · exact g1.trans g2
    · rw [flt, if_pos hf]
  · (repeat first|apply V.seq|apply V.block|apply V.scope|apply V.skip|apply V.close)
    refine V.run ?_
    refine VI.steps' 1 (by simp +contextual (disch := first|omega|simp only [nx];omega) only [D4,qF,qG,qA,qB,qC,D5,hF,hA,↓reduceIte,qD,qE, b2.2]; with_reducible rfl) ?_
    simp only [ds]
    refine VI.callA rfl (f63_ok (h.grow (g1.trans g2)) hs) (by simp only [D6,D5,hF,hA,↓reduceIte,qD,qE]; try rfl) (fun H3 g3 => ?_)
    refine VI.line' (by simp +contextual (disch := first|omega|simp only [nx];omega) only [D4,qF,qG,qA,qB,qC,D5,hF,hA,↓reduceIte,qD,qE]; with_reducible rfl) ?_
    (repeat first|apply V.seq|apply V.block|apply V.scope|apply V.skip|apply V.close)
    refine V.condP (by simp only [D6,D5,hF,hA,↓reduceIte,qD,qE]; rfl) (fun hv => ?_) (fun hv => ?_)
    · (repeat first|apply V.seq|apply V.block|apply V.scope|apply V.skip|apply V.close)
      refine V.line' (by simp +contextual (disch := first|omega|simp only [nx];omega) only [D4,qF,qG,qA,qB,qC,D5,hF,hA,↓reduceIte,qD,qE]; with_reducible rfl) ?_
      (repeat first|apply V.seq|apply V.block|apply V.scope|apply V.skip|apply V.close)
      refine V.ret (V.rets rfl (Lv.retG (by simp +contextual (disch := first|omega|simp only [nx];omega) only [D1, cells_alloc_at, cells_alloc_ne, cells_set_at, cells_set_ne, yres, yres1, yresL, qA, qB, qC, D5,hF,hA,↓reduceIte,qD,qE]; rfl) ?_ ?_))
      · exact (g1.trans g2).trans g3
      · rw [flt, if_neg hf, if_pos hv]
    · (repeat first|apply V.seq|apply V.block|apply V.scope|apply V.skip|apply V.close)
      refine V.line' (by simp +contextual (disch := first|omega|simp only [nx];omega) only [D4,qF,qG,qA,qB,qC,D5,hF,hA,↓reduceIte,qD,qE]; with_reducible rfl) ?_
      (repeat first|apply V.seq|apply V.block|apply V.scope|apply V.skip|apply V.close)
      refine V.ret (V.rets rfl (Lv.retG (by simp +contextual (disch := first|omega|simp only [nx];omega) only [D1, cells_alloc_at, cells_alloc_ne, cells_set_at, cells_set_ne, yres, yres1, yresL, qA, qB, qC, D5,hF,hA,↓reduceIte,qD,qE]; rfl) ?_ ?_))
      · exact (g1.trans g2).trans g3
      · rw [flt, if_neg hf, if_neg hv]
end Go.Xe.TFX
