/- What the functions of the layer flow come to: whether a truth is one of a table; lists that are copied. Conditions: none. -/
import Derived.Test.YtcgnigeddgeffaaTGA
-- MOD TF
namespace Go.Xe.TFX
open Go Go.Xe Go.Proofs
open Nat renaming reduceLeDiff → qA, reduceSub → qB, reduceAdd → qC, reduceEqDiff → qD, reduceLT → qE
open Int renaming reduceNegSucc → qF, reduceEq → qG
open Go.Xe.Flw
set_option maxRecDepth 100000
set_option maxHeartbeats 3200000
set_option linter.unusedSimpArgs false
noncomputable def d65 : FCode := (.seq (.run (.go (.box 38 (.tmp (pth 0))) (pth 2)::
.go (.box 42 (.tmp (pth 1))) (pth 3)::
.go (.move (.con (.bool false))) (pth 4)::
[])) (.seq (.run (.go (.makeFunc 105 [] [(.tmp (pth 2))]) (pth 7)::
.go (.move (.tmp (pth 7))) (pth 5)::
[])) (.seq (.run (.go (.makeFunc 106 [] [(.tmp (pth 2))]) (pth 8)::
.go (.move (.tmp (pth 8))) (pth 6)::
[])) (.seq (.draw 51 (.go (.fieldAddr 0 (.tmp (pth 3))) (pth 9)::
.go (.load1 (.tmp (pth 9))) (pth 10)::
.go (.len 0 (.tmp (pth 10))) (pth 11)::
.go (.loadN 4 (.tmp (pth 2))) (pth 12)::
.go (.call (.con (.func (.func 101) ⟨[]⟩ ⟨[]⟩)) [(.tmp (pth 12))]) (pth 13)::
.go (.bin .eql 3 (.tmp (pth 11)) (.tmp (pth 13))) (pth 14)::
.go (.move (.tmp (pth 14))) (pth 15)::
.gd (pth 15) true (.fieldAddr 0 (.tmp (pth 3))) (pth 16)::
.gd (pth 15) true (.load1 (.tmp (pth 16))) (pth 17)::
.gd (pth 15) true (.call (.con (.func (.func 85) ⟨[]⟩ ⟨[]⟩)) []) (pth 18)::
.gd (pth 15) true (.makeFunc 109 [(.tmp (pth 18))] []) (pth 19)::
.gd (pth 15) true (.call (.con (.func (.func 108) ⟨[]⟩ ⟨[]⟩)) [(.tmp (pth 17)),(.tmp (pth 19))]) (pth 20)::
.go (.pick (.tmp (pth 15)) (.tmp (pth 20)) (.con (.bool false))) (pth 21)::
.go (.move (.tmp (pth 21))) (pth 22)::
.gd (pth 22) true (.fieldAddr 1 (.tmp (pth 2))) (pth 23)::
.gd (pth 22) true (.load1 (.tmp (pth 23))) (pth 24)::
.gd (pth 22) true (.fieldAddr 1 (.tmp (pth 3))) (pth 25)::
.gd (pth 22) true (.load1 (.tmp (pth 25))) (pth 26)::
.gd (pth 22) true (.call (.con (.func (.func 107) ⟨[]⟩ ⟨[]⟩)) [(.tmp (pth 24)),(.tmp (pth 26))]) (pth 27)::
.go (.pick (.tmp (pth 22)) (.tmp (pth 27)) (.con (.bool false))) (pth 28)::
.go (.move (.tmp (pth 28))) (pth 29)::
.gd (pth 29) true (.fieldAddr 2 (.tmp (pth 3))) (pth 30)::
.gd (pth 29) true (.load1 (.tmp (pth 30))) (pth 31)::
.gd (pth 29) true (.len 0 (.tmp (pth 31))) (pth 32)::
.gd (pth 29) true (.fieldAddr 1 (.tmp (pth 2))) (pth 33)::
.gd (pth 29) true (.load1 (.tmp (pth 33))) (pth 34)::
.gd (pth 29) true (.len 0 (.tmp (pth 34))) (pth 35)::
.gd (pth 29) true (.bin .eql 3 (.tmp (pth 32)) (.tmp (pth 35))) (pth 36)::
.go (.pick (.tmp (pth 29)) (.tmp (pth 36)) (.con (.bool false))) (pth 37)::
.go (.move (.tmp (pth 37))) (pth 38)::
.gd (pth 38) true (.fieldAddr 2 (.tmp (pth 3))) (pth 39)::
.gd (pth 38) true (.load1 (.tmp (pth 39))) (pth 40)::
.gd (pth 38) true (.move (.tmp (pth 5))) (pth 41)::
.gd (pth 38) true (.call (.con (.func (.func 110) ⟨[]⟩ ⟨[]⟩)) [(.tmp (pth 40)),(.tmp (pth 41))]) (pth 42)::
.go (.pick (.tmp (pth 38)) (.tmp (pth 42)) (.con (.bool false))) (pth 43)::
.go (.move (.tmp (pth 43))) (pth 44)::
.gd (pth 44) true (.fieldAddr 3 (.tmp (pth 3))) (pth 45)::
.gd (pth 44) true (.load1 (.tmp (pth 45))) (pth 46)::
.gd (pth 44) true (.len 0 (.tmp (pth 46))) (pth 47)::
.gd (pth 44) true (.fieldAddr 1 (.tmp (pth 2))) (pth 48)::
.gd (pth 44) true (.load1 (.tmp (pth 48))) (pth 49)::
.gd (pth 44) true (.len 0 (.tmp (pth 49))) (pth 50)::
.gd (pth 44) true (.bin .eql 3 (.tmp (pth 47)) (.tmp (pth 50))) (pth 51)::
.go (.pick (.tmp (pth 44)) (.tmp (pth 51)) (.con (.bool false))) (pth 52)::
.go (.move (.tmp (pth 52))) (pth 53)::
.gd (pth 53) true (.fieldAddr 3 (.tmp (pth 3))) (pth 54)::
.gd (pth 53) true (.load1 (.tmp (pth 54))) (pth 55)::
.gd (pth 53) true (.move (.tmp (pth 6))) (pth 56)::
.gd (pth 53) true (.call (.con (.func (.func 110) ⟨[]⟩ ⟨[]⟩)) [(.tmp (pth 55)),(.tmp (pth 56))]) (pth 57)::
.go (.pick (.tmp (pth 53)) (.tmp (pth 57)) (.con (.bool false))) (pth 58)::
.go (.move (.tmp (pth 58))) (pth 4)::
[]) [.ok,.rd none (.load1 (.tmp (pth 9))) (some (pth 10)) [5],.rd none (.len 0 (.tmp (pth 10))) (some (pth 11)) [5],.ok,.ok,.ok,.ok,.ok,.rd (some ((pth 15),true)) (.load1 (.tmp (pth 16))) (some (pth 17)) [10],.ok,.ok,.ok,.ok,.ok,.ok,.ok,.ok,.ok,.ok,.ok,.ok,.ok,.ok,.ok,.ok,.ok,.ok,.ok,.ok,.ok,.ok,.ok,.ok,.ok,.ok,.ok,.ok,.ok,.ok,.ok,.ok,.ok,.ok,.ok,.ok,.ok,.ok,.ok,.ok,.ok,.ok]) .ret))))
theorem de65 : @compF Try.prog (Gl.none Try.prog) Try.f65 2 = .mk d65 (mkTT 59) [(pth 0),(pth 1)] [.tmp (pth 4)] := by kernel_rfl
theorem dg65 : Try.prog.funcs[65]? = some Try.f65 := Try.func65
theorem do65 : okF Try.prog Try.f65 = true := by kernel_rfl
noncomputable def d67 : FCode := (.seq (.run (.go (.move (.con (.slice none 0 0))) (pth 2)::
[])) (.seq (.run (.go (.move (.tmp (pth 0))) (pth 3)::
.go (.append 3 1 8 (.con (.slice none 0 0)) (.tmp (pth 3))) (pth 4)::
.go (.move (.tmp (pth 4))) (pth 2)::
[])) .ret))
theorem de67 : @compF Try.prog (Gl.none Try.prog) Try.f67 1 = .mk d67 (mkTT 5) [(pth 0)] [.tmp (pth 2)] := by kernel_rfl
theorem dg67 : Try.prog.funcs[67]? = some Try.f67 := Try.func67
theorem do67 : okF Try.prog Try.f67 = true := by kernel_rfl
noncomputable def d68 : FCode := (.seq (.run (.go (.move (.con (.slice none 0 0))) (pth 2)::
[])) (.seq (.run (.go (.move (.con (.slice none 0 0))) (pth 3)::
[])) (.seq (.seq (.run (.go (.move (.con (.int .i64 (.ofNat 0)))) (pth 4)::
[])) (.block 0 (.loop (.seq (.seq (.run (.go (.move (.tmp (pth 4))) (pth 5)::
.go (.move (.tmp (pth 0))) (pth 6)::
.go (.len 0 (.tmp (pth 6))) (pth 7)::
.go (.bin .lss 3 (.tmp (pth 5)) (.tmp (pth 7))) (pth 8)::
[])) (.cond (.tmp (pth 8)) .skip (.exit 0))) (.seq (.block 1 (.run (.go (.move (.tmp (pth 3))) (pth 11)::
.go (.move (.tmp (pth 0))) (pth 12)::
.go (.move (.tmp (pth 4))) (pth 13)::
.go (.indexAddr none 1 (.tmp (pth 12)) (.tmp (pth 13))) (pth 14)::
.go (.load1 (.tmp (pth 14))) (pth 15)::
.go (.call (.con (.func (.func 67) ⟨[]⟩ ⟨[]⟩)) [(.tmp (pth 15))]) (pth 16)::
.go (.buildSlice 26 1 [(.slice none 0 0)] [(0,1,(.tmp (pth 16)))]) (pth 17)::
.go (.append 26 1 24 (.tmp (pth 11)) (.tmp (pth 17))) (pth 18)::
.go (.move (.tmp (pth 18))) (pth 3)::
[]))) (.run (.go (.move (.tmp (pth 4))) (pth 9)::
.go (.bin .add 3 (.tmp (pth 9)) (.con (.int .i64 (.ofNat 1)))) (pth 10)::
.go (.move (.tmp (pth 10))) (pth 4)::
[]))))))) (.seq (.run (.go (.move (.tmp (pth 3))) (pth 19)::
.go (.move (.tmp (pth 19))) (pth 2)::
[])) .ret))))
theorem de68 : @compF Try.prog (Gl.none Try.prog) Try.f68 1 = .mk d68 (mkTT 20) [(pth 0)] [.tmp (pth 2)] := by kernel_rfl
theorem dg68 : Try.prog.funcs[68]? = some Try.f68 := Try.func68
theorem do68 : okF Try.prog Try.f68 = true := by kernel_rfl
noncomputable def d24 : FCode := (.seq (.run (.go (.box 29 (.tmp (pth 0))) (pth 1)::
.go (.alloc 42 [(.slice none 0 0),(.slice none 0 0),(.slice none 0 0),(.slice none 0 0)]) (pth 2)::
[])) (.seq (.draw 14 (.go (.fieldAddr 0 (.tmp (pth 1))) (pth 3)::
.go (.load1 (.tmp (pth 3))) (pth 4)::
.go (.call (.con (.func (.func 67) ⟨[]⟩ ⟨[]⟩)) [(.tmp (pth 4))]) (pth 5)::
.go (.fieldAddr 1 (.tmp (pth 1))) (pth 6)::
.go (.load1 (.tmp (pth 6))) (pth 7)::
.go (.call (.con (.func (.func 67) ⟨[]⟩ ⟨[]⟩)) [(.tmp (pth 7))]) (pth 8)::
.go (.fieldAddr 2 (.tmp (pth 1))) (pth 9)::
.go (.load1 (.tmp (pth 9))) (pth 10)::
.go (.call (.con (.func (.func 68) ⟨[]⟩ ⟨[]⟩)) [(.tmp (pth 10))]) (pth 11)::
.go (.fieldAddr 3 (.tmp (pth 1))) (pth 12)::
.go (.load1 (.tmp (pth 12))) (pth 13)::
.go (.call (.con (.func (.func 68) ⟨[]⟩ ⟨[]⟩)) [(.tmp (pth 13))]) (pth 14)::
.go (.build [(.slice none 0 0),(.slice none 0 0),(.slice none 0 0),(.slice none 0 0)] [(0,1,(.tmp (pth 5))),(1,1,(.tmp (pth 8))),(2,1,(.tmp (pth 11))),(3,1,(.tmp (pth 14)))]) (pth 15)::
.un (.store 4 (.tmp (pth 2)) (.tmp (pth 15)))::
[]) [.ok,.ok,.ok,.ok,.rd none (.load1 (.tmp (pth 6))) (some (pth 7)) [0],.ok,.ok,.rd none (.load1 (.tmp (pth 9))) (some (pth 10)) [0,3],.ok,.ok,.rd none (.load1 (.tmp (pth 12))) (some (pth 13)) [0,3,6],.ok,.ok,.ok]) .ret))
theorem de24 : @compF Try.prog (Gl.none Try.prog) Try.f24 1 = .mk d24 (mkTT 16) [(pth 0)] [.many (pth 2) 4] := by kernel_rfl
theorem dg24 : Try.prog.funcs[24]? = some Try.f24 := Try.func24
theorem do24 : okF Try.prog Try.f24 = true := by kernel_rfl
def shX (X : Tr) : Prop := X.F.length ≤ 1048576 ∧ X.B.length ≤ 1048576 ∧ X.D.length ≤ 1048576 ∧ X.M.length ≤ 1048576 ∧ (∀ row ∈ X.D, row.length ≤ 1048576) ∧ ∀ row ∈ X.M, row.length ≤ 1048576
theorem f65_ok {H : Heap} {c b r n f e d o : Value} {T : Tb} {X : Tr} (h : TV H c b r n T) (hx : XV H f e d o X) (hs : sh T) (hsx : shX X) : Gives Try.prog 65 [.agg ⟨[c, b, r, n]⟩, .agg ⟨[f, e, d, o]⟩] H (.bool (decide (hld T X))) := by
  obtain ⟨s1, s2, s3, s4, s5⟩ := hs
  obtain ⟨x1, x2, x3, x4, x5, x6⟩ := hsx
  have hlb : ∀ X, ylen 0 X b = some (I T.B.length) := h.b.len
  have hlf : ∀ Z, ylen 0 Z f = some (I X.F.length) := hx.f.len
  have hld' : ∀ Z, ylen 0 Z d = some (I X.D.length) := hx.d.len
  have hlm : ∀ Z, ylen 0 Z o = some (I X.M.length) := hx.m.len
  refine F.entryL rfl dg65 do65 de65 rfl (by kernel_rfl) ?_
  simp only [sets]
  refine V.re [(0, .agg ⟨[c, b, r, n]⟩), (1, .agg ⟨[f, e, d, o]⟩)] (N := 59) (by intro i; simp only [full_st, Full.mk]) (by simp only [Kn, gt_st, full_st, Full.mk, ↓reduceIte, qD, qE, decide_true, and_self]) ?_
  intro t hF hA
  simp only [Kn, and_true] at hA
  (repeat first|apply V.seq|apply V.block|apply V.scope|apply V.skip|apply V.close)
  refine V.line' (by simp +contextual (disch := first|omega|simp only [nx];omega) only [D4,qF,qG,qA,qB,qC,D5,hF,hA,↓reduceIte,qD,qE]; with_reducible rfl) ?_
  refine V.heap (fun X => Grow H X ∧ Bx X H.next [c, b, r, n] 38 ∧ Bx X (H.next + 1) [f, e, d, o] 42) ⟨?_, ?_, ?_⟩ ?_
  · (repeat first | assumption | exact Grow.refl _ | refine Grow.alloc ?_ _ | refine Grow.set ?_ (by first|omega|simp only [nx];omega) _)
  · (repeat first | assumption | exact Bx.new _ _ _ | exact Bx.newAt (by first|omega|simp only [nx];omega) | refine Bx.put (by first|omega|simp only [nx];omega) _ _ | refine Bx.alloc ?_ _ | refine Bx.set ?_ (by first|omega|simp only [nx];omega) _)
  · (repeat first | assumption | exact Bx.new _ _ _ | exact Bx.newAt (by first|omega|simp only [nx];omega) | refine Bx.put (by first|omega|simp only [nx];omega) _ _ | refine Bx.alloc ?_ _ | refine Bx.set ?_ (by first|omega|simp only [nx];omega) _)
  rintro H1 ⟨g1, b1, c1⟩
  have h1 := h.grow g1
  have k1 := hx.grow g1
  (repeat first|apply V.seq|apply V.block|apply V.scope|apply V.skip|apply V.close)
  refine V.line' (by simp +contextual (disch := first|omega|simp only [nx];omega) only [D4,qF,qG,qA,qB,qC,D5,hF,hA,↓reduceIte,qD,qE]; with_reducible rfl) ?_
  (repeat first|apply V.seq|apply V.block|apply V.scope|apply V.skip|apply V.close)
  refine V.line' (by simp +contextual (disch := first|omega|simp only [nx];omega) only [D4,qF,qG,qA,qB,qC,D5,hF,hA,↓reduceIte,qD,qE]; with_reducible rfl) ?_
  (repeat first|apply V.seq|apply V.block|apply V.scope|apply V.skip|apply V.close)
  refine V.draw ?_
  refine VD.dins 4 (by simp +contextual (disch := first|omega|simp only [nx];omega) only [D4,qF,qG,qA,qB,qC,D5,hF,hA,↓reduceIte,qD,qE, b1.2, c1.2, hlf]; with_reducible rfl) ?_
  simp only [ds]
  refine VD.callA (by simp only [D6,D5,hF,hA,↓reduceIte,qD,qE]; try rfl) (f101_ok h1) (by simp only [D6,D5,hF,hA,↓reduceIte,qD,qE]; try rfl) (fun H2 g2 => ?_)
  have b2 := b1.grow g2
  have c2 := c1.grow g2
  have h2 := h1.grow g2
  have k2 := k1.grow g2
  refine VD.dins 4 (by simp +contextual (disch := first|omega|simp only [nx];omega) only [D4,qF,qG,qA,qB,qC,D5,hF,hA,↓reduceIte,qD,qE, b2.2, c2.2]; with_reducible rfl) ?_
  simp only [ds]
  first | refine VD.callGt (by simp only [D5,hF,hA,↓reduceIte,qD,qE]; try rfl) (fun hc => by simp only [D6,D5,hF,hA,↓reduceIte,qD,qE, hc, and_self, and_true, true_and, not_false_eq_true]; try rfl) (fun hc => f85_ok H2) (fun hc => by simp only [D6,D5,hF,hA,↓reduceIte,qD,qE, hc, and_self, and_true, true_and, not_false_eq_true]; try rfl) (fun H3 g3 => ?_) | refine VD.callGf (by simp only [D5,hF,hA,↓reduceIte,qD,qE]; try rfl) (fun hc => by simp only [D6,D5,hF,hA,↓reduceIte,qD,qE, hc, and_self, and_true, true_and, not_false_eq_true]; try rfl) (fun hc => f85_ok H2) (fun hc => by simp only [D6,D5,hF,hA,↓reduceIte,qD,qE, hc, and_self, and_true, true_and, not_false_eq_true]; try rfl) (fun H3 g3 => ?_)
  have b3 := b2.grow g3
  have c3 := c2.grow g3
  have h3 := h2.grow g3
  have k3 := k2.grow g3
  refine VD.dins 1 (by simp +contextual (disch := first|omega|simp only [nx];omega) only [D4,qF,qG,qA,qB,qC,D5,hF,hA,↓reduceIte,qD,qE]; with_reducible rfl) ?_
  simp only [ds]
  first | refine VD.callGt (by simp only [D5,hF,hA,↓reduceIte,qD,qE]; try rfl) (fun hc => by simp only [D6,D5,hF,hA,↓reduceIte,qD,qE, hc, and_self, and_true, true_and, not_false_eq_true]; try rfl) (fun hc => f108_F k3.f x1) (fun hc => by simp only [D6,D5,hF,hA,↓reduceIte,qD,qE, hc, and_self, and_true, true_and, not_false_eq_true]; try rfl) (fun H4 g4 => ?_) | refine VD.callGf (by simp only [D5,hF,hA,↓reduceIte,qD,qE]; try rfl) (fun hc => by simp only [D6,D5,hF,hA,↓reduceIte,qD,qE, hc, and_self, and_true, true_and, not_false_eq_true]; try rfl) (fun hc => f108_F k3.f x1) (fun hc => by simp only [D6,D5,hF,hA,↓reduceIte,qD,qE, hc, and_self, and_true, true_and, not_false_eq_true]; try rfl) (fun H4 g4 => ?_)
  have b4 := b3.grow g4
  have c4 := c3.grow g4
  have h4 := h3.grow g4
  have k4 := k3.grow g4
  refine VD.dins 6 (by simp +contextual (disch := first|omega|simp only [nx];omega) only [D4,qF,qG,qA,qB,qC,D5,hF,hA,↓reduceIte,qD,qE, b4.2, c4.2]; with_reducible rfl) ?_
  simp only [ds]
  first | refine VD.callGt (by simp only [D5,hF,hA,↓reduceIte,qD,qE]; try rfl) (fun hc => by simp only [D6,D5,hF,hA,↓reduceIte,qD,qE, hc, and_self, and_true, true_and, not_false_eq_true]; try rfl) (fun hc => f107_ok h4.b k4.b s3) (fun hc => by simp only [D6,D5,hF,hA,↓reduceIte,qD,qE, hc, and_self, and_true, true_and, not_false_eq_true]; try rfl) (fun H5 g5 => ?_) | refine VD.callGf (by simp only [D5,hF,hA,↓reduceIte,qD,qE]; try rfl) (fun hc => by simp only [D6,D5,hF,hA,↓reduceIte,qD,qE, hc, and_self, and_true, true_and, not_false_eq_true]; try rfl) (fun hc => f107_ok h4.b k4.b s3) (fun hc => by simp only [D6,D5,hF,hA,↓reduceIte,qD,qE, hc, and_self, and_true, true_and, not_false_eq_true]; try rfl) (fun H5 g5 => ?_)
  have b5 := b4.grow g5
  have c5 := c4.grow g5
  have h5 := h4.grow g5
  have k5 := k4.grow g5
  refine VD.dins 9 (by simp +contextual (disch := first|omega|simp only [nx];omega) only [D4,qF,qG,qA,qB,qC,D5,hF,hA,↓reduceIte,qD,qE, b5.2, c5.2, hlb, hld']; with_reducible rfl) ?_
  simp only [ds]
  refine VD.dins 5 (by simp +contextual (disch := first|omega|simp only [nx];omega) only [D4,qF,qG,qA,qB,qC,D5,hF,hA,↓reduceIte,qD,qE, b5.2, c5.2, hlb, hld']; with_reducible rfl) ?_
  simp only [ds]
  first | refine VD.callGt (by simp only [D5,hF,hA,↓reduceIte,qD,qE]; try rfl) (fun hc => by simp only [D6,D5,hF,hA,↓reduceIte,qD,qE, hc, and_self, and_true, true_and, not_false_eq_true]; try rfl) (fun hc => f110_D h5 b5 k5.d x3) (fun hc => by simp only [D6,D5,hF,hA,↓reduceIte,qD,qE, hc, and_self, and_true, true_and, not_false_eq_true]; try rfl) (fun H6 g6 => ?_) | refine VD.callGf (by simp only [D5,hF,hA,↓reduceIte,qD,qE]; try rfl) (fun hc => by simp only [D6,D5,hF,hA,↓reduceIte,qD,qE, hc, and_self, and_true, true_and, not_false_eq_true]; try rfl) (fun hc => f110_D h5 b5 k5.d x3) (fun hc => by simp only [D6,D5,hF,hA,↓reduceIte,qD,qE, hc, and_self, and_true, true_and, not_false_eq_true]; try rfl) (fun H6 g6 => ?_)
  have b6 := b5.grow g6
  have c6 := c5.grow g6
  have h6 := h5.grow g6
  have k6 := k5.grow g6
  refine VD.dins 9 (by simp +contextual (disch := first|omega|simp only [nx];omega) only [D4,qF,qG,qA,qB,qC,D5,hF,hA,↓reduceIte,qD,qE, b6.2, c6.2, hlb, hlm]; with_reducible rfl) ?_
  simp only [ds]
  refine VD.dins 5 (by simp +contextual (disch := first|omega|simp only [nx];omega) only [D4,qF,qG,qA,qB,qC,D5,hF,hA,↓reduceIte,qD,qE, b6.2, c6.2, hlb, hlm]; with_reducible rfl) ?_
  simp only [ds]
  first | refine VD.callGt (by simp only [D5,hF,hA,↓reduceIte,qD,qE]; try rfl) (fun hc => by simp only [D6,D5,hF,hA,↓reduceIte,qD,qE, hc, and_self, and_true, true_and, not_false_eq_true]; try rfl) (fun hc => f110_M h6 s5 b6 k6.m x4) (fun hc => by simp only [D6,D5,hF,hA,↓reduceIte,qD,qE, hc, and_self, and_true, true_and, not_false_eq_true]; try rfl) (fun H7 g7 => ?_) | refine VD.callGf (by simp only [D5,hF,hA,↓reduceIte,qD,qE]; try rfl) (fun hc => by simp only [D6,D5,hF,hA,↓reduceIte,qD,qE, hc, and_self, and_true, true_and, not_false_eq_true]; try rfl) (fun hc => f110_M h6 s5 b6 k6.m x4) (fun hc => by simp only [D6,D5,hF,hA,↓reduceIte,qD,qE, hc, and_self, and_true, true_and, not_false_eq_true]; try rfl) (fun H7 g7 => ?_)
  refine VD.lineD' (by simp +contextual (disch := first|omega|simp only [nx];omega) only [D4,qF,qG,qA,qB,qC,D5,hF,hA,↓reduceIte,qD,qE]; with_reducible rfl) ?_ ?_ rfl ?_
  · have m2 := g2.1
    have m3 := g3.1
    have m4 := g4.1
    have m5 := g5.1
    have m6 := g6.1
    have m7 := g7.1
    simp only [monoG, List.cons_append, List.nil_append, Heap.next_set, Heap.next_alloc, Nat.le_refl, true_and, and_true] <;> omega
  · simp only [dcAll, dcOk, wantD, List.cons_append, List.nil_append, true_and, and_true]
    have v1 := (sl1 hx.f.isS).2.2.1
    exact ⟨fun _ q hq => by simp only [List.mem_cons, List.not_mem_nil, or_false] at hq; (repeat (rcases hq with rfl | hq; exact ⟨_, _, _, rfl, (by simp +contextual (disch := first|omega|simp only [nx];omega) only [D4,qF,qG,qA,qB,qC,D5,hF,hA,↓reduceIte,qD,qE, c1.2, c2.2, c3.2]; with_reducible rfl), fun p hp => by cases hp; simp only [D5,hF,hA,↓reduceIte,qD,qE]; first | exact vEq_An | (simp [vEq, vEq0, all2]; done) | assumption⟩)); (try (subst hq; exact ⟨_, _, _, rfl, (by simp +contextual (disch := first|omega|simp only [nx];omega) only [D4,qF,qG,qA,qB,qC,D5,hF,hA,↓reduceIte,qD,qE, c1.2, c2.2, c3.2]; with_reducible rfl), fun p hp => by cases hp; simp only [D5,hF,hA,↓reduceIte,qD,qE]; first | exact vEq_An | (simp [vEq, vEq0, all2]; done) | assumption⟩)), fun _ q hq => by simp only [List.mem_cons, List.not_mem_nil, or_false] at hq; (repeat (rcases hq with rfl | hq; exact ⟨_, _, _, rfl, (by simp +contextual (disch := first|omega|simp only [nx];omega) only [D4,qF,qG,qA,qB,qC,D5,hF,hA,↓reduceIte,qD,qE, hlf]; with_reducible rfl), fun p hp => by cases hp; simp only [D5,hF,hA,↓reduceIte,qD,qE]; first | exact vEq_An | (simp [vEq, vEq0, all2]; done) | assumption⟩)); (try (subst hq; exact ⟨_, _, _, rfl, (by simp +contextual (disch := first|omega|simp only [nx];omega) only [D4,qF,qG,qA,qB,qC,D5,hF,hA,↓reduceIte,qD,qE, hlf]; with_reducible rfl), fun p hp => by cases hp; simp only [D5,hF,hA,↓reduceIte,qD,qE]; first | exact vEq_An | (simp [vEq, vEq0, all2]; done) | assumption⟩)), fun hw q hq => by simp only [wantD, D5,hF,hA,↓reduceIte,qD,qE, beq_iff_eq, decide_eq_false_iff_not, decide_eq_true_eq] at hw; simp only [List.mem_cons, List.not_mem_nil, or_false] at hq; (repeat (rcases hq with rfl | hq; exact ⟨_, _, _, rfl, (by simp +contextual (disch := first|omega|simp only [nx];omega) only [D4,qF,qG,qA,qB,qC,D5,hF,hA,↓reduceIte,qD,qE, if_true, not_false_eq_true, not_true_eq_false, hw, c2.2, c3.2, c4.2]; with_reducible rfl), fun p hp => by cases hp; simp only [D5,hF,hA,↓reduceIte,qD,qE, hw, if_true, not_false_eq_true]; first | exact vEq_An | (simp [vEq, vEq0, all2]; done) | assumption⟩)); (try (subst hq; exact ⟨_, _, _, rfl, (by simp +contextual (disch := first|omega|simp only [nx];omega) only [D4,qF,qG,qA,qB,qC,D5,hF,hA,↓reduceIte,qD,qE, if_true, not_false_eq_true, not_true_eq_false, hw, c2.2, c3.2, c4.2]; with_reducible rfl), fun p hp => by cases hp; simp only [D5,hF,hA,↓reduceIte,qD,qE, hw, if_true, not_false_eq_true]; first | exact vEq_An | (simp [vEq, vEq0, all2]; done) | assumption⟩))⟩
  (repeat first|apply V.seq|apply V.block|apply V.scope|apply V.skip|apply V.close)
  refine V.ret (V.rets rfl (Lv.retG (by simp +contextual (disch := first|omega|simp only [nx];omega) only [D1, cells_alloc_at, cells_alloc_ne, cells_set_at, cells_set_ne, yres, yres1, yresL, qA, qB, qC, D5,hF,hA,↓reduceIte,qD,qE]; rfl) ?_ ?_))
  · exact (((((g1.trans g2).trans g3).trans g4).trans g5).trans g6).trans g7
  · congr 1
    rw [decide_eq_decide]
    unfold hld
    constructor
    · intro hh
      exact ⟨by omega, hh.1.1.1.1.1.2, hh.1.1.1.1.2, by omega, hh.1.1.2, by omega, hh.2⟩
    · rintro ⟨q1, q2, q3, q4, q5, q6, q7⟩
      exact ⟨⟨⟨⟨⟨⟨by omega, q2⟩, q3⟩, by omega⟩, q5⟩, by omega⟩, q7⟩
theorem f67_ok {H : Heap} {v : Value} {L : List Int} (h : RI H v L) (hn : L.length ≤ 1048576) : F Try.prog 67 ⟨[v]⟩ H (fun w X => Grow H X ∧ Ow H X 3 w (L.map I)) := by
  obtain ⟨w, X, k1, k2, k3, k4⟩ := Ow.append (e := 3) (bytes := 8) (Grow.refl H) Ow.nil h (by simp [ok1_int]) (by simp only [List.length_nil, List.length_map]; omega) (by simp only [List.length_nil, List.length_map]; omega)
  rw [List.nil_append] at k2
  refine F.entryL rfl dg67 do67 de67 rfl (by kernel_rfl) ?_
  simp only [sets]
  refine V.re [(0, v)] (N := 5) (by intro i; simp only [full_st, Full.mk]) (by simp only [Kn, gt_st, full_st, Full.mk, ↓reduceIte, qD, qE, decide_true, and_self]) ?_
  intro t hF hA
  simp only [Kn, and_true] at hA
  (repeat first|apply V.seq|apply V.block|apply V.scope|apply V.skip|apply V.close)
  refine V.line' (by simp +contextual (disch := first|omega|simp only [nx];omega) only [D4,qF,qG,qA,qB,qC,D5,hF,hA,↓reduceIte,qD,qE]; with_reducible rfl) ?_
  (repeat first|apply V.seq|apply V.block|apply V.scope|apply V.skip|apply V.close)
  refine V.line' (by simp +contextual (disch := first|omega|simp only [nx];omega) only [D4,qF,qG,qA,qB,qC,D5,hF,hA,↓reduceIte,qD,qE, k1]; with_reducible rfl) ?_
  (repeat first|apply V.seq|apply V.block|apply V.scope|apply V.skip|apply V.close)
  refine V.ret (V.rets rfl (Lv.retF (by simp +contextual (disch := first|omega|simp only [nx];omega) only [D1, cells_alloc_at, cells_alloc_ne, cells_set_at, cells_set_ne, yres, yres1, yresL, qA, qB, qC, D5,hF,hA,↓reduceIte,qD,qE]; rfl) ?_))
  exact ⟨k3, k2⟩
theorem ow_ri {H0 H : Heap} {e : TypeId} {v : Value} {l : List Int} (h : Ow H0 H e v (l.map I)) : RI H v l := h.sl
theorem f68_ok {H : Heap} {v : Value} {L : List (List Int)} (h : Nest RI H v L) (hn : L.length ≤ 1048576) (hr : ∀ row ∈ L, row.length ≤ 1048576) : F Try.prog 68 ⟨[v]⟩ H (fun w X => Grow H X ∧ OwN (From RI H.next) H X 26 w L) := by
  have hl := h.len
  refine F.entryL rfl dg68 do68 de68 rfl (by kernel_rfl) ?_
  simp only [sets]
  refine V.re [(0, v)] (N := 20) (by intro i; simp only [full_st, Full.mk]) (by simp only [Kn, gt_st, full_st, Full.mk, ↓reduceIte, qD, qE, decide_true, and_self]) ?_
  intro t hF hA
  simp only [Kn, and_true] at hA
  (repeat first|apply V.seq|apply V.block|apply V.scope|apply V.skip|apply V.close)
  refine V.line' (by simp +contextual (disch := first|omega|simp only [nx];omega) only [D4,qF,qG,qA,qB,qC,D5,hF,hA,↓reduceIte,qD,qE]; with_reducible rfl) ?_
  (repeat first|apply V.seq|apply V.block|apply V.scope|apply V.skip|apply V.close)
  refine V.line' (by simp +contextual (disch := first|omega|simp only [nx];omega) only [D4,qF,qG,qA,qB,qC,D5,hF,hA,↓reduceIte,qD,qE]; with_reducible rfl) ?_
  (repeat first|apply V.seq|apply V.block|apply V.scope|apply V.skip|apply V.close)
  refine V.line' (by simp +contextual (disch := first|omega|simp only [nx];omega) only [D4,qF,qG,qA,qB,qC,D5,hF,hA,↓reduceIte,qD,qE]; with_reducible rfl) ?_
  (repeat first|apply V.seq|apply V.block|apply V.scope|apply V.skip|apply V.close)
  refine V.loop (fun z t m X => ∃ (k : Nat) (s : Value), k ≤ L.length ∧ z = L.length - k ∧ m = [] ∧ Grow H X ∧ OwN (From RI H.next) H X 26 s (L.take k) ∧ Full 20 t ∧ Kn [(0, v), (3, s), (4, I k)] t) L.length ?_ ?_
  · exact ⟨0, _, by omega, by omega, rfl, .refl _, by rw [List.take_zero]; exact .nil, (by intro i; simp only [full_st, hF]), (by simp only [Kn, D5,hF,hA,↓reduceIte,qD,qE, and_self, and_true, true_and]; try (repeat' constructor))⟩
  clear hF hA
  rintro z t m X ⟨k, s, hk, rfl, rfl, hg, os, hF, hA⟩
  simp only [Kn, and_true] at hA
  (repeat first|apply V.seq|apply V.block|apply V.scope|apply V.skip|apply V.close)
  refine V.line' (by simp +contextual (disch := first|omega|simp only [nx];omega) only [D4,qF,qG,qA,qB,qC,D5,hF,hA,↓reduceIte,qD,qE, hl]; with_reducible rfl) ?_
  (repeat first|apply V.seq|apply V.block|apply V.scope|apply V.skip|apply V.close)
  refine V.condP (by simp only [D6,D5,hF,hA,↓reduceIte,qD,qE]; rfl) (fun hlt => ?_) (fun hlt => ?_)
  · have hlt' : k < L.length := by omega
    obtain ⟨p, x, hp, hx⟩ := h.at ri hlt'
    obtain ⟨hx1, hx2⟩ := hx _ hg
    have hpk := hp .i64
    (repeat first|apply V.seq|apply V.block|apply V.scope|apply V.skip|apply V.close)
    refine V.run ?_
    refine VI.steps' 5 (by simp +contextual (disch := first|omega|simp only [nx];omega) only [D4,qF,qG,qA,qB,qC,D5,hF,hA,↓reduceIte,qD,qE, hpk, hx1]; with_reducible rfl) ?_
    simp only [ds]
    refine VI.callR (by simp only [D6,D5,hF,hA,↓reduceIte,qD,qE]; try rfl) (f67_ok hx2 (hr _ (List.getElem_mem hlt'))) (by simp only [D6,D5,hF,hA,↓reduceIte,qD,qE]; try rfl) (fun y X1 ⟨g1, o1⟩ => ?_)
    have os1 := os.keep (ri.from _) g1
    have hy : From RI H.next X1 y L[k] := ⟨(ow_ri o1), fun i hi => Nat.le_trans hg.1 (o1.from i hi)⟩
    obtain ⟨w, X2, e1, e2, e3, e4, e5, e6⟩ := OwN.pushB (ri.from _) (bytes := 24) (Nat.le_trans hg.1 g1.1) os1 hy (os.sepNew (Nat.le_refl _) o1.from) (by rw [List.length_take]; omega) (by rw [List.length_take]; omega)
    obtain ⟨p1, q1, _, _⟩ := sl1 (ri.sl hy.1)
    refine VI.line' (by simp +contextual (disch := first|omega|simp only [nx];omega) only [D4,qF,qG,qA,qB,qC,D5,hF,hA,↓reduceIte,qD,qE, e1, p1, q1]; with_reducible rfl) ?_
    (repeat first|apply V.seq|apply V.block|apply V.scope|apply V.skip|apply V.close)
    refine V.line' (by simp +contextual (disch := first|omega|simp only [nx];omega) only [D4,qF,qG,qA,qB,qC,D5,hF,hA,↓reduceIte,qD,qE]; with_reducible rfl) ?_
    refine V.nil (Or.inl ⟨rfl, L.length - (k + 1), by omega, ?_⟩)
    refine ⟨k + 1, w, by omega, rfl, rfl, e3.grow (hg.trans g1) (Nat.le_refl _), ?_, (by intro i; simp only [full_st, hF]), (by simp only [Kn, D5,hF,hA,↓reduceIte,qD,qE, and_self, and_true, true_and]; try (repeat' constructor))⟩
    rw [tk1 hlt']
    exact e2
  · refine V.exit ?_
    (repeat first | refine V.pass ?_ | refine V.here ?_ | refine V.out (by decide) ?_)
    refine V.nil (Or.inr ⟨by simp, ?_⟩)
    (repeat first | refine V.pass ?_ | refine V.here ?_ | refine V.out (by decide) ?_)
    (repeat first|apply V.seq|apply V.block|apply V.scope|apply V.skip|apply V.close)
    refine V.line' (by simp +contextual (disch := first|omega|simp only [nx];omega) only [D4,qF,qG,qA,qB,qC,D5,hF,hA,↓reduceIte,qD,qE]; with_reducible rfl) ?_
    (repeat first|apply V.seq|apply V.block|apply V.scope|apply V.skip|apply V.close)
    refine V.ret (V.rets rfl (Lv.retF (by simp +contextual (disch := first|omega|simp only [nx];omega) only [D1, cells_alloc_at, cells_alloc_ne, cells_set_at, cells_set_ne, yres, yres1, yresL, qA, qB, qC, D5,hF,hA,↓reduceIte,qD,qE]; rfl) ?_))
    have e : L.take k = L := List.take_of_length_le (by omega)
    rw [e] at os
    exact ⟨hg, os⟩
theorem f24_ok {H : Heap} {f e d o : Value} {X : Tr} (hx : XV H f e d o X) (hsx : shX X) : F Try.prog 24 ⟨[.agg ⟨[f, e, d, o]⟩]⟩ H (fun w Y => Grow H Y ∧ ∃ f' e' d' o', w = .agg ⟨[f', e', d', o']⟩ ∧ XV Y f' e' d' o' X) := by
  obtain ⟨x1, x2, x3, x4, x5, x6⟩ := hsx
  refine F.entryL rfl dg24 do24 de24 rfl (by kernel_rfl) ?_
  simp only [sets]
  refine V.re [(0, .agg ⟨[f, e, d, o]⟩)] (N := 16) (by intro i; simp only [full_st, Full.mk]) (by simp only [Kn, gt_st, full_st, Full.mk, ↓reduceIte, qD, qE, decide_true, and_self]) ?_
  intro t hF hA
  simp only [Kn, and_true] at hA
  (repeat first|apply V.seq|apply V.block|apply V.scope|apply V.skip|apply V.close)
  refine V.line' (by simp +contextual (disch := first|omega|simp only [nx];omega) only [D4,qF,qG,qA,qB,qC,D5,hF,hA,↓reduceIte,qD,qE]; with_reducible rfl) ?_
  refine V.heap (fun X => Grow H X ∧ Bx X H.next [f, e, d, o] 29 ∧ Bx X (H.next + 1) [.slice none 0 0, .slice none 0 0, .slice none 0 0, .slice none 0 0] 42 ∧ H.next + 2 ≤ X.next) ⟨?_, ?_, ?_, ?_⟩ ?_
  · (repeat first | assumption | exact Grow.refl _ | refine Grow.alloc ?_ _ | refine Grow.set ?_ (by first|omega|simp only [nx];omega) _)
  · (repeat first | assumption | exact Bx.new _ _ _ | exact Bx.newAt (by first|omega|simp only [nx];omega) | refine Bx.put (by first|omega|simp only [nx];omega) _ _ | refine Bx.alloc ?_ _ | refine Bx.set ?_ (by first|omega|simp only [nx];omega) _)
  · (repeat first | assumption | exact Bx.new _ _ _ | exact Bx.newAt (by first|omega|simp only [nx];omega) | refine Bx.put (by first|omega|simp only [nx];omega) _ _ | refine Bx.alloc ?_ _ | refine Bx.set ?_ (by first|omega|simp only [nx];omega) _)
  · simp only [nx]; omega
  rintro H1 ⟨g1, b1, c1, n1⟩
  have h1 := hx.grow g1
  (repeat first|apply V.seq|apply V.block|apply V.scope|apply V.skip|apply V.close)
  refine V.draw ?_
  refine VD.dins 2 (by simp +contextual (disch := first|omega|simp only [nx];omega) only [D4,qF,qG,qA,qB,qC,D5,hF,hA,↓reduceIte,qD,qE, b1.2]; with_reducible rfl) ?_
  simp only [ds]
  refine VD.callR (by simp only [D6,D5,hF,hA,↓reduceIte,qD,qE]; try rfl) (f67_ok h1.f x1) (by simp only [D6,D5,hF,hA,↓reduceIte,qD,qE]; try rfl) (fun v1 H2 ⟨g2, o2⟩ => ?_)
  have b2 := b1.grow g2
  have c2 := c1.grow g2
  have h2 := h1.grow g2
  refine VD.dins 2 (by simp +contextual (disch := first|omega|simp only [nx];omega) only [D4,qF,qG,qA,qB,qC,D5,hF,hA,↓reduceIte,qD,qE, b2.2]; with_reducible rfl) ?_
  simp only [ds]
  refine VD.callR (by simp only [D6,D5,hF,hA,↓reduceIte,qD,qE]; try rfl) (f67_ok h2.b x2) (by simp only [D6,D5,hF,hA,↓reduceIte,qD,qE]; try rfl) (fun v2 H3 ⟨g3, o3⟩ => ?_)
  have b3 := b2.grow g3
  have c3 := c2.grow g3
  have h3 := h2.grow g3
  refine VD.dins 2 (by simp +contextual (disch := first|omega|simp only [nx];omega) only [D4,qF,qG,qA,qB,qC,D5,hF,hA,↓reduceIte,qD,qE, b3.2]; with_reducible rfl) ?_
  simp only [ds]
  refine VD.callR (by simp only [D6,D5,hF,hA,↓reduceIte,qD,qE]; try rfl) (f68_ok h3.d x3 x5) (by simp only [D6,D5,hF,hA,↓reduceIte,qD,qE]; try rfl) (fun v3 H4 ⟨g4, o4⟩ => ?_)
  have b4 := b3.grow g4
  have c4 := c3.grow g4
  have h4 := h3.grow g4
  refine VD.dins 2 (by simp +contextual (disch := first|omega|simp only [nx];omega) only [D4,qF,qG,qA,qB,qC,D5,hF,hA,↓reduceIte,qD,qE, b4.2]; with_reducible rfl) ?_
  simp only [ds]
  refine VD.callR (by simp only [D6,D5,hF,hA,↓reduceIte,qD,qE]; try rfl) (f68_ok h4.m x4 x6) (by simp only [D6,D5,hF,hA,↓reduceIte,qD,qE]; try rfl) (fun v4 H5 ⟨g5, o5⟩ => ?_)
  have c5 := c4.grow g5
  have k1 := ow_ri o2
  have k2 := ow_ri o3
  obtain ⟨p1, q1, _, _⟩ := sl1 k1.isS
  obtain ⟨p2, q2, _, _⟩ := sl1 k2.isS
  obtain ⟨p3, q3, _, _⟩ := sl1 o4.nest.isS
  obtain ⟨p4, q4, _, _⟩ := sl1 o5.nest.isS
  have lc5 := c5.1
  refine VD.lineD' (by simp +contextual (disch := first|omega|simp only [nx];omega) only [D4,qF,qG,qA,qB,qC,D5,hF,hA,↓reduceIte,qD,qE, c5.2, p1, p2, p3, p4, q1, q2, q3, q4]; with_reducible rfl) ?_ ?_ rfl ?_
  · have m2 := g2.1
    have m3 := g3.1
    have m4 := g4.1
    have m5 := g5.1
    simp only [monoG, List.cons_append, List.nil_append, Heap.next_set, Heap.next_alloc, Nat.le_refl, true_and, and_true] <;> omega
  · simp only [dcAll, dcOk, wantD, List.cons_append, List.nil_append, true_and, and_true]
    have w1 := (sl1 hx.b.isS).2.2.1
    have w2 := (sl1 hx.d.isS).2.2.1
    have w3 := (sl1 hx.m.isS).2.2.1
    exact ⟨fun _ q hq => by simp only [List.mem_cons, List.not_mem_nil, or_false] at hq; (repeat (rcases hq with rfl | hq; exact ⟨_, _, _, rfl, (by simp +contextual (disch := first|omega|simp only [nx];omega) only [D4,qF,qG,qA,qB,qC,D5,hF,hA,↓reduceIte,qD,qE, b1.2, b2.2, b3.2, b4.2]; with_reducible rfl), fun p hp => by cases hp; simp only [D5,hF,hA,↓reduceIte,qD,qE]; first | exact vEq_An | (simp [vEq, vEq0, all2]; done) | assumption⟩)); (try (subst hq; exact ⟨_, _, _, rfl, (by simp +contextual (disch := first|omega|simp only [nx];omega) only [D4,qF,qG,qA,qB,qC,D5,hF,hA,↓reduceIte,qD,qE, b1.2, b2.2, b3.2, b4.2]; with_reducible rfl), fun p hp => by cases hp; simp only [D5,hF,hA,↓reduceIte,qD,qE]; first | exact vEq_An | (simp [vEq, vEq0, all2]; done) | assumption⟩)), fun _ q hq => by simp only [List.mem_cons, List.not_mem_nil, or_false] at hq; (repeat (rcases hq with rfl | hq; exact ⟨_, _, _, rfl, (by simp +contextual (disch := first|omega|simp only [nx];omega) only [D4,qF,qG,qA,qB,qC,D5,hF,hA,↓reduceIte,qD,qE, b1.2, b2.2, b3.2, b4.2]; with_reducible rfl), fun p hp => by cases hp; simp only [D5,hF,hA,↓reduceIte,qD,qE]; first | exact vEq_An | (simp [vEq, vEq0, all2]; done) | assumption⟩)); (try (subst hq; exact ⟨_, _, _, rfl, (by simp +contextual (disch := first|omega|simp only [nx];omega) only [D4,qF,qG,qA,qB,qC,D5,hF,hA,↓reduceIte,qD,qE, b1.2, b2.2, b3.2, b4.2]; with_reducible rfl), fun p hp => by cases hp; simp only [D5,hF,hA,↓reduceIte,qD,qE]; first | exact vEq_An | (simp [vEq, vEq0, all2]; done) | assumption⟩)), fun _ q hq => by simp only [List.mem_cons, List.not_mem_nil, or_false] at hq; (repeat (rcases hq with rfl | hq; exact ⟨_, _, _, rfl, (by simp +contextual (disch := first|omega|simp only [nx];omega) only [D4,qF,qG,qA,qB,qC,D5,hF,hA,↓reduceIte,qD,qE, b1.2, b2.2, b3.2, b4.2]; with_reducible rfl), fun p hp => by cases hp; simp only [D5,hF,hA,↓reduceIte,qD,qE]; first | exact vEq_An | (simp [vEq, vEq0, all2]; done) | assumption⟩)); (try (subst hq; exact ⟨_, _, _, rfl, (by simp +contextual (disch := first|omega|simp only [nx];omega) only [D4,qF,qG,qA,qB,qC,D5,hF,hA,↓reduceIte,qD,qE, b1.2, b2.2, b3.2, b4.2]; with_reducible rfl), fun p hp => by cases hp; simp only [D5,hF,hA,↓reduceIte,qD,qE]; first | exact vEq_An | (simp [vEq, vEq0, all2]; done) | assumption⟩))⟩
  refine V.heap (fun Y => Bx Y (H.next + 1) [v1, v2, v3, v4] 42 ∧ Y.next = H5.next ∧ ∀ i, i ≠ H.next + 1 → Y.get i = H5.get i) ⟨?_, ?_, ?_⟩ ?_
  · (repeat first | assumption | exact Bx.new _ _ _ | exact Bx.newAt (by first|omega|simp only [nx];omega) | refine Bx.put (by first|omega|simp only [nx];omega) _ _ | refine Bx.alloc ?_ _ | refine Bx.set ?_ (by first|omega|simp only [nx];omega) _)
  · simp only [nx]
  · intro i hi
    rw [Heap.get_set, if_neg hi]
  rintro Y ⟨y1, y2, y3⟩
  (repeat first|apply V.seq|apply V.block|apply V.scope|apply V.skip|apply V.close)
  refine V.ret (V.rets rfl (Lv.retF (by simp +contextual (disch := first|omega|simp only [nx];omega) only [D1, cells_alloc_at, cells_alloc_ne, cells_set_at, cells_set_ne, yres, yres1, yresL, qA, qB, qC, D5,hF,hA,↓reduceIte,qD,qE, y1.2]; rfl) ?_))
  have gg := (((g1.trans g2).trans g3).trans g4).trans g5
  have m2 := g2.1
  have m3 := g3.1
  have m4 := g4.1
  have m5 := g5.1
  refine ⟨⟨by rw [y2]; exact gg.1, fun i hi => by rw [y3 i (by omega)]; exact gg.2 i hi⟩, _, _, _, _, rfl, ?_, ?_, ?_, ?_⟩
  · exact ri.loc (ri.grow ((g3.trans g4).trans g5) k1) (by omega) (fun i hi => y3 i (by have := o2.from i hi; omega))
  · exact ri.loc (ri.grow (g4.trans g5) k2) (by omega) (fun i hi => y3 i (by have := o3.from i hi; omega))
  · exact ((o4.keep (ri.from _) g5).loc ri (by omega) (fun i hi => y3 i (by omega))).nest.weak (fun x r h => h.1)
  · exact (o5.loc ri (by omega) (fun i hi => y3 i (by omega))).nest.weak (fun x r h => h.1)
end Go.Xe.TFX
