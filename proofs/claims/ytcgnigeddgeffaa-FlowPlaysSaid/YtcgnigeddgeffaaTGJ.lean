/- What the statement FlowPlays comes to. Conditions: none. -/
import Derived.Test.YtcgnigeddgeffaaTGI
-- MOD TF
namespace Go.Xe.TFX
open Go Go.Xe Go.Proofs
open Nat renaming reduceLeDiff → qA, reduceSub → qB, reduceAdd → qC, reduceEqDiff → qD, reduceLT → qE
open Int renaming reduceNegSucc → qF, reduceEq → qG
open Go.Xe.Flw
set_option maxRecDepth 100000
set_option maxHeartbeats 6400000
set_option linter.unusedSimpArgs false
noncomputable def d3 : FCode := (.seq (.run (.go (.box 25 (.tmp (pth 0))) (pth 2)::
.go (.box 29 (.tmp (pth 1))) (pth 3)::
.go (.move (.con (.bool false))) (pth 4)::
[])) (.seq (.seq (.run (.go (.loadN 4 (.tmp (pth 2))) (pth 13)::
.go (.call (.con (.func (.func 18) ⟨[]⟩ ⟨[]⟩)) [(.tmp (pth 13))]) (pth 14)::
.go (.un .not (.tmp (pth 14))) (pth 15)::
.go (.move (.tmp (pth 15))) (pth 16)::
.gd (pth 16) false (.loadN 4 (.tmp (pth 3))) (pth 17)::
.gd (pth 16) false (.call (.con (.func (.func 19) ⟨[]⟩ ⟨[]⟩)) [(.tmp (pth 17))]) (pth 18)::
.gd (pth 16) false (.un .not (.tmp (pth 18))) (pth 19)::
.go (.pick (.tmp (pth 16)) (.con (.bool true)) (.tmp (pth 19))) (pth 20)::
[])) (.cond (.tmp (pth 20)) (.seq (.run (.go (.call (.con (.func (.func 20) ⟨[]⟩ ⟨[]⟩)) []) (pth 21)::
.go (.move (.tmp (pth 21))) (pth 4)::
[])) .ret) .skip)) (.seq (.run (.go (.loadN 4 (.tmp (pth 2))) (pth 22)::
.go (.call (.con (.func (.func 22) ⟨[]⟩ ⟨[]⟩)) [(.tmp (pth 22))]) (pth 23)::
.go (.call (.con (.func (.func 21) ⟨[]⟩ ⟨[]⟩)) [(.tmp (pth 23))]) (pth 24)::
.go (.move (.tmp (pth 24))) (pth 5)::
[])) (.seq (.draw 12 (.go (.loadN 4 (.tmp (pth 2))) (pth 26)::
.go (.call (.con (.func (.func 22) ⟨[]⟩ ⟨[]⟩)) [(.tmp (pth 26))]) (pth 27)::
.go (.loadN 4 (.tmp (pth 3))) (pth 28)::
.go (.call (.con (.func (.func 24) ⟨[]⟩ ⟨[]⟩)) [(.tmp (pth 28))]) (pth 29)::
.go (.call (.con (.func (.func 23) ⟨[]⟩ ⟨[]⟩)) [(.tmp (pth 27)),(.tmp (pth 29))]) (pth 30)::
.go (.move (.tmp (pth 30))) (pth 25)::
.go (.extract (.tmp (pth 25)) 0) (pth 31)::
.go (.extract (.tmp (pth 25)) 1) (pth 32)::
.go (.extract (.tmp (pth 25)) 2) (pth 33)::
.go (.move (.tmp (pth 31))) (pth 6)::
.go (.move (.tmp (pth 32))) (pth 7)::
.go (.move (.tmp (pth 33))) (pth 8)::
[]) [.ok,.ok,.rd none (.loadN 4 (.tmp (pth 3))) (some (pth 28)) [0],.ok,.ok,.ok,.ok,.ok,.ok,.ok,.ok,.ok]) (.seq (.draw 6 (.go (.loadN 4 (.tmp (pth 2))) (pth 34)::
.go (.call (.con (.func (.func 22) ⟨[]⟩ ⟨[]⟩)) [(.tmp (pth 34))]) (pth 35)::
.go (.loadN 4 (.tmp (pth 3))) (pth 36)::
.go (.call (.con (.func (.func 24) ⟨[]⟩ ⟨[]⟩)) [(.tmp (pth 36))]) (pth 37)::
.go (.call (.con (.func (.func 25) ⟨[]⟩ ⟨[]⟩)) [(.tmp (pth 35)),(.tmp (pth 37))]) (pth 38)::
.go (.move (.tmp (pth 38))) (pth 9)::
[]) [.ok,.ok,.rd none (.loadN 4 (.tmp (pth 3))) (some (pth 36)) [0],.ok,.ok,.ok]) (.seq (.run (.go (.loadN 4 (.tmp (pth 2))) (pth 39)::
.go (.call (.con (.func (.func 26) ⟨[]⟩ ⟨[]⟩)) [(.tmp (pth 39))]) (pth 40)::
.go (.move (.tmp (pth 40))) (pth 10)::
[])) (.seq (.seq (.run (.go (.move (.tmp (pth 5))) (pth 41)::
.go (.move (.tmp (pth 10))) (pth 42)::
.go (.bin .neq 33 (.tmp (pth 41)) (.tmp (pth 42))) (pth 43)::
[])) (.cond (.tmp (pth 43)) (.seq (.run (.go (.move (.con (.bool false))) (pth 4)::
[])) .ret) .skip)) (.seq (.seq (.run (.go (.move (.tmp (pth 10))) (pth 44)::
.go (.bin .eql 33 (.tmp (pth 44)) (.con (.int .i64 (.ofNat 0)))) (pth 45)::
.go (.move (.tmp (pth 45))) (pth 46)::
.gd (pth 46) true (.loadN 4 (.tmp (pth 2))) (pth 47)::
.gd (pth 46) true (.loadN 4 (.tmp (pth 3))) (pth 48)::
.gd (pth 46) true (.call (.con (.func (.func 27) ⟨[]⟩ ⟨[]⟩)) [(.tmp (pth 47)),(.tmp (pth 48))]) (pth 49)::
.gd (pth 46) true (.un .not (.tmp (pth 49))) (pth 50)::
.go (.pick (.tmp (pth 46)) (.tmp (pth 50)) (.con (.bool false))) (pth 51)::
[])) (.cond (.tmp (pth 51)) (.run (.go (.move (.con (.int .i64 (.ofNat 2)))) (pth 10)::
[])) .skip)) (.seq (.seq (.run (.go (.move (.tmp (pth 10))) (pth 52)::
.go (.bin .neq 33 (.tmp (pth 52)) (.con (.int .i64 (.ofNat 0)))) (pth 53)::
[])) (.cond (.tmp (pth 53)) (.seq (.run (.go (.move (.tmp (pth 8))) (pth 54)::
.go (.move (.tmp (pth 10))) (pth 55)::
.go (.bin .eql 33 (.tmp (pth 54)) (.tmp (pth 55))) (pth 56)::
.go (.move (.tmp (pth 56))) (pth 57)::
.gd (pth 57) true (.move (.tmp (pth 6))) (pth 58)::
.gd (pth 57) true (.len 0 (.tmp (pth 58))) (pth 59)::
.gd (pth 57) true (.bin .eql 3 (.tmp (pth 59)) (.con (.int .i64 (.ofNat 0)))) (pth 60)::
.go (.pick (.tmp (pth 57)) (.tmp (pth 60)) (.con (.bool false))) (pth 61)::
.go (.move (.tmp (pth 61))) (pth 62)::
.gd (pth 62) true (.move (.tmp (pth 7))) (pth 63)::
.gd (pth 62) true (.un .not (.tmp (pth 63))) (pth 64)::
.go (.pick (.tmp (pth 62)) (.tmp (pth 64)) (.con (.bool false))) (pth 65)::
.go (.move (.tmp (pth 65))) (pth 66)::
.gd (pth 66) true (.move (.tmp (pth 9))) (pth 67)::
.gd (pth 66) true (.un .not (.tmp (pth 67))) (pth 68)::
.go (.pick (.tmp (pth 66)) (.tmp (pth 68)) (.con (.bool false))) (pth 69)::
.go (.move (.tmp (pth 69))) (pth 70)::
.gd (pth 70) true (.call (.con (.func (.func 20) ⟨[]⟩ ⟨[]⟩)) []) (pth 71)::
.go (.pick (.tmp (pth 70)) (.tmp (pth 71)) (.con (.bool false))) (pth 72)::
.go (.move (.tmp (pth 72))) (pth 4)::
[])) .ret) .skip)) (.seq (.run (.go (.loadN 4 (.tmp (pth 2))) (pth 74)::
.go (.loadN 4 (.tmp (pth 3))) (pth 75)::
.go (.call (.con (.func (.func 28) ⟨[]⟩ ⟨[]⟩)) [(.tmp (pth 74)),(.tmp (pth 75))]) (pth 76)::
.go (.move (.tmp (pth 76))) (pth 73)::
.go (.extract (.tmp (pth 73)) 0) (pth 77)::
.go (.extract (.tmp (pth 73)) 1) (pth 78)::
.go (.move (.tmp (pth 77))) (pth 11)::
.go (.move (.tmp (pth 78))) (pth 12)::
[])) (.seq (.run (.go (.move (.tmp (pth 8))) (pth 79)::
.go (.bin .eql 33 (.tmp (pth 79)) (.con (.int .i64 (.ofNat 0)))) (pth 80)::
.go (.move (.tmp (pth 80))) (pth 81)::
.gd (pth 81) true (.move (.tmp (pth 6))) (pth 82)::
.gd (pth 81) true (.move (.tmp (pth 11))) (pth 83)::
.gd (pth 81) true (.call (.con (.func (.func 29) ⟨[]⟩ ⟨[]⟩)) [(.tmp (pth 82)),(.tmp (pth 83))]) (pth 84)::
.go (.pick (.tmp (pth 81)) (.tmp (pth 84)) (.con (.bool false))) (pth 85)::
.go (.move (.tmp (pth 85))) (pth 86)::
.gd (pth 86) true (.move (.tmp (pth 7))) (pth 87)::
.gd (pth 86) true (.move (.tmp (pth 12))) (pth 88)::
.gd (pth 86) true (.bin .eql 4 (.tmp (pth 87)) (.tmp (pth 88))) (pth 89)::
.go (.pick (.tmp (pth 86)) (.tmp (pth 89)) (.con (.bool false))) (pth 90)::
.go (.move (.tmp (pth 90))) (pth 91)::
.gd (pth 91) true (.move (.tmp (pth 9))) (pth 92)::
.gd (pth 91) true (.move (.tmp (pth 12))) (pth 93)::
.gd (pth 91) true (.move (.tmp (pth 93))) (pth 94)::
.gd (pth 94) true (.loadN 4 (.tmp (pth 2))) (pth 95)::
.gd (pth 94) true (.move (.tmp (pth 11))) (pth 96)::
.gd (pth 94) true (.build [(.bool false),(.bool false),(.bool false),(.bool false),(.bool false),(.bool false),(.bool false),(.bool false),(.bool false),(.bool false),(.bool false),(.bool false),(.bool false),(.bool false),(.bool false),(.bool false)] []) (pth 97)::
.gd (pth 94) true (.call (.con (.func (.func 30) ⟨[]⟩ ⟨[]⟩)) [(.tmp (pth 95)),(.tmp (pth 96)),(.tmp (pth 97))]) (pth 98)::
.gd (pth 91) true (.pick (.tmp (pth 94)) (.tmp (pth 98)) (.con (.bool false))) (pth 99)::
.gd (pth 91) true (.bin .eql 4 (.tmp (pth 92)) (.tmp (pth 99))) (pth 100)::
.go (.pick (.tmp (pth 91)) (.tmp (pth 100)) (.con (.bool false))) (pth 101)::
.go (.move (.tmp (pth 101))) (pth 102)::
.gd (pth 102) true (.call (.con (.func (.func 20) ⟨[]⟩ ⟨[]⟩)) []) (pth 103)::
.go (.pick (.tmp (pth 102)) (.tmp (pth 103)) (.con (.bool false))) (pth 104)::
.go (.move (.tmp (pth 104))) (pth 4)::
[])) .ret)))))))))))
theorem de3 : @compF Try.prog (Gl.none Try.prog) Try.f3 2 = .mk d3 (mkTT 105) [(pth 0),(pth 1)] [.tmp (pth 4)] := by kernel_rfl
theorem dg3 : Try.prog.funcs[3]? = some Try.f3 := Try.func3
theorem do3 : okF Try.prog Try.f3 = true := by kernel_rfl
theorem eqb4 {x y : Bool} (h : x = y) : xbinOp Try.prog .eql 4 (.bool x) (.bool y) = some (.bool true) := by subst h; cases x <;> kernel_rfl
theorem vEq4 {a b c d : Value} (ha : ∃ p n k, a = .slice p n k) (hb : ∃ p n k, b = .slice p n k) (hc : ∃ p n k, c = .slice p n k) (hd : ∃ p n k, d = .slice p n k) : vEq 3 (.agg ⟨[a, b, c, d]⟩) (.agg ⟨[a, b, c, d]⟩) = true := by
  obtain ⟨_, _, _, rfl⟩ := ha
  obtain ⟨_, _, _, rfl⟩ := hb
  obtain ⟨_, _, _, rfl⟩ := hc
  obtain ⟨_, _, _, rfl⟩ := hd
  simp [vEq, vEq0, all2]
theorem f3_ok {H : Heap} {c b r n f e d o : Value} {T : Tb} {X : Tr} (h : TV H c b r n T) (hx : XV H f e d o X) : F Try.prog 3 ⟨[.agg ⟨[c, b, r, n]⟩, .agg ⟨[f, e, d, o]⟩]⟩ H (fun w _ => w = .bool true) := by
  have vX := vEq4 hx.f.isS hx.b.isS hx.d.isS hx.m.isS
  refine F.entryL rfl dg3 do3 de3 rfl (by kernel_rfl) ?_
  simp only [sets]
  refine V.re [(0, .agg ⟨[c, b, r, n]⟩), (1, .agg ⟨[f, e, d, o]⟩)] (N := 105) (by intro i; simp only [full_st, Full.mk]) (by simp only [Kn, gt_st, full_st, Full.mk, ↓reduceIte, qD, qE, decide_true, and_self]) ?_
  intro t hF hA
  simp only [Kn, and_true] at hA
  (repeat first|apply V.seq|apply V.block|apply V.scope|apply V.skip|apply V.close)
  refine V.line' (by simp +contextual (disch := first|omega|simp only [nx];omega) only [D4,qF,qG,qA,qB,qC,D5,hF,hA,↓reduceIte,qD,qE]; with_reducible rfl) ?_
  refine V.heap (fun X => Grow H X ∧ Bx X H.next [c, b, r, n] 25 ∧ Bx X (H.next + 1) [f, e, d, o] 29) ⟨?_, ?_, ?_⟩ ?_
  · (repeat first | assumption | exact Grow.refl _ | refine Grow.alloc ?_ _ | refine Grow.set ?_ (by first|omega|simp only [nx];omega) _)
  · (repeat first | assumption | exact Bx.new _ _ _ | exact Bx.newAt (by first|omega|simp only [nx];omega) | refine Bx.put (by first|omega|simp only [nx];omega) _ _ | refine Bx.alloc ?_ _ | refine Bx.set ?_ (by first|omega|simp only [nx];omega) _)
  · (repeat first | assumption | exact Bx.new _ _ _ | exact Bx.newAt (by first|omega|simp only [nx];omega) | refine Bx.put (by first|omega|simp only [nx];omega) _ _ | refine Bx.alloc ?_ _ | refine Bx.set ?_ (by first|omega|simp only [nx];omega) _)
  rintro H1 ⟨g1, b1, c1⟩
  (repeat first|apply V.seq|apply V.block|apply V.scope|apply V.skip|apply V.close)
  refine V.run ?_
  refine VI.steps' 1 (by simp +contextual (disch := first|omega|simp only [nx];omega) only [D4,qF,qG,qA,qB,qC,D5,hF,hA,↓reduceIte,qD,qE, b1.2]; with_reducible rfl) ?_
  simp only [ds]
  refine VI.callA rfl (f18_ok (h.grow g1)) (by simp only [D6,D5,hF,hA,↓reduceIte,qD,qE]; try rfl) (fun H2 g2 => ?_)
  have b2 := b1.grow g2
  have c2 := c1.grow g2
  have g12 := g1.trans g2
  refine VI.steps' 3 (by simp +contextual (disch := first|omega|simp only [nx];omega) only [D4,qF,qG,qA,qB,qC,D5,hF,hA,↓reduceIte,qD,qE, c2.2]; with_reducible rfl) ?_
  simp only [ds]
  first | refine VI.callGt (by simp only [D5,hF,hA,↓reduceIte,qD,qE]; try rfl) (fun hc => by simp only [D6,D5,hF,hA,↓reduceIte,qD,qE, hc, and_self, and_true, true_and, not_false_eq_true]; try rfl) (fun hc => f19_ok (hx.grow g12)) (fun hc => by simp only [D6,D5,hF,hA,↓reduceIte,qD,qE, hc, and_self, and_true, true_and, not_false_eq_true]; try rfl) (fun H3 g3 => ?_) | refine VI.callGf (by simp only [D5,hF,hA,↓reduceIte,qD,qE]; try rfl) (fun hc => by simp only [D6,D5,hF,hA,↓reduceIte,qD,qE, hc, and_self, and_true, true_and, not_false_eq_true]; try rfl) (fun hc => f19_ok (hx.grow g12)) (fun hc => by simp only [D6,D5,hF,hA,↓reduceIte,qD,qE, hc, and_self, and_true, true_and, not_false_eq_true]; try rfl) (fun H3 g3 => ?_)
  have b3 := b2.grow g3
  have c3 := c2.grow g3
  have g13 := g12.trans g3
  refine VI.line' (by simp +contextual (disch := first|omega|simp only [nx];omega) only [D4,qF,qG,qA,qB,qC,D5,hF,hA,↓reduceIte,qD,qE]; with_reducible rfl) ?_
  (repeat first|apply V.seq|apply V.block|apply V.scope|apply V.skip|apply V.close)
  refine V.condP (by simp only [D6,D5,hF,hA,↓reduceIte,qD,qE]; rfl) (fun ht => ?_) (fun ht => ?_)
  · (repeat first|apply V.seq|apply V.block|apply V.scope|apply V.skip|apply V.close)
    refine V.run ?_
    refine VI.callA rfl (f20_ok _) (by simp only [D6,D5,hF,hA,↓reduceIte,qD,qE]; try rfl) (fun H4 g4 => ?_)
    refine VI.line' (by simp +contextual (disch := first|omega|simp only [nx];omega) only [D4,qF,qG,qA,qB,qC,D5,hF,hA,↓reduceIte,qD,qE]; with_reducible rfl) ?_
    (repeat first|apply V.seq|apply V.block|apply V.scope|apply V.skip|apply V.close)
    refine V.ret (V.rets rfl (Lv.retF (by simp +contextual (disch := first|omega|simp only [nx];omega) only [D1, cells_alloc_at, cells_alloc_ne, cells_set_at, cells_set_ne, yres, yres1, yresL, qA, qB, qC, D5,hF,hA,↓reduceIte,qD,qE]; rfl) ?_))
    rfl
  have hthin : thin T := by
    by_cases hh : thin T
    · exact hh
    · exact absurd (by simp [hh]) ht
  have hsm : small X := by
    by_cases hh : small X
    · exact hh
    · exact absurd (by simp [hh, hthin]) ht
  have hs := thin_sh hthin
  have hsx := small_sh hsm
  clear ht
  (repeat first|apply V.seq|apply V.block|apply V.scope|apply V.skip|apply V.close)
  refine V.run ?_
  refine VI.steps' 1 (by simp +contextual (disch := first|omega|simp only [nx];omega) only [D4,qF,qG,qA,qB,qC,D5,hF,hA,↓reduceIte,qD,qE, b3.2]; with_reducible rfl) ?_
  simp only [ds]
  refine VI.callR (by simp only [D6,D5,hF,hA,↓reduceIte,qD,qE]; try rfl) (f22_ok (h.grow g13) hs) (by simp only [D6,D5,hF,hA,↓reduceIte,qD,qE]; try rfl) (fun w4 H4 ⟨g4, ca, ba, ra, na, hw4, tv4⟩ => ?_)
  subst hw4
  have b4 := b3.grow g4
  have c4 := c3.grow g4
  have g14 := g13.trans g4
  refine VI.callA rfl (f21_ok tv4 hs) (by simp only [D6,D5,hF,hA,↓reduceIte,qD,qE]; try rfl) (fun H5 g5 => ?_)
  have b5 := b4.grow g5
  have c5 := c4.grow g5
  have g15 := g14.trans g5
  refine VI.line' (by simp +contextual (disch := first|omega|simp only [nx];omega) only [D4,qF,qG,qA,qB,qC,D5,hF,hA,↓reduceIte,qD,qE]; with_reducible rfl) ?_
  (repeat first|apply V.seq|apply V.block|apply V.scope|apply V.skip|apply V.close)
  refine V.re [(2, .pointer (some ⟨H.next, 0, none⟩)), (3, .pointer (some ⟨H.next + 1, 0, none⟩)), (5, I (flt T))] (N := 105) (by intro i; simp only [full_st, hF]) (by simp only [Kn, D5,hF,hA,↓reduceIte,qD,qE, and_self, and_true, true_and]; try (repeat' constructor)) ?_
  clear hF hA
  intro t hF hA
  simp only [Kn, and_true] at hA
  refine V.draw ?_
  refine VD.dins 1 (by simp +contextual (disch := first|omega|simp only [nx];omega) only [D4,qF,qG,qA,qB,qC,D5,hF,hA,↓reduceIte,qD,qE, b5.2]; with_reducible rfl) ?_
  simp only [ds]
  refine VD.callR (by simp only [D6,D5,hF,hA,↓reduceIte,qD,qE]; try rfl) (f22_ok (h.grow g15) hs) (by simp only [D6,D5,hF,hA,↓reduceIte,qD,qE]; try rfl) (fun w6 H6 ⟨g6, cb, bb, rb, nb, hw6, tv6⟩ => ?_)
  subst hw6
  have b6 := b5.grow g6
  have c6 := c5.grow g6
  have g16 := g15.trans g6
  refine VD.dins 1 (by simp +contextual (disch := first|omega|simp only [nx];omega) only [D4,qF,qG,qA,qB,qC,D5,hF,hA,↓reduceIte,qD,qE, c6.2]; with_reducible rfl) ?_
  simp only [ds]
  refine VD.callR (by simp only [D6,D5,hF,hA,↓reduceIte,qD,qE]; try rfl) (f24_ok (hx.grow g16) hsx) (by simp only [D6,D5,hF,hA,↓reduceIte,qD,qE]; try rfl) (fun w7 H7 ⟨g7, fb, eb, db, ob, hw7, xv7⟩ => ?_)
  subst hw7
  have b7 := b6.grow g7
  have c7 := c6.grow g7
  have g17 := g16.trans g7
  refine VD.callR (by simp only [D6,D5,hF,hA,↓reduceIte,qD,qE]; try rfl) (f23_ok (tv6.grow g7) xv7 hs hsx) (by simp only [D6,D5,hF,hA,↓reduceIte,qD,qE]; try rfl) (fun w8 H8 ⟨g8, o8⟩ => ?_)
  have b8 := b7.grow g8
  have c8 := c7.grow g8
  have g18 := g17.trans g8
  obtain ⟨s, cb, er, hw8, h8⟩ : ∃ (s : Value) (cb : Bool) (er : Int), w8 = .tuple ⟨[s, .bool cb, I er]⟩ ∧ ((flt T ≠ 0 ∧ s = .slice none 0 0 ∧ cb = false ∧ er = flt T) ∨ (flt T = 0 ∧ ¬ hld T X ∧ s = .slice none 0 0 ∧ cb = false ∧ er = 2) ∨ (flt T = 0 ∧ hld T X ∧ cb = decide (cn T X T.B.length) ∧ er = 0 ∧ Nest RI H8 s (szs X (T.B.length + 1)))) := by
    rcases o8 with ⟨h1, h2⟩ | ⟨h1, h2, h3⟩ | ⟨h1, h2, s, h3, h4⟩
    · exact ⟨_, _, _, h2, .inl ⟨h1, rfl, rfl, rfl⟩⟩
    · exact ⟨_, _, _, h3, .inr (.inl ⟨h1, h2, rfl, rfl, rfl⟩)⟩
    · exact ⟨_, _, _, h3, .inr (.inr ⟨h1, h2, rfl, rfl, h4⟩)⟩
  subst hw8
  clear o8
  refine VD.lineD' (by simp +contextual (disch := first|omega|simp only [nx];omega) only [D4,qF,qG,qA,qB,qC,D5,hF,hA,↓reduceIte,qD,qE]; with_reducible rfl) ?_ ?_ rfl ?_
  · have m6 := g6.1
    have m7 := g7.1
    have m8 := g8.1
    simp only [monoG, List.cons_append, List.nil_append, Heap.next_set, Heap.next_alloc, Nat.le_refl, true_and, and_true] <;> omega
  · simp only [dcAll, dcOk, wantD, List.cons_append, List.nil_append, true_and, and_true]
    exact fun _ q hq => by simp only [List.mem_cons, List.not_mem_nil, or_false] at hq; (repeat (rcases hq with rfl | hq; exact ⟨_, _, _, rfl, (by simp +contextual (disch := first|omega|simp only [nx];omega) only [D4,qF,qG,qA,qB,qC,D5,hF,hA,↓reduceIte,qD,qE, c5.2, c6.2, c7.2]; with_reducible rfl), fun p hp => by cases hp; simp only [D5,hF,hA,↓reduceIte,qD,qE]; first | exact vEq_An | (simp [vEq, vEq0, all2]; done) | assumption⟩)); (try (subst hq; exact ⟨_, _, _, rfl, (by simp +contextual (disch := first|omega|simp only [nx];omega) only [D4,qF,qG,qA,qB,qC,D5,hF,hA,↓reduceIte,qD,qE, c5.2, c6.2, c7.2]; with_reducible rfl), fun p hp => by cases hp; simp only [D5,hF,hA,↓reduceIte,qD,qE]; first | exact vEq_An | (simp [vEq, vEq0, all2]; done) | assumption⟩))
  (repeat first|apply V.seq|apply V.block|apply V.scope|apply V.skip|apply V.close)
  refine V.re [(2, .pointer (some ⟨H.next, 0, none⟩)), (3, .pointer (some ⟨H.next + 1, 0, none⟩)), (5, I (flt T)), (6, s), (7, .bool cb), (8, I er)] (N := 105) (by intro i; simp only [full_st, hF]) (by simp only [Kn, D5,hF,hA,↓reduceIte,qD,qE, and_self, and_true, true_and]; try (repeat' constructor)) ?_
  clear hF hA
  intro t hF hA
  simp only [Kn, and_true] at hA
  refine V.draw ?_
  refine VD.dins 1 (by simp +contextual (disch := first|omega|simp only [nx];omega) only [D4,qF,qG,qA,qB,qC,D5,hF,hA,↓reduceIte,qD,qE, b8.2]; with_reducible rfl) ?_
  simp only [ds]
  refine VD.callR (by simp only [D6,D5,hF,hA,↓reduceIte,qD,qE]; try rfl) (f22_ok (h.grow g18) hs) (by simp only [D6,D5,hF,hA,↓reduceIte,qD,qE]; try rfl) (fun w9 H9 ⟨g9, cc, bc, rc, nc, hw9, tv9⟩ => ?_)
  subst hw9
  have b9 := b8.grow g9
  have c9 := c8.grow g9
  have g19 := g18.trans g9
  refine VD.dins 1 (by simp +contextual (disch := first|omega|simp only [nx];omega) only [D4,qF,qG,qA,qB,qC,D5,hF,hA,↓reduceIte,qD,qE, c9.2]; with_reducible rfl) ?_
  simp only [ds]
  refine VD.callR (by simp only [D6,D5,hF,hA,↓reduceIte,qD,qE]; try rfl) (f24_ok (hx.grow g19) hsx) (by simp only [D6,D5,hF,hA,↓reduceIte,qD,qE]; try rfl) (fun wa Ha ⟨ga, fa, ea, da, oa, hwa, xva⟩ => ?_)
  subst hwa
  have ba := b9.grow ga
  have ca' := c9.grow ga
  have g1a := g19.trans ga
  refine VD.callA (by simp only [D6,D5,hF,hA,↓reduceIte,qD,qE]; try rfl) (f25_ok (tv9.grow ga) xva hs hsx) (by simp only [D6,D5,hF,hA,↓reduceIte,qD,qE]; try rfl) (fun Hb gb => ?_)
  have bb' := ba.grow gb
  have cb' := ca'.grow gb
  have g1b := g1a.trans gb
  refine VD.lineD' (by simp +contextual (disch := first|omega|simp only [nx];omega) only [D4,qF,qG,qA,qB,qC,D5,hF,hA,↓reduceIte,qD,qE]; with_reducible rfl) ?_ ?_ rfl ?_
  · have m6 := g9.1
    have m7 := ga.1
    have m8 := gb.1
    simp only [monoG, List.cons_append, List.nil_append, Heap.next_set, Heap.next_alloc, Nat.le_refl, true_and, and_true] <;> omega
  · simp only [dcAll, dcOk, wantD, List.cons_append, List.nil_append, true_and, and_true]
    exact fun _ q hq => by simp only [List.mem_cons, List.not_mem_nil, or_false] at hq; (repeat (rcases hq with rfl | hq; exact ⟨_, _, _, rfl, (by simp +contextual (disch := first|omega|simp only [nx];omega) only [D4,qF,qG,qA,qB,qC,D5,hF,hA,↓reduceIte,qD,qE, c8.2, c9.2, ca'.2]; with_reducible rfl), fun p hp => by cases hp; simp only [D5,hF,hA,↓reduceIte,qD,qE]; first | exact vEq_An | (simp [vEq, vEq0, all2]; done) | assumption⟩)); (try (subst hq; exact ⟨_, _, _, rfl, (by simp +contextual (disch := first|omega|simp only [nx];omega) only [D4,qF,qG,qA,qB,qC,D5,hF,hA,↓reduceIte,qD,qE, c8.2, c9.2, ca'.2]; with_reducible rfl), fun p hp => by cases hp; simp only [D5,hF,hA,↓reduceIte,qD,qE]; first | exact vEq_An | (simp [vEq, vEq0, all2]; done) | assumption⟩))
  (repeat first|apply V.seq|apply V.block|apply V.scope|apply V.skip|apply V.close)
  refine V.re [(2, .pointer (some ⟨H.next, 0, none⟩)), (3, .pointer (some ⟨H.next + 1, 0, none⟩)), (5, I (flt T)), (6, s), (7, .bool cb), (8, I er), (9, .bool (decide (prv T X)))] (N := 105) (by intro i; simp only [full_st, hF]) (by simp only [Kn, D5,hF,hA,↓reduceIte,qD,qE, and_self, and_true, true_and]; try (repeat' constructor)) ?_
  clear hF hA
  intro t hF hA
  simp only [Kn, and_true] at hA
  refine V.run ?_
  refine VI.steps' 1 (by simp +contextual (disch := first|omega|simp only [nx];omega) only [D4,qF,qG,qA,qB,qC,D5,hF,hA,↓reduceIte,qD,qE, bb'.2]; with_reducible rfl) ?_
  simp only [ds]
  refine VI.callA rfl (f26_ok (h.grow g1b)) (by simp only [D6,D5,hF,hA,↓reduceIte,qD,qE]; try rfl) (fun Hc gc => ?_)
  have bc' := bb'.grow gc
  have cc' := cb'.grow gc
  have g1c := g1b.trans gc
  refine VI.line' (by simp +contextual (disch := first|omega|simp only [nx];omega) only [D4,qF,qG,qA,qB,qC,D5,hF,hA,↓reduceIte,qD,qE]; with_reducible rfl) ?_
  (repeat first|apply V.seq|apply V.block|apply V.scope|apply V.skip|apply V.close)
  refine V.line' (by simp +contextual (disch := first|omega|simp only [nx];omega) only [D4,qF,qG,qA,qB,qC,D5,hF,hA,↓reduceIte,qD,qE, ne_eq, not_true_eq_false]; with_reducible rfl) ?_
  (repeat first|apply V.seq|apply V.block|apply V.scope|apply V.skip|apply V.close)
  refine V.condF (by simp only [D6,D5,hF,hA,↓reduceIte,qD,qE]) ?_
  (repeat first|apply V.seq|apply V.block|apply V.scope|apply V.skip|apply V.close)
  refine V.run ?_
  refine VI.steps' 5 (by simp +contextual (disch := first|omega|simp only [nx];omega) only [D4,qF,qG,qA,qB,qC,D5,hF,hA,↓reduceIte,qD,qE, bc'.2, cc'.2]; with_reducible rfl) ?_
  simp only [ds]
  first | refine VI.callGt (by simp only [D5,hF,hA,↓reduceIte,qD,qE]; try rfl) (fun hc => by simp only [D6,D5,hF,hA,↓reduceIte,qD,qE, hc, and_self, and_true, true_and, not_false_eq_true]; try rfl) (fun hc => f27_ok (h.grow g1c) (hx.grow g1c) (flt_0.1 hc).1 (flt_0.1 hc).2) (fun hc => by simp only [D6,D5,hF,hA,↓reduceIte,qD,qE, hc, and_self, and_true, true_and, not_false_eq_true]; try rfl) (fun Hd gd => ?_) | refine VI.callGf (by simp only [D5,hF,hA,↓reduceIte,qD,qE]; try rfl) (fun hc => by simp only [D6,D5,hF,hA,↓reduceIte,qD,qE, hc, and_self, and_true, true_and, not_false_eq_true]; try rfl) (fun hc => f27_ok (h.grow g1c) (hx.grow g1c) (flt_0.1 hc).1 (flt_0.1 hc).2) (fun hc => by simp only [D6,D5,hF,hA,↓reduceIte,qD,qE, hc, and_self, and_true, true_and, not_false_eq_true]; try rfl) (fun Hd gd => ?_)
  have bd := bc'.grow gd
  have cd' := cc'.grow gd
  have g1d := g1c.trans gd
  refine VI.line' (by simp +contextual (disch := first|omega|simp only [nx];omega) only [D4,qF,qG,qA,qB,qC,D5,hF,hA,↓reduceIte,qD,qE]; with_reducible rfl) ?_
  (repeat first|apply V.seq|apply V.block|apply V.scope|apply V.skip|apply V.close)
  have g8d : Grow H8 Hd := (((g9.trans ga).trans gb).trans gc).trans gd
  rcases h8 with ⟨hf, rfl, rfl, rfl⟩ | ⟨hf, hh, rfl, rfl, rfl⟩ | ⟨hf, hh, rfl, rfl, hn⟩
  · have hnp : ¬ prv T X := fun q => hf q.1
    have hls : ∀ (X : Heap) p n c, ylen 0 X (.slice p n c) = some (I n) := fun _ _ _ _ => rfl
    refine V.condF (by simp [D6,D5,hF,hA,↓reduceIte,qD,qE, hf]) ?_
    (repeat first|apply V.seq|apply V.block|apply V.scope|apply V.skip|apply V.close)
    refine V.line' (by simp +contextual (disch := first|omega|simp only [nx];omega) only [D4,qF,qG,qA,qB,qC,D5,hF,hA,↓reduceIte,qD,qE]; with_reducible rfl) ?_
    (repeat first|apply V.seq|apply V.block|apply V.scope|apply V.skip|apply V.close)
    refine V.condP (by simp only [D6,D5,hF,hA,↓reduceIte,qD,qE]; rfl) (fun h0 => ?_) (fun h0 => ?_)
    · (repeat first|apply V.seq|apply V.block|apply V.scope|apply V.skip|apply V.close)
      refine V.run ?_
      refine VI.steps' 9 (by simp +contextual (disch := first|omega|simp only [nx];omega) only [D4,qF,qG,qA,qB,qC,D5,hF,hA,↓reduceIte,qD,qE, hls]; with_reducible rfl) ?_
      simp only [ds]
      refine VI.steps' 8 (by simp +contextual (disch := first|omega|simp only [nx];omega) only [D4,qF,qG,qA,qB,qC,D5,hF,hA,↓reduceIte,qD,qE, hnp]; with_reducible rfl) ?_
      simp only [ds]
      refine VI.callAT (by simp only [D5,hF,hA,↓reduceIte,qD,qE]; try rfl) rfl (f20_ok _) (by simp only [D6,D5,hF,hA,↓reduceIte,qD,qE]; try rfl) (fun He ge => ?_)
      refine VI.line' (by simp +contextual (disch := first|omega|simp only [nx];omega) only [D4,qF,qG,qA,qB,qC,D5,hF,hA,↓reduceIte,qD,qE]; with_reducible rfl) ?_
      (repeat first|apply V.seq|apply V.block|apply V.scope|apply V.skip|apply V.close)
      refine V.ret (V.rets rfl (Lv.retF (by simp +contextual (disch := first|omega|simp only [nx];omega) only [D1, cells_alloc_at, cells_alloc_ne, cells_set_at, cells_set_ne, yres, yres1, yresL, qA, qB, qC, D5,hF,hA,↓reduceIte,qD,qE]; rfl) ?_))
      rfl
    · exact absurd hf h0
  · have hnp : ¬ prv T X := fun q => hh q.2.1
    have hls : ∀ (X : Heap) p n c, ylen 0 X (.slice p n c) = some (I n) := fun _ _ _ _ => rfl
    refine V.condT (by simp [D6,D5,hF,hA,↓reduceIte,qD,qE, hf, hh]) ?_
    (repeat first|apply V.seq|apply V.block|apply V.scope|apply V.skip|apply V.close)
    refine V.line' (by simp +contextual (disch := first|omega|simp only [nx];omega) only [D4,qF,qG,qA,qB,qC,D5,hF,hA,↓reduceIte,qD,qE]; with_reducible rfl) ?_
    (repeat first|apply V.seq|apply V.block|apply V.scope|apply V.skip|apply V.close)
    refine V.line' (by simp +contextual (disch := first|omega|simp only [nx];omega) only [D4,qF,qG,qA,qB,qC,D5,hF,hA,↓reduceIte,qD,qE, ne_eq, not_false_eq_true]; with_reducible rfl) ?_
    (repeat first|apply V.seq|apply V.block|apply V.scope|apply V.skip|apply V.close)
    refine V.condT (by simp only [D6,D5,hF,hA,↓reduceIte,qD,qE]) ?_
    (repeat first|apply V.seq|apply V.block|apply V.scope|apply V.skip|apply V.close)
    refine V.run ?_
    refine VI.steps' 9 (by simp +contextual (disch := first|omega|simp only [nx];omega) only [D4,qF,qG,qA,qB,qC,D5,hF,hA,↓reduceIte,qD,qE, hls]; with_reducible rfl) ?_
    simp only [ds]
    refine VI.steps' 8 (by simp +contextual (disch := first|omega|simp only [nx];omega) only [D4,qF,qG,qA,qB,qC,D5,hF,hA,↓reduceIte,qD,qE, hnp]; with_reducible rfl) ?_
    simp only [ds]
    refine VI.callAT (by simp only [D5,hF,hA,↓reduceIte,qD,qE]; try rfl) rfl (f20_ok _) (by simp only [D6,D5,hF,hA,↓reduceIte,qD,qE]; try rfl) (fun He ge => ?_)
    refine VI.line' (by simp +contextual (disch := first|omega|simp only [nx];omega) only [D4,qF,qG,qA,qB,qC,D5,hF,hA,↓reduceIte,qD,qE]; with_reducible rfl) ?_
    (repeat first|apply V.seq|apply V.block|apply V.scope|apply V.skip|apply V.close)
    refine V.ret (V.rets rfl (Lv.retF (by simp +contextual (disch := first|omega|simp only [nx];omega) only [D1, cells_alloc_at, cells_alloc_ne, cells_set_at, cells_set_ne, yres, yres1, yresL, qA, qB, qC, D5,hF,hA,↓reduceIte,qD,qE]; rfl) ?_))
    rfl
  · obtain ⟨hft, hv⟩ := flt_0.1 hf
    have hrl := rw_len hv hh
    have hpq : decide (prv T X) = decide (cn T X T.B.length ∧ ags T.C (szs X (T.B.length + 1))) := by
      rw [decide_eq_decide]
      exact ⟨fun q => q.2.2, fun q => ⟨hf, hh, q⟩⟩
    have hsl : (szs X (T.B.length + 1)).length = T.C.length := by rw [szs_len]; exact hv.2.1
    have hrows : ∀ row ∈ szs X (T.B.length + 1), row.length = grp T := by
      intro row hr
      obtain ⟨k, hk, rfl⟩ := List.mem_map.1 hr
      exact hrl k (by have := List.mem_range.1 hk; omega)
    have hg4 := hft.2
    have hg5 := hft.1
    refine V.condF (by simp [D6,D5,hF,hA,↓reduceIte,qD,qE, hf, hh]) ?_
    (repeat first|apply V.seq|apply V.block|apply V.scope|apply V.skip|apply V.close)
    refine V.line' (by simp +contextual (disch := first|omega|simp only [nx];omega) only [D4,qF,qG,qA,qB,qC,D5,hF,hA,↓reduceIte,qD,qE, hf, ne_eq, not_true_eq_false]; with_reducible rfl) ?_
    (repeat first|apply V.seq|apply V.block|apply V.scope|apply V.skip|apply V.close)
    refine V.condF (by simp only [D6,D5,hF,hA,↓reduceIte,qD,qE]) ?_
    (repeat first|apply V.seq|apply V.block|apply V.scope|apply V.skip|apply V.close)
    refine V.run ?_
    refine VI.steps' 2 (by simp +contextual (disch := first|omega|simp only [nx];omega) only [D4,qF,qG,qA,qB,qC,D5,hF,hA,↓reduceIte,qD,qE, bd.2, cd'.2]; with_reducible rfl) ?_
    simp only [ds]
    refine VI.callR (by simp only [D6,D5,hF,hA,↓reduceIte,qD,qE]; try rfl) (f28_ok (h.grow g1d) (hx.grow g1d) hft hv hh) (by simp only [D6,D5,hF,hA,↓reduceIte,qD,qE]; try rfl) (fun we He ⟨ge, s2, hwe, hn2⟩ => ?_)
    subst hwe
    have be := bd.grow ge
    refine VI.line' (by simp +contextual (disch := first|omega|simp only [nx];omega) only [D4,qF,qG,qA,qB,qC,D5,hF,hA,↓reduceIte,qD,qE]; with_reducible rfl) ?_
    (repeat first|apply V.seq|apply V.block|apply V.scope|apply V.skip|apply V.close)
    have hn8 := hn.grow ri (g8d.trans ge)
    have e1 : decide (szs X (T.B.length + 1) = szs X (T.B.length + 1)) = true := by simp
    refine V.run ?_
    refine VI.steps' 5 (by simp +contextual (disch := first|omega|simp only [nx];omega) only [D4,qF,qG,qA,qB,qC,D5,hF,hA,↓reduceIte,qD,qE]; with_reducible rfl) ?_
    simp only [ds]
    refine VI.callAT (by simp only [D5,hF,hA,↓reduceIte,qD,qE]; try rfl) rfl (f29_ok hn8 hn2 (by omega) (fun row hr => by have := hrows row hr; omega)) (by simp only [D6,D5,hF,hA,↓reduceIte,qD,qE]; try rfl) (fun Hf gf => ?_)
    have bf := be.grow gf
    have e2 := eqb4 (x := decide (cn T X T.B.length)) rfl
    refine VI.steps' 6 (by simp +contextual (disch := first|omega|simp only [nx];omega) only [D4,qF,qG,qA,qB,qC,D5,hF,hA,↓reduceIte,qD,qE, e1, e2]; with_reducible rfl) ?_
    simp only [ds]
    refine VI.steps' 4 (by simp +contextual (disch := first|omega|simp only [nx];omega) only [D4,qF,qG,qA,qB,qC,D5,hF,hA,↓reduceIte,qD,qE]; with_reducible rfl) ?_
    simp only [ds]
    refine VI.steps' 3 (by simp +contextual (disch := first|omega|simp only [nx];omega) only [D4,qF,qG,qA,qB,qC,D5,hF,hA,↓reduceIte,qD,qE, bf.2]; with_reducible rfl) ?_
    simp only [ds]
    have hn2f := hn2.grow ri gf
    first | refine VI.callGt (by simp only [D5,hF,hA,↓reduceIte,qD,qE]; try rfl) (fun hc => by simp only [D6,D5,hF,hA,↓reduceIte,qD,qE, hc, and_self, and_true, true_and, not_false_eq_true]; try rfl) (fun hc => f30_ok (h.grow ((g1d.trans ge).trans gf)) hn2f hft hv hsl hrows) (fun hc => by simp only [D6,D5,hF,hA,↓reduceIte,qD,qE, hc, and_self, and_true, true_and, not_false_eq_true]; try rfl) (fun Hg gg => ?_) | refine VI.callGf (by simp only [D5,hF,hA,↓reduceIte,qD,qE]; try rfl) (fun hc => by simp only [D6,D5,hF,hA,↓reduceIte,qD,qE, hc, and_self, and_true, true_and, not_false_eq_true]; try rfl) (fun hc => f30_ok (h.grow ((g1d.trans ge).trans gf)) hn2f hft hv hsl hrows) (fun hc => by simp only [D6,D5,hF,hA,↓reduceIte,qD,qE, hc, and_self, and_true, true_and, not_false_eq_true]; try rfl) (fun Hg gg => ?_)
    have e3 := eqb4 hpq
    refine VI.steps' 4 (by simp +contextual (disch := first|omega|simp only [nx];omega) only [D4,qF,qG,qA,qB,qC,D5,hF,hA,↓reduceIte,qD,qE, e3]; with_reducible rfl) ?_
    simp only [ds]
    refine VI.callAT (by simp only [D5,hF,hA,↓reduceIte,qD,qE]; try rfl) rfl (f20_ok _) (by simp only [D6,D5,hF,hA,↓reduceIte,qD,qE]; try rfl) (fun Hh gh => ?_)
    refine VI.line' (by simp +contextual (disch := first|omega|simp only [nx];omega) only [D4,qF,qG,qA,qB,qC,D5,hF,hA,↓reduceIte,qD,qE]; with_reducible rfl) ?_
    (repeat first|apply V.seq|apply V.block|apply V.scope|apply V.skip|apply V.close)
    refine V.ret (V.rets rfl (Lv.retF (by simp +contextual (disch := first|omega|simp only [nx];omega) only [D1, cells_alloc_at, cells_alloc_ne, cells_set_at, cells_set_ne, yres, yres1, yresL, qA, qB, qC, D5,hF,hA,↓reduceIte,qD,qE]; rfl) ?_))
    rfl
end Go.Xe.TFX
