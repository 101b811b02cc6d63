/- What the functions of the layer flow come to: whether a truth is one, as the statements have it. Conditions: none. -/
import Derived.Test.YtcgnigeddgeffaaTGG
-- MOD TF
namespace Go.Xe.TFX
open Go Go.Xe Go.Proofs
open Nat renaming reduceLeDiff → qA, reduceSub → qB, reduceAdd → qC, reduceEqDiff → qD, reduceLT → qE
open Int renaming reduceNegSucc → qF, reduceEq → qG
open Go.Xe.Flw
set_option maxRecDepth 100000
set_option maxHeartbeats 6400000
set_option linter.unusedSimpArgs false
noncomputable def d27 : FCode := (.seq (.run (.go (.box 25 (.tmp (pth 0))) (pth 2)::
.go (.box 29 (.tmp (pth 1))) (pth 3)::
.go (.move (.con (.bool false))) (pth 4)::
[])) (.seq (.seq (.draw 33 (.go (.fieldAddr 0 (.tmp (pth 3))) (pth 8)::
.go (.load1 (.tmp (pth 8))) (pth 9)::
.go (.len 0 (.tmp (pth 9))) (pth 10)::
.go (.loadN 4 (.tmp (pth 2))) (pth 11)::
.go (.call (.con (.func (.func 34) ⟨[]⟩ ⟨[]⟩)) [(.tmp (pth 11))]) (pth 12)::
.go (.bin .neq 3 (.tmp (pth 10)) (.tmp (pth 12))) (pth 13)::
.go (.move (.tmp (pth 13))) (pth 14)::
.gd (pth 14) false (.fieldAddr 1 (.tmp (pth 3))) (pth 15)::
.gd (pth 14) false (.load1 (.tmp (pth 15))) (pth 16)::
.gd (pth 14) false (.len 0 (.tmp (pth 16))) (pth 17)::
.gd (pth 14) false (.fieldAddr 1 (.tmp (pth 2))) (pth 18)::
.gd (pth 14) false (.load1 (.tmp (pth 18))) (pth 19)::
.gd (pth 14) false (.len 0 (.tmp (pth 19))) (pth 20)::
.gd (pth 14) false (.bin .neq 3 (.tmp (pth 17)) (.tmp (pth 20))) (pth 21)::
.go (.pick (.tmp (pth 14)) (.con (.bool true)) (.tmp (pth 21))) (pth 22)::
.go (.move (.tmp (pth 22))) (pth 23)::
.gd (pth 23) false (.fieldAddr 2 (.tmp (pth 3))) (pth 24)::
.gd (pth 23) false (.load1 (.tmp (pth 24))) (pth 25)::
.gd (pth 23) false (.len 0 (.tmp (pth 25))) (pth 26)::
.gd (pth 23) false (.fieldAddr 1 (.tmp (pth 2))) (pth 27)::
.gd (pth 23) false (.load1 (.tmp (pth 27))) (pth 28)::
.gd (pth 23) false (.len 0 (.tmp (pth 28))) (pth 29)::
.gd (pth 23) false (.bin .neq 3 (.tmp (pth 26)) (.tmp (pth 29))) (pth 30)::
.go (.pick (.tmp (pth 23)) (.con (.bool true)) (.tmp (pth 30))) (pth 31)::
.go (.move (.tmp (pth 31))) (pth 32)::
.gd (pth 32) false (.fieldAddr 3 (.tmp (pth 3))) (pth 33)::
.gd (pth 32) false (.load1 (.tmp (pth 33))) (pth 34)::
.gd (pth 32) false (.len 0 (.tmp (pth 34))) (pth 35)::
.gd (pth 32) false (.fieldAddr 1 (.tmp (pth 2))) (pth 36)::
.gd (pth 32) false (.load1 (.tmp (pth 36))) (pth 37)::
.gd (pth 32) false (.len 0 (.tmp (pth 37))) (pth 38)::
.gd (pth 32) false (.bin .neq 3 (.tmp (pth 35)) (.tmp (pth 38))) (pth 39)::
.go (.pick (.tmp (pth 32)) (.con (.bool true)) (.tmp (pth 39))) (pth 40)::
[]) [.ok,.rd none (.load1 (.tmp (pth 8))) (some (pth 9)) [5],.rd none (.len 0 (.tmp (pth 9))) (some (pth 10)) [5],.ok,.ok,.ok,.ok,.ok,.ok,.ok,.ok,.ok,.ok,.ok,.ok,.ok,.ok,.ok,.ok,.ok,.ok,.ok,.ok,.ok,.ok,.ok,.ok,.ok,.ok,.ok,.ok,.ok,.ok]) (.cond (.tmp (pth 40)) (.seq (.run (.go (.move (.con (.bool false))) (pth 4)::
[])) .ret) .skip)) (.seq (.seq (.run (.go (.move (.con (.int .i64 (.ofNat 0)))) (pth 5)::
[])) (.block 0 (.loop (.seq (.seq (.run (.go (.move (.tmp (pth 5))) (pth 41)::
.go (.fieldAddr 0 (.tmp (pth 3))) (pth 42)::
.go (.load1 (.tmp (pth 42))) (pth 43)::
.go (.len 0 (.tmp (pth 43))) (pth 44)::
.go (.bin .lss 3 (.tmp (pth 41)) (.tmp (pth 44))) (pth 45)::
[])) (.cond (.tmp (pth 45)) .skip (.exit 0))) (.seq (.block 1 (.seq (.run (.go (.fieldAddr 0 (.tmp (pth 3))) (pth 48)::
.go (.load1 (.tmp (pth 48))) (pth 49)::
.go (.move (.tmp (pth 5))) (pth 50)::
.go (.indexAddr none 1 (.tmp (pth 49)) (.tmp (pth 50))) (pth 51)::
.go (.load1 (.tmp (pth 51))) (pth 52)::
.go (.call (.con (.func (.func 41) ⟨[]⟩ ⟨[]⟩)) [(.tmp (pth 52)),(.con (.int .i64 (.ofNat 0))),(.con (.int .i64 (.ofNat 500)))]) (pth 53)::
.go (.un .not (.tmp (pth 53))) (pth 54)::
[])) (.cond (.tmp (pth 54)) (.seq (.run (.go (.move (.con (.bool false))) (pth 4)::
[])) .ret) .skip))) (.run (.go (.move (.tmp (pth 5))) (pth 46)::
.go (.bin .add 3 (.tmp (pth 46)) (.con (.int .i64 (.ofNat 1)))) (pth 47)::
.go (.move (.tmp (pth 47))) (pth 5)::
[]))))))) (.seq (.seq (.run (.go (.move (.con (.int .i64 (.ofNat 0)))) (pth 6)::
[])) (.block 2 (.loop (.seq (.seq (.run (.go (.move (.tmp (pth 6))) (pth 55)::
.go (.fieldAddr 1 (.tmp (pth 2))) (pth 56)::
.go (.load1 (.tmp (pth 56))) (pth 57)::
.go (.len 0 (.tmp (pth 57))) (pth 58)::
.go (.bin .lss 3 (.tmp (pth 55)) (.tmp (pth 58))) (pth 59)::
[])) (.cond (.tmp (pth 59)) .skip (.exit 2))) (.seq (.block 3 (.seq (.seq (.draw 42 (.go (.fieldAddr 1 (.tmp (pth 3))) (pth 62)::
.go (.load1 (.tmp (pth 62))) (pth 63)::
.go (.move (.tmp (pth 6))) (pth 64)::
.go (.indexAddr none 1 (.tmp (pth 63)) (.tmp (pth 64))) (pth 65)::
.go (.load1 (.tmp (pth 65))) (pth 66)::
.go (.fieldAddr 1 (.tmp (pth 2))) (pth 67)::
.go (.load1 (.tmp (pth 67))) (pth 68)::
.go (.move (.tmp (pth 6))) (pth 69)::
.go (.indexAddr none 2 (.tmp (pth 68)) (.tmp (pth 69))) (pth 70)::
.go (.fieldAddr 0 (.tmp (pth 70))) (pth 71)::
.go (.load1 (.tmp (pth 71))) (pth 72)::
.go (.fieldAddr 1 (.tmp (pth 2))) (pth 73)::
.go (.load1 (.tmp (pth 73))) (pth 74)::
.go (.move (.tmp (pth 6))) (pth 75)::
.go (.indexAddr none 2 (.tmp (pth 74)) (.tmp (pth 75))) (pth 76)::
.go (.fieldAddr 1 (.tmp (pth 76))) (pth 77)::
.go (.load1 (.tmp (pth 77))) (pth 78)::
.go (.call (.con (.func (.func 41) ⟨[]⟩ ⟨[]⟩)) [(.tmp (pth 66)),(.tmp (pth 72)),(.tmp (pth 78))]) (pth 79)::
.go (.un .not (.tmp (pth 79))) (pth 80)::
.go (.move (.tmp (pth 80))) (pth 81)::
.gd (pth 81) false (.fieldAddr 2 (.tmp (pth 3))) (pth 82)::
.gd (pth 81) false (.load1 (.tmp (pth 82))) (pth 83)::
.gd (pth 81) false (.move (.tmp (pth 6))) (pth 84)::
.gd (pth 81) false (.indexAddr none 1 (.tmp (pth 83)) (.tmp (pth 84))) (pth 85)::
.gd (pth 81) false (.load1 (.tmp (pth 85))) (pth 86)::
.gd (pth 81) false (.len 0 (.tmp (pth 86))) (pth 87)::
.gd (pth 81) false (.loadN 4 (.tmp (pth 2))) (pth 88)::
.gd (pth 81) false (.call (.con (.func (.func 34) ⟨[]⟩ ⟨[]⟩)) [(.tmp (pth 88))]) (pth 89)::
.gd (pth 81) false (.bin .add 3 (.tmp (pth 89)) (.con (.int .i64 (.ofNat 1)))) (pth 90)::
.gd (pth 81) false (.bin .neq 3 (.tmp (pth 87)) (.tmp (pth 90))) (pth 91)::
.go (.pick (.tmp (pth 81)) (.con (.bool true)) (.tmp (pth 91))) (pth 92)::
.go (.move (.tmp (pth 92))) (pth 93)::
.gd (pth 93) false (.fieldAddr 3 (.tmp (pth 3))) (pth 94)::
.gd (pth 93) false (.load1 (.tmp (pth 94))) (pth 95)::
.gd (pth 93) false (.move (.tmp (pth 6))) (pth 96)::
.gd (pth 93) false (.indexAddr none 1 (.tmp (pth 95)) (.tmp (pth 96))) (pth 97)::
.gd (pth 93) false (.load1 (.tmp (pth 97))) (pth 98)::
.gd (pth 93) false (.len 0 (.tmp (pth 98))) (pth 99)::
.gd (pth 93) false (.loadN 4 (.tmp (pth 2))) (pth 100)::
.gd (pth 93) false (.call (.con (.func (.func 34) ⟨[]⟩ ⟨[]⟩)) [(.tmp (pth 100))]) (pth 101)::
.gd (pth 93) false (.bin .neq 3 (.tmp (pth 99)) (.tmp (pth 101))) (pth 102)::
.go (.pick (.tmp (pth 93)) (.con (.bool true)) (.tmp (pth 102))) (pth 103)::
[]) [.ok,.ok,.ok,.ok,.ok,.ok,.ok,.ok,.ok,.ok,.ok,.ok,.ok,.ok,.ok,.ok,.ok,.ok,.ok,.ok,.ok,.rd (some ((pth 81),false)) (.load1 (.tmp (pth 82))) (some (pth 83)) [28],.ok,.ok,.rd (some ((pth 81),false)) (.load1 (.tmp (pth 85))) (some (pth 86)) [28],.rd (some ((pth 81),false)) (.len 0 (.tmp (pth 86))) (some (pth 87)) [28],.ok,.ok,.ok,.ok,.ok,.ok,.ok,.rd (some ((pth 93),false)) (.load1 (.tmp (pth 94))) (some (pth 95)) [40],.ok,.ok,.rd (some ((pth 93),false)) (.load1 (.tmp (pth 97))) (some (pth 98)) [40],.rd (some ((pth 93),false)) (.len 0 (.tmp (pth 98))) (some (pth 99)) [40],.ok,.ok,.ok,.ok]) (.cond (.tmp (pth 103)) (.seq (.run (.go (.move (.con (.bool false))) (pth 4)::
[])) .ret) .skip)) (.seq (.run (.go (.move (.con (.int .i64 (.ofNat 0)))) (pth 7)::
[])) (.block 4 (.loop (.seq (.seq (.run (.go (.move (.tmp (pth 7))) (pth 104)::
.go (.loadN 4 (.tmp (pth 2))) (pth 105)::
.go (.call (.con (.func (.func 34) ⟨[]⟩ ⟨[]⟩)) [(.tmp (pth 105))]) (pth 106)::
.go (.bin .lss 3 (.tmp (pth 104)) (.tmp (pth 106))) (pth 107)::
[])) (.cond (.tmp (pth 107)) .skip (.exit 4))) (.seq (.block 5 (.seq (.draw 22 (.go (.fieldAddr 3 (.tmp (pth 3))) (pth 110)::
.go (.load1 (.tmp (pth 110))) (pth 111)::
.go (.move (.tmp (pth 6))) (pth 112)::
.go (.indexAddr none 1 (.tmp (pth 111)) (.tmp (pth 112))) (pth 113)::
.go (.load1 (.tmp (pth 113))) (pth 114)::
.go (.move (.tmp (pth 7))) (pth 115)::
.go (.indexAddr none 1 (.tmp (pth 114)) (.tmp (pth 115))) (pth 116)::
.go (.load1 (.tmp (pth 116))) (pth 117)::
.go (.fieldAddr 3 (.tmp (pth 2))) (pth 118)::
.go (.load1 (.tmp (pth 118))) (pth 119)::
.go (.move (.tmp (pth 7))) (pth 120)::
.go (.indexAddr none 2 (.tmp (pth 119)) (.tmp (pth 120))) (pth 121)::
.go (.fieldAddr 0 (.tmp (pth 121))) (pth 122)::
.go (.load1 (.tmp (pth 122))) (pth 123)::
.go (.fieldAddr 3 (.tmp (pth 2))) (pth 124)::
.go (.load1 (.tmp (pth 124))) (pth 125)::
.go (.move (.tmp (pth 7))) (pth 126)::
.go (.indexAddr none 2 (.tmp (pth 125)) (.tmp (pth 126))) (pth 127)::
.go (.fieldAddr 1 (.tmp (pth 127))) (pth 128)::
.go (.load1 (.tmp (pth 128))) (pth 129)::
.go (.call (.con (.func (.func 41) ⟨[]⟩ ⟨[]⟩)) [(.tmp (pth 117)),(.tmp (pth 123)),(.tmp (pth 129))]) (pth 130)::
.go (.un .not (.tmp (pth 130))) (pth 131)::
[]) [.ok,.ok,.ok,.ok,.ok,.ok,.ok,.ok,.ok,.ok,.ok,.ok,.ok,.ok,.ok,.ok,.ok,.ok,.ok,.ok,.ok,.ok]) (.cond (.tmp (pth 131)) (.seq (.run (.go (.move (.con (.bool false))) (pth 4)::
[])) .ret) .skip))) (.run (.go (.move (.tmp (pth 7))) (pth 108)::
.go (.bin .add 3 (.tmp (pth 108)) (.con (.int .i64 (.ofNat 1)))) (pth 109)::
.go (.move (.tmp (pth 109))) (pth 7)::
[]))))))))) (.run (.go (.move (.tmp (pth 6))) (pth 60)::
.go (.bin .add 3 (.tmp (pth 60)) (.con (.int .i64 (.ofNat 1)))) (pth 61)::
.go (.move (.tmp (pth 61))) (pth 6)::
[]))))))) (.seq (.run (.go (.move (.con (.bool true))) (pth 4)::
[])) .ret)))))
theorem de27 : @compF Try.prog (Gl.none Try.prog) Try.f27 2 = .mk d27 (mkTT 132) [(pth 0),(pth 1)] [.tmp (pth 4)] := by kernel_rfl
theorem dg27 : Try.prog.funcs[27]? = some Try.f27 := Try.func27
theorem do27 : okF Try.prog Try.f27 = true := by kernel_rfl
def one (T : Tb) (X : Tr) (k : Nat) : Prop := ((T.B.getD k (0, 0)).1 ≤ X.B.getD k 0 ∧ X.B.getD k 0 ≤ (T.B.getD k (0, 0)).2) ∧ (X.D.getD k []).length = grp T + 1 ∧ alI T.N (X.M.getD k [])
theorem hld_of {T : Tb} {X : Tr} (hv : val T) (h1 : X.F.length = grp T) (h2 : X.B.length = T.B.length) (h3 : X.D.length = T.B.length) (h4 : X.M.length = T.B.length) (h5 : okFs X.F) (h6 : ∀ k, k < T.B.length → one T X k) : hld T X := by
  refine ⟨h1, h5, ⟨h2.symm, ?_⟩, h3, ?_, h4, ?_⟩
  · intro p hp
    obtain ⟨k, hk, rfl⟩ := List.mem_iff_getElem.1 hp
    rw [List.length_zip] at hk
    have := (h6 k (by omega)).1
    rw [List.getElem_zip]
    rw [getD_at (by omega)] at this
    simp only [List.getD_eq_getElem?_getD, List.getElem?_eq_getElem (show k < T.B.length by omega), Option.getD_some] at this
    exact this
  · intro row hr
    obtain ⟨k, hk, rfl⟩ := List.mem_iff_getElem.1 hr
    have := (h6 k (by omega)).2.1
    rw [getD_nest hk] at this
    have := hv.2.2.1
    omega
  · intro row hr
    obtain ⟨k, hk, rfl⟩ := List.mem_iff_getElem.1 hr
    have := (h6 k (by omega)).2.2
    rw [getD_nest hk] at this
    exact this
theorem one_of {T : Tb} {X : Tr} (hv : val T) (h : hld T X) {k : Nat} (hk : k < T.B.length) : one T X k := by
  obtain ⟨h1, h2, h3, h4, h5, h6, h7⟩ := h
  have lB : k < X.B.length := by have := h3.1; omega
  have lD : k < X.D.length := by omega
  have lM : k < X.M.length := by omega
  refine ⟨?_, ?_, ?_⟩
  · have := h3.2 (T.B[k], X.B[k]) (List.mem_iff_getElem.2 ⟨k, by rw [List.length_zip]; omega, List.getElem_zip ..⟩)
    rw [getD_at lB]
    simp only [List.getD_eq_getElem?_getD, List.getElem?_eq_getElem hk, Option.getD_some]
    exact this
  · rw [getD_nest lD]
    have := h5 _ (List.getElem_mem lD)
    have := hv.2.2.1
    omega
  · rw [getD_nest lM]
    exact h7 _ (List.getElem_mem lM)
theorem f27_ok {H : Heap} {c b r n f e d o : Value} {T : Tb} {X : Tr} (h : TV H c b r n T) (hx : XV H f e d o X) (hft : fit T) (hv : val T) : Gives Try.prog 27 [.agg ⟨[c, b, r, n]⟩, .agg ⟨[f, e, d, o]⟩] H (.bool (decide (hld T X))) := by
  have hlb : ∀ X, ylen 0 X b = some (I T.B.length) := h.b.len
  have hlf : ∀ Z, ylen 0 Z f = some (I X.F.length) := hx.f.len
  have hle : ∀ Z, ylen 0 Z e = some (I X.B.length) := hx.b.len
  have hld' : ∀ Z, ylen 0 Z d = some (I X.D.length) := hx.d.len
  have hlm : ∀ Z, ylen 0 Z o = some (I X.M.length) := hx.m.len
  have t1 := hft.1
  have t2 := hft.2
  have v2 := hv.2.1
  have v4 := hv.2.2.2.1
  refine F.entryL rfl dg27 do27 de27 rfl (by kernel_rfl) ?_
  simp only [sets]
  refine V.re [(0, .agg ⟨[c, b, r, n]⟩), (1, .agg ⟨[f, e, d, o]⟩)] (N := 132) (by intro i; simp only [full_st, Full.mk]) (by simp only [Kn, gt_st, full_st, Full.mk, ↓reduceIte, qD, qE, decide_true, and_self]) ?_
  intro t hF hA
  simp only [Kn, and_true] at hA
  (repeat first|apply V.seq|apply V.block|apply V.scope|apply V.skip|apply V.close)
  refine V.line' (by simp +contextual (disch := first|omega|simp only [nx];omega) only [D4,qF,qG,qA,qB,qC,D5,hF,hA,↓reduceIte,qD,qE]; with_reducible rfl) ?_
  refine V.heap (fun X => Grow H X ∧ Bx X H.next [c, b, r, n] 25 ∧ Bx X (H.next + 1) [f, e, d, o] 29) ⟨?_, ?_, ?_⟩ ?_
  · (repeat first | assumption | exact Grow.refl _ | refine Grow.alloc ?_ _ | refine Grow.set ?_ (by first|omega|simp only [nx];omega) _)
  · (repeat first | assumption | exact Bx.new _ _ _ | exact Bx.newAt (by first|omega|simp only [nx];omega) | refine Bx.put (by first|omega|simp only [nx];omega) _ _ | refine Bx.alloc ?_ _ | refine Bx.set ?_ (by first|omega|simp only [nx];omega) _)
  · (repeat first | assumption | exact Bx.new _ _ _ | exact Bx.newAt (by first|omega|simp only [nx];omega) | refine Bx.put (by first|omega|simp only [nx];omega) _ _ | refine Bx.alloc ?_ _ | refine Bx.set ?_ (by first|omega|simp only [nx];omega) _)
  rintro H1 ⟨g1, b1, c1⟩
  (repeat first|apply V.seq|apply V.block|apply V.scope|apply V.skip|apply V.close)
  refine V.draw ?_
  refine VD.dins 4 (by simp +contextual (disch := first|omega|simp only [nx];omega) only [D4,qF,qG,qA,qB,qC,D5,hF,hA,↓reduceIte,qD,qE, b1.2, c1.2, hlf]; with_reducible rfl) ?_
  simp only [ds]
  refine VD.callA (by simp only [D6,D5,hF,hA,↓reduceIte,qD,qE]; try rfl) (f34_ok (h.grow g1)) (by simp only [D6,D5,hF,hA,↓reduceIte,qD,qE]; try rfl) (fun H2 g2 => ?_)
  have b2 := b1.grow g2
  have c2 := c1.grow g2
  have g12 := g1.trans g2
  refine VD.lineD' (by simp +contextual (disch := first|omega|simp only [nx];omega) only [D4,qF,qG,qA,qB,qC,D5,hF,hA,↓reduceIte,qD,qE, b2.2, c2.2, hle, hlb, hld', hlm]; with_reducible rfl) ?_ ?_ rfl ?_
  · have m2 := g2.1
    simp only [monoG, List.cons_append, List.nil_append, Heap.next_set, Heap.next_alloc, Nat.le_refl, true_and, and_true] <;> omega
  · simp only [dcAll, dcOk, wantD, List.cons_append, List.nil_append, true_and, and_true]
    have w1 := (sl1 hx.f.isS).2.2.1
    exact ⟨fun _ q hq => by simp only [List.mem_cons, List.not_mem_nil, or_false] at hq; (repeat (rcases hq with rfl | hq; exact ⟨_, _, _, rfl, (by simp +contextual (disch := first|omega|simp only [nx];omega) only [D4,qF,qG,qA,qB,qC,D5,hF,hA,↓reduceIte,qD,qE, c1.2, c2.2]; with_reducible rfl), fun p hp => by cases hp; simp only [D5,hF,hA,↓reduceIte,qD,qE]; first | exact vEq_An | (simp [vEq, vEq0, all2]; done) | assumption⟩)); (try (subst hq; exact ⟨_, _, _, rfl, (by simp +contextual (disch := first|omega|simp only [nx];omega) only [D4,qF,qG,qA,qB,qC,D5,hF,hA,↓reduceIte,qD,qE, c1.2, c2.2]; with_reducible rfl), fun p hp => by cases hp; simp only [D5,hF,hA,↓reduceIte,qD,qE]; first | exact vEq_An | (simp [vEq, vEq0, all2]; done) | assumption⟩)), fun _ q hq => by simp only [List.mem_cons, List.not_mem_nil, or_false] at hq; (repeat (rcases hq with rfl | hq; exact ⟨_, _, _, rfl, (by simp +contextual (disch := first|omega|simp only [nx];omega) only [D4,qF,qG,qA,qB,qC,D5,hF,hA,↓reduceIte,qD,qE, hlf]; with_reducible rfl), fun p hp => by cases hp; simp only [D5,hF,hA,↓reduceIte,qD,qE]; first | exact vEq_An | (simp [vEq, vEq0, all2]; done) | assumption⟩)); (try (subst hq; exact ⟨_, _, _, rfl, (by simp +contextual (disch := first|omega|simp only [nx];omega) only [D4,qF,qG,qA,qB,qC,D5,hF,hA,↓reduceIte,qD,qE, hlf]; with_reducible rfl), fun p hp => by cases hp; simp only [D5,hF,hA,↓reduceIte,qD,qE]; first | exact vEq_An | (simp [vEq, vEq0, all2]; done) | assumption⟩))⟩
  (repeat first|apply V.seq|apply V.block|apply V.scope|apply V.skip|apply V.close)
  refine V.condP (by simp only [D6,D5,hF,hA,↓reduceIte,qD,qE]; rfl) (fun hne => ?_) (fun hne => ?_)
  · (repeat first|apply V.seq|apply V.block|apply V.scope|apply V.skip|apply V.close)
    refine V.line' (by simp +contextual (disch := first|omega|simp only [nx];omega) only [D4,qF,qG,qA,qB,qC,D5,hF,hA,↓reduceIte,qD,qE]; with_reducible rfl) ?_
    (repeat first|apply V.seq|apply V.block|apply V.scope|apply V.skip|apply V.close)
    refine V.ret (V.rets rfl (Lv.retG (by simp +contextual (disch := first|omega|simp only [nx];omega) only [D1, cells_alloc_at, cells_alloc_ne, cells_set_at, cells_set_ne, yres, yres1, yresL, qA, qB, qC, D5,hF,hA,↓reduceIte,qD,qE]; rfl) ?_ ?_))
    · exact g12
    · congr 1
      exact (decide_eq_false (fun ⟨q1, q2, q3, q4, q5, q6, q7⟩ => by have := q3.1; omega)).symm
  have l1 : X.F.length = grp T := by omega
  have l2 : X.B.length = T.B.length := by omega
  have l3 : X.D.length = T.B.length := by omega
  have l4 : X.M.length = T.B.length := by omega
  clear hne
  (repeat first|apply V.seq|apply V.block|apply V.scope|apply V.skip|apply V.close)
  refine V.line' (by simp +contextual (disch := first|omega|simp only [nx];omega) only [D4,qF,qG,qA,qB,qC,D5,hF,hA,↓reduceIte,qD,qE]; with_reducible rfl) ?_
  (repeat first|apply V.seq|apply V.block|apply V.scope|apply V.skip|apply V.close)
  refine V.re [(2, .pointer (some ⟨H.next, 0, none⟩)), (3, .pointer (some ⟨H.next + 1, 0, none⟩)), (5, I 0)] (N := 132) (by intro i; simp only [full_st, hF]) (by simp only [Kn, D5,hF,hA,↓reduceIte,qD,qE, and_self, and_true, true_and]; try (repeat' constructor)) ?_
  clear hF hA
  intro t hF hA
  simp only [Kn, and_true] at hA
  refine V.loop (fun z t m Z => ∃ (k : Nat), k ≤ X.F.length ∧ z = X.F.length - k ∧ m = [] ∧ Grow H1 Z ∧ (∀ n ∈ X.F.take k, 0 ≤ n ∧ n ≤ 500) ∧ Full 132 t ∧ Kn [(2, .pointer (some ⟨H.next, 0, none⟩)), (3, .pointer (some ⟨H.next + 1, 0, none⟩)), (5, I k)] t) X.F.length ?_ ?_
  · exact ⟨0, by omega, by omega, rfl, g2, by simp, (by intro i; simp only [full_st, hF]), (by simp only [Kn, D5,hF,hA,↓reduceIte,qD,qE, and_self, and_true, true_and]; try (repeat' constructor))⟩
  clear hF hA
  rintro z t m Z ⟨k, hk, rfl, rfl, hg, hall, hF, hA⟩
  simp only [Kn, and_true] at hA
  have cz := c1.grow hg
  have gZ := g1.trans hg
  (repeat first|apply V.seq|apply V.block|apply V.scope|apply V.skip|apply V.close)
  refine V.line' (by simp +contextual (disch := first|omega|simp only [nx];omega) only [D4,qF,qG,qA,qB,qC,D5,hF,hA,↓reduceIte,qD,qE, cz.2, hlf]; with_reducible rfl) ?_
  (repeat first|apply V.seq|apply V.block|apply V.scope|apply V.skip|apply V.close)
  refine V.condP (by simp only [D6,D5,hF,hA,↓reduceIte,qD,qE]; rfl) (fun hlt => ?_) (fun hlt => ?_)
  · have hlt' : k < X.F.length := by omega
    obtain ⟨q, hq, hqx⟩ := hx.f.at hlt'
    have hq1 := hqx _ gZ
    (repeat first|apply V.seq|apply V.block|apply V.scope|apply V.skip|apply V.close)
    refine V.run ?_
    refine VI.steps' 5 (by simp +contextual (disch := first|omega|simp only [nx];omega) only [D4,qF,qG,qA,qB,qC,D5,hF,hA,↓reduceIte,qD,qE, cz.2, hq, hq1]; with_reducible rfl) ?_
    simp only [ds]
    refine VI.callA rfl (f41_ok X.F[k] 0 500 Z) (by simp only [D6,D5,hF,hA,↓reduceIte,qD,qE]; try rfl) (fun Y gy => ?_)
    refine VI.line' (by simp +contextual (disch := first|omega|simp only [nx];omega) only [D4,qF,qG,qA,qB,qC,D5,hF,hA,↓reduceIte,qD,qE]; with_reducible rfl) ?_
    (repeat first|apply V.seq|apply V.block|apply V.scope|apply V.skip|apply V.close)
    refine V.condP (by simp only [D6,D5,hF,hA,↓reduceIte,qD,qE]; rfl) (fun hw => ?_) (fun hw => ?_)
    · (repeat first|apply V.seq|apply V.block|apply V.scope|apply V.skip|apply V.close)
      refine V.line' (by simp +contextual (disch := first|omega|simp only [nx];omega) only [D4,qF,qG,qA,qB,qC,D5,hF,hA,↓reduceIte,qD,qE]; with_reducible rfl) ?_
      (repeat first|apply V.seq|apply V.block|apply V.scope|apply V.skip|apply V.close)
      refine V.ret (V.rets rfl (Or.inr ⟨by simp, V.rets rfl (Lv.retG (by simp +contextual (disch := first|omega|simp only [nx];omega) only [D1, cells_alloc_at, cells_alloc_ne, cells_set_at, cells_set_ne, yres, yres1, yresL, qA, qB, qC, D5,hF,hA,↓reduceIte,qD,qE]; rfl) ?_ ?_)⟩))
      · exact gZ.trans gy
      · congr 1
        exact (decide_eq_false (fun hh => hw (hh.2.1 _ (List.getElem_mem hlt')))).symm
    · (repeat first|apply V.seq|apply V.block|apply V.scope|apply V.skip|apply V.close)
      refine V.line' (by simp +contextual (disch := first|omega|simp only [nx];omega) only [D4,qF,qG,qA,qB,qC,D5,hF,hA,↓reduceIte,qD,qE]; with_reducible rfl) ?_
      refine V.nil (Or.inl ⟨rfl, X.F.length - (k + 1), by omega, ?_⟩)
      refine ⟨k + 1, by omega, rfl, rfl, hg.trans gy, ?_, (by intro i; simp only [full_st, hF]), (by simp only [Kn, D5,hF,hA,↓reduceIte,qD,qE, and_self, and_true, true_and]; try (repeat' constructor))⟩
      intro q hq
      rw [tk1 hlt'] at hq
      rcases List.mem_append.1 hq with hq | hq
      · exact hall q hq
      · rw [List.mem_singleton.1 hq]; exact Decidable.not_not.1 hw
  refine V.exit ?_
  (repeat first | refine V.pass ?_ | refine V.here ?_ | refine V.out (by decide) ?_)
  refine V.nil (Or.inr ⟨by simp, ?_⟩)
  (repeat first | refine V.pass ?_ | refine V.here ?_ | refine V.out (by decide) ?_)
  have hF' : okFs X.F := by
    rw [List.take_of_length_le (by omega)] at hall
    exact hall
  clear hall hlt
  (repeat first|apply V.seq|apply V.block|apply V.scope|apply V.skip|apply V.close)
  refine V.line' (by simp +contextual (disch := first|omega|simp only [nx];omega) only [D4,qF,qG,qA,qB,qC,D5,hF,hA,↓reduceIte,qD,qE]; with_reducible rfl) ?_
  (repeat first|apply V.seq|apply V.block|apply V.scope|apply V.skip|apply V.close)
  refine V.re [(2, .pointer (some ⟨H.next, 0, none⟩)), (3, .pointer (some ⟨H.next + 1, 0, none⟩)), (6, I 0)] (N := 132) (by intro i; simp only [full_st, hF]) (by simp only [Kn, D5,hF,hA,↓reduceIte,qD,qE, and_self, and_true, true_and]; try (repeat' constructor)) ?_
  clear hF hA
  intro t hF hA
  simp only [Kn, and_true] at hA
  refine V.loop (fun z t m Z => ∃ (k : Nat), k ≤ T.B.length ∧ z = T.B.length - k ∧ m = [] ∧ Grow H1 Z ∧ (∀ j, j < k → one T X j) ∧ Full 132 t ∧ Kn [(2, .pointer (some ⟨H.next, 0, none⟩)), (3, .pointer (some ⟨H.next + 1, 0, none⟩)), (6, I k)] t) T.B.length ?_ ?_
  · exact ⟨0, by omega, by omega, rfl, hg, fun j hj => absurd hj (by omega), (by intro i; simp only [full_st, hF]), (by simp only [Kn, D5,hF,hA,↓reduceIte,qD,qE, and_self, and_true, true_and]; try (repeat' constructor))⟩
  clear hF hA
  rintro z t m Z2 ⟨k2, hk2, rfl, rfl, hg2, hall, hF, hA⟩
  simp only [Kn, and_true] at hA
  have bz := b1.grow hg2
  have cz := c1.grow hg2
  have gZ2 := g1.trans hg2
  (repeat first|apply V.seq|apply V.block|apply V.scope|apply V.skip|apply V.close)
  refine V.line' (by simp +contextual (disch := first|omega|simp only [nx];omega) only [D4,qF,qG,qA,qB,qC,D5,hF,hA,↓reduceIte,qD,qE, bz.2, hlb]; with_reducible rfl) ?_
  (repeat first|apply V.seq|apply V.block|apply V.scope|apply V.skip|apply V.close)
  refine V.condP (by simp only [D6,D5,hF,hA,↓reduceIte,qD,qE]; rfl) (fun hlt => ?_) (fun hlt => ?_)
  · have hlt' : k2 < T.B.length := by omega
    have lB : k2 < X.B.length := by omega
    have lD : k2 < X.D.length := by omega
    have lM : k2 < X.M.length := by omega
    have eB : X.B.getD k2 0 = X.B[k2] := getD_at lB
    have eT : T.B.getD k2 (0, 0) = T.B[k2] := by simp only [List.getD_eq_getElem?_getD, List.getElem?_eq_getElem hlt', Option.getD_some]
    have eD : X.D.getD k2 [] = X.D[k2] := getD_nest lD
    have eM : X.M.getD k2 [] = X.M[k2] := getD_nest lM
    obtain ⟨q, hq, hqx⟩ := hx.b.at lB
    have hq1 := hqx _ gZ2
    obtain ⟨i, o', hi, hix⟩ := h.b.at hlt'
    obtain ⟨_, hi2, hi3⟩ := hix _ gZ2
    obtain ⟨pd, xd, hpd, hxd⟩ := hx.d.at ri lD
    have hpdk := hpd .i64
    obtain ⟨pm, xm, hpm, hxm⟩ := hx.m.at ri lM
    have hpmk := hpm .i64
    (repeat first|apply V.seq|apply V.block|apply V.scope|apply V.skip|apply V.close)
    refine V.draw ?_
    refine VD.dins 9 (by simp +contextual (disch := first|omega|simp only [nx];omega) only [D4,qF,qG,qA,qB,qC,D5,hF,hA,↓reduceIte,qD,qE, cz.2, hq, hq1, bz.2, hi, hi2, hi3]; with_reducible rfl) ?_
    simp only [ds]
    refine VD.dins 8 (by simp +contextual (disch := first|omega|simp only [nx];omega) only [D4,qF,qG,qA,qB,qC,D5,hF,hA,↓reduceIte,qD,qE, cz.2, hq, hq1, bz.2, hi, hi2, hi3]; with_reducible rfl) ?_
    simp only [ds]
    refine VD.callA (by simp only [D6,D5,hF,hA,↓reduceIte,qD,qE]; try rfl) (f41_ok X.B[k2] T.B[k2].1 T.B[k2].2 Z2) (by simp only [D6,D5,hF,hA,↓reduceIte,qD,qE]; try rfl) (fun Y1 y1 => ?_)
    have by1 := bz.grow y1
    have cy1 := cz.grow y1
    have gY1 := gZ2.trans y1
    obtain ⟨hd1, hd2⟩ := hxd _ gY1
    have hdl := hd2.len
    refine VD.dins 9 (by simp +contextual (disch := first|omega|simp only [nx];omega) only [D4,qF,qG,qA,qB,qC,D5,hF,hA,↓reduceIte,qD,qE, by1.2, cy1.2, hpdk, hd1, hdl]; with_reducible rfl) ?_
    simp only [ds]
    first | refine VD.callGt (by simp only [D5,hF,hA,↓reduceIte,qD,qE]; try rfl) (fun hc => by simp only [D6,D5,hF,hA,↓reduceIte,qD,qE, hc, and_self, and_true, true_and, not_false_eq_true]; try rfl) (fun hc => f34_ok (h.grow gY1)) (fun hc => by simp only [D6,D5,hF,hA,↓reduceIte,qD,qE, hc, and_self, and_true, true_and, not_false_eq_true]; try rfl) (fun Y2 y2 => ?_) | refine VD.callGf (by simp only [D5,hF,hA,↓reduceIte,qD,qE]; try rfl) (fun hc => by simp only [D6,D5,hF,hA,↓reduceIte,qD,qE, hc, and_self, and_true, true_and, not_false_eq_true]; try rfl) (fun hc => f34_ok (h.grow gY1)) (fun hc => by simp only [D6,D5,hF,hA,↓reduceIte,qD,qE, hc, and_self, and_true, true_and, not_false_eq_true]; try rfl) (fun Y2 y2 => ?_)
    have by2 := by1.grow y2
    have cy2 := cy1.grow y2
    have gY2 := gY1.trans y2
    obtain ⟨hm1, hm2⟩ := hxm _ gY2
    have hml := hm2.len
    refine VD.dins 9 (by simp +contextual (disch := first|omega|simp only [nx];omega) only [D4,qF,qG,qA,qB,qC,D5,hF,hA,↓reduceIte,qD,qE, by2.2, cy2.2, hpmk, hm1, hml]; with_reducible rfl) ?_
    simp only [ds]
    refine VD.dins 2 (by simp +contextual (disch := first|omega|simp only [nx];omega) only [D4,qF,qG,qA,qB,qC,D5,hF,hA,↓reduceIte,qD,qE, by2.2, cy2.2, hpmk, hm1, hml]; with_reducible rfl) ?_
    simp only [ds]
    first | refine VD.callGt (by simp only [D5,hF,hA,↓reduceIte,qD,qE]; try rfl) (fun hc => by simp only [D6,D5,hF,hA,↓reduceIte,qD,qE, hc, and_self, and_true, true_and, not_false_eq_true]; try rfl) (fun hc => f34_ok (h.grow gY2)) (fun hc => by simp only [D6,D5,hF,hA,↓reduceIte,qD,qE, hc, and_self, and_true, true_and, not_false_eq_true]; try rfl) (fun Y3 y3 => ?_) | refine VD.callGf (by simp only [D5,hF,hA,↓reduceIte,qD,qE]; try rfl) (fun hc => by simp only [D6,D5,hF,hA,↓reduceIte,qD,qE, hc, and_self, and_true, true_and, not_false_eq_true]; try rfl) (fun hc => f34_ok (h.grow gY2)) (fun hc => by simp only [D6,D5,hF,hA,↓reduceIte,qD,qE, hc, and_self, and_true, true_and, not_false_eq_true]; try rfl) (fun Y3 y3 => ?_)
    have by3 := by2.grow y3
    have cy3 := cy2.grow y3
    have gY3 := gY2.trans y3
    obtain ⟨hd3, _⟩ := hxd _ gY2
    obtain ⟨hd4, _⟩ := hxd _ gY3
    obtain ⟨hd5, _⟩ := hxd _ gZ2
    obtain ⟨hm3, _⟩ := hxm _ gY3
    obtain ⟨hm4, _⟩ := hxm _ gY1
    obtain ⟨hm5, _⟩ := hxm _ gZ2
    refine VD.lineD' (by simp +contextual (disch := first|omega|simp only [nx];omega) only [D4,qF,qG,qA,qB,qC,D5,hF,hA,↓reduceIte,qD,qE]; with_reducible rfl) ?_ ?_ rfl ?_
    · have m1 := y1.1
      have m2 := y2.1
      have m3 := y3.1
      simp only [monoG, List.cons_append, List.nil_append, Heap.next_set, Heap.next_alloc, Nat.le_refl, true_and, and_true] <;> omega
    · simp only [dcAll, dcOk, wantD, List.cons_append, List.nil_append, true_and, and_true]
      have w1 := (sl1 hx.d.isS).2.2.1
      have w2 := (sl1 hx.m.isS).2.2.1
      have w3 := (sl1 (ri.sl hd2)).2.2.1
      have w4 := (sl1 (ri.sl hm2)).2.2.1
      exact ⟨fun hw q hq => by simp only [wantD, D5,hF,hA,↓reduceIte,qD,qE, beq_iff_eq, decide_eq_false_iff_not, decide_eq_true_eq] at hw; simp only [List.mem_cons, List.not_mem_nil, or_false] at hq; (repeat (rcases hq with rfl | hq; exact ⟨_, _, _, rfl, (by simp +contextual (disch := first|omega|simp only [nx];omega) only [D4,qF,qG,qA,qB,qC,D5,hF,hA,↓reduceIte,qD,qE, if_true, not_false_eq_true, not_true_eq_false, hw, cz.2, cy1.2, cy2.2, cy3.2]; with_reducible rfl), fun p hp => by cases hp; simp only [D5,hF,hA,↓reduceIte,qD,qE, hw, if_true, not_false_eq_true]; first | exact vEq_An | (simp [vEq, vEq0, all2]; done) | assumption⟩)); (try (subst hq; exact ⟨_, _, _, rfl, (by simp +contextual (disch := first|omega|simp only [nx];omega) only [D4,qF,qG,qA,qB,qC,D5,hF,hA,↓reduceIte,qD,qE, if_true, not_false_eq_true, not_true_eq_false, hw, cz.2, cy1.2, cy2.2, cy3.2]; with_reducible rfl), fun p hp => by cases hp; simp only [D5,hF,hA,↓reduceIte,qD,qE, hw, if_true, not_false_eq_true]; first | exact vEq_An | (simp [vEq, vEq0, all2]; done) | assumption⟩)), fun hw q hq => by simp only [wantD, D5,hF,hA,↓reduceIte,qD,qE, beq_iff_eq, decide_eq_false_iff_not, decide_eq_true_eq] at hw; simp only [List.mem_cons, List.not_mem_nil, or_false] at hq; (repeat (rcases hq with rfl | hq; exact ⟨_, _, _, rfl, (by simp +contextual (disch := first|omega|simp only [nx];omega) only [D4,qF,qG,qA,qB,qC,D5,hF,hA,↓reduceIte,qD,qE, if_true, not_false_eq_true, not_true_eq_false, hw, hd1, hd3, hd4, hd5]; with_reducible rfl), fun p hp => by cases hp; simp only [D5,hF,hA,↓reduceIte,qD,qE, hw, if_true, not_false_eq_true]; first | exact vEq_An | (simp [vEq, vEq0, all2]; done) | assumption⟩)); (try (subst hq; exact ⟨_, _, _, rfl, (by simp +contextual (disch := first|omega|simp only [nx];omega) only [D4,qF,qG,qA,qB,qC,D5,hF,hA,↓reduceIte,qD,qE, if_true, not_false_eq_true, not_true_eq_false, hw, hd1, hd3, hd4, hd5]; with_reducible rfl), fun p hp => by cases hp; simp only [D5,hF,hA,↓reduceIte,qD,qE, hw, if_true, not_false_eq_true]; first | exact vEq_An | (simp [vEq, vEq0, all2]; done) | assumption⟩)), fun hw q hq => by simp only [wantD, D5,hF,hA,↓reduceIte,qD,qE, beq_iff_eq, decide_eq_false_iff_not, decide_eq_true_eq] at hw; simp only [List.mem_cons, List.not_mem_nil, or_false] at hq; (repeat (rcases hq with rfl | hq; exact ⟨_, _, _, rfl, (by simp +contextual (disch := first|omega|simp only [nx];omega) only [D4,qF,qG,qA,qB,qC,D5,hF,hA,↓reduceIte,qD,qE, if_true, not_false_eq_true, not_true_eq_false, hw, hdl]; with_reducible rfl), fun p hp => by cases hp; simp only [D5,hF,hA,↓reduceIte,qD,qE, hw, if_true, not_false_eq_true]; first | exact vEq_An | (simp [vEq, vEq0, all2]; done) | assumption⟩)); (try (subst hq; exact ⟨_, _, _, rfl, (by simp +contextual (disch := first|omega|simp only [nx];omega) only [D4,qF,qG,qA,qB,qC,D5,hF,hA,↓reduceIte,qD,qE, if_true, not_false_eq_true, not_true_eq_false, hw, hdl]; with_reducible rfl), fun p hp => by cases hp; simp only [D5,hF,hA,↓reduceIte,qD,qE, hw, if_true, not_false_eq_true]; first | exact vEq_An | (simp [vEq, vEq0, all2]; done) | assumption⟩)), fun hw q hq => by simp only [wantD, D5,hF,hA,↓reduceIte,qD,qE, beq_iff_eq, decide_eq_false_iff_not, decide_eq_true_eq] at hw; simp only [List.mem_cons, List.not_mem_nil, or_false] at hq; (repeat (rcases hq with rfl | hq; exact ⟨_, _, _, rfl, (by simp +contextual (disch := first|omega|simp only [nx];omega) only [D4,qF,qG,qA,qB,qC,D5,hF,hA,↓reduceIte,qD,qE, if_true, not_false_eq_true, not_true_eq_false, hw, cz.2, cy1.2, cy2.2, cy3.2]; with_reducible rfl), fun p hp => by cases hp; simp only [D5,hF,hA,↓reduceIte,qD,qE, hw, if_true, not_false_eq_true]; first | exact vEq_An | (simp [vEq, vEq0, all2]; done) | assumption⟩)); (try (subst hq; exact ⟨_, _, _, rfl, (by simp +contextual (disch := first|omega|simp only [nx];omega) only [D4,qF,qG,qA,qB,qC,D5,hF,hA,↓reduceIte,qD,qE, if_true, not_false_eq_true, not_true_eq_false, hw, cz.2, cy1.2, cy2.2, cy3.2]; with_reducible rfl), fun p hp => by cases hp; simp only [D5,hF,hA,↓reduceIte,qD,qE, hw, if_true, not_false_eq_true]; first | exact vEq_An | (simp [vEq, vEq0, all2]; done) | assumption⟩)), fun hw q hq => by simp only [wantD, D5,hF,hA,↓reduceIte,qD,qE, beq_iff_eq, decide_eq_false_iff_not, decide_eq_true_eq] at hw; simp only [List.mem_cons, List.not_mem_nil, or_false] at hq; (repeat (rcases hq with rfl | hq; exact ⟨_, _, _, rfl, (by simp +contextual (disch := first|omega|simp only [nx];omega) only [D4,qF,qG,qA,qB,qC,D5,hF,hA,↓reduceIte,qD,qE, if_true, not_false_eq_true, not_true_eq_false, hw, hm1, hm3, hm4, hm5]; with_reducible rfl), fun p hp => by cases hp; simp only [D5,hF,hA,↓reduceIte,qD,qE, hw, if_true, not_false_eq_true]; first | exact vEq_An | (simp [vEq, vEq0, all2]; done) | assumption⟩)); (try (subst hq; exact ⟨_, _, _, rfl, (by simp +contextual (disch := first|omega|simp only [nx];omega) only [D4,qF,qG,qA,qB,qC,D5,hF,hA,↓reduceIte,qD,qE, if_true, not_false_eq_true, not_true_eq_false, hw, hm1, hm3, hm4, hm5]; with_reducible rfl), fun p hp => by cases hp; simp only [D5,hF,hA,↓reduceIte,qD,qE, hw, if_true, not_false_eq_true]; first | exact vEq_An | (simp [vEq, vEq0, all2]; done) | assumption⟩)), fun hw q hq => by simp only [wantD, D5,hF,hA,↓reduceIte,qD,qE, beq_iff_eq, decide_eq_false_iff_not, decide_eq_true_eq] at hw; simp only [List.mem_cons, List.not_mem_nil, or_false] at hq; (repeat (rcases hq with rfl | hq; exact ⟨_, _, _, rfl, (by simp +contextual (disch := first|omega|simp only [nx];omega) only [D4,qF,qG,qA,qB,qC,D5,hF,hA,↓reduceIte,qD,qE, if_true, not_false_eq_true, not_true_eq_false, hw, hml]; with_reducible rfl), fun p hp => by cases hp; simp only [D5,hF,hA,↓reduceIte,qD,qE, hw, if_true, not_false_eq_true]; first | exact vEq_An | (simp [vEq, vEq0, all2]; done) | assumption⟩)); (try (subst hq; exact ⟨_, _, _, rfl, (by simp +contextual (disch := first|omega|simp only [nx];omega) only [D4,qF,qG,qA,qB,qC,D5,hF,hA,↓reduceIte,qD,qE, if_true, not_false_eq_true, not_true_eq_false, hw, hml]; with_reducible rfl), fun p hp => by cases hp; simp only [D5,hF,hA,↓reduceIte,qD,qE, hw, if_true, not_false_eq_true]; first | exact vEq_An | (simp [vEq, vEq0, all2]; done) | assumption⟩))⟩
    have gg : Grow H1 Y3 := hg2.trans ((y1.trans y2).trans y3)
    (repeat first|apply V.seq|apply V.block|apply V.scope|apply V.skip|apply V.close)
    refine V.condP (by simp only [D6,D5,hF,hA,↓reduceIte,qD,qE]; rfl) (fun hw => ?_) (fun hw => ?_)
    · (repeat first|apply V.seq|apply V.block|apply V.scope|apply V.skip|apply V.close)
      refine V.line' (by simp +contextual (disch := first|omega|simp only [nx];omega) only [D4,qF,qG,qA,qB,qC,D5,hF,hA,↓reduceIte,qD,qE]; with_reducible rfl) ?_
      (repeat first|apply V.seq|apply V.block|apply V.scope|apply V.skip|apply V.close)
      refine V.ret (V.rets rfl (Or.inr ⟨by simp, V.rets rfl (Lv.retG (by simp +contextual (disch := first|omega|simp only [nx];omega) only [D1, cells_alloc_at, cells_alloc_ne, cells_set_at, cells_set_ne, yres, yres1, yresL, qA, qB, qC, D5,hF,hA,↓reduceIte,qD,qE]; rfl) ?_ ?_)⟩))
      · exact gY3
      · congr 1
        refine (decide_eq_false (fun hh => ?_)).symm
        have := one_of hv hh hlt'
        unfold one at this
        rw [eB, eT, eD, eM] at this
        have h3 := this.2.2.1
        omega
    have o1 : T.B[k2].1 ≤ X.B[k2] ∧ X.B[k2] ≤ T.B[k2].2 := by omega
    have o2 : (X.D[k2]).length = grp T + 1 := by omega
    have o3 : (X.M[k2]).length = grp T := by omega
    clear hw
    (repeat first|apply V.seq|apply V.block|apply V.scope|apply V.skip|apply V.close)
    refine V.line' (by simp +contextual (disch := first|omega|simp only [nx];omega) only [D4,qF,qG,qA,qB,qC,D5,hF,hA,↓reduceIte,qD,qE]; with_reducible rfl) ?_
    (repeat first|apply V.seq|apply V.block|apply V.scope|apply V.skip|apply V.close)
    refine V.re [(2, .pointer (some ⟨H.next, 0, none⟩)), (3, .pointer (some ⟨H.next + 1, 0, none⟩)), (6, I k2), (7, I 0)] (N := 132) (by intro i; simp only [full_st, hF]) (by simp only [Kn, D5,hF,hA,↓reduceIte,qD,qE, and_self, and_true, true_and]; try (repeat' constructor)) ?_
    clear hF hA
    intro t hF hA
    simp only [Kn, and_true] at hA
    refine V.loop (fun z t m Y => ∃ (g : Nat), g ≤ grp T ∧ z = grp T - g ∧ m = [] ∧ Grow H1 Y ∧ (∀ p ∈ (T.N.zip X.M[k2]).take g, p.1.1 ≤ p.2 ∧ p.2 ≤ p.1.2) ∧ Full 132 t ∧ Kn [(2, .pointer (some ⟨H.next, 0, none⟩)), (3, .pointer (some ⟨H.next + 1, 0, none⟩)), (6, I k2), (7, I g)] t) (grp T) ?_ ?_
    · exact ⟨0, by omega, by omega, rfl, gg, by simp, (by intro i; simp only [full_st, hF]), (by simp only [Kn, D5,hF,hA,↓reduceIte,qD,qE, and_self, and_true, true_and]; try (repeat' constructor))⟩
    clear hF hA
    rintro z t m Y ⟨g, hgg, rfl, rfl, hgy, hally, hF, hA⟩
    simp only [Kn, and_true] at hA
    have by' := b1.grow hgy
    have gY := g1.trans hgy
    (repeat first|apply V.seq|apply V.block|apply V.scope|apply V.skip|apply V.close)
    refine V.run ?_
    refine VI.steps' 2 (by simp +contextual (disch := first|omega|simp only [nx];omega) only [D4,qF,qG,qA,qB,qC,D5,hF,hA,↓reduceIte,qD,qE, by'.2]; with_reducible rfl) ?_
    simp only [ds]
    refine VI.callA rfl (f34_ok (h.grow gY)) (by simp only [D6,D5,hF,hA,↓reduceIte,qD,qE]; try rfl) (fun Y4 y4 => ?_)
    have by4 := by'.grow y4
    have cy4 := (c1.grow hgy).grow y4
    have gY4 := gY.trans y4
    refine VI.line' (by simp +contextual (disch := first|omega|simp only [nx];omega) only [D4,qF,qG,qA,qB,qC,D5,hF,hA,↓reduceIte,qD,qE]; with_reducible rfl) ?_
    (repeat first|apply V.seq|apply V.block|apply V.scope|apply V.skip|apply V.close)
    refine V.condP (by simp only [D6,D5,hF,hA,↓reduceIte,qD,qE]; rfl) (fun hlg => ?_) (fun hlg => ?_)
    · have hlg' : g < grp T := by omega
      have hg1 : g < T.N.length := by omega
      have hg2 : g < (X.M[k2]).length := by omega
      have hlz2 : g < (T.N.zip X.M[k2]).length := by rw [List.length_zip]; omega
      have hz2 : (T.N.zip X.M[k2])[g] = (T.N[g], (X.M[k2])[g]) := List.getElem_zip ..
      obtain ⟨hm6, hm7⟩ := hxm _ gY4
      obtain ⟨u, hu, huu⟩ := hm7.at hg2
      have hu1 := huu _ (.refl _)
      obtain ⟨i2, o2', hj, hjx⟩ := h.n.at hg1
      obtain ⟨_, hj2, hj3⟩ := hjx _ gY4
      (repeat first|apply V.seq|apply V.block|apply V.scope|apply V.skip|apply V.close)
      refine V.draw ?_
      refine VD.dins 9 (by simp +contextual (disch := first|omega|simp only [nx];omega) only [D4,qF,qG,qA,qB,qC,D5,hF,hA,↓reduceIte,qD,qE, cy4.2, hpmk, hm6, hu, hu1, by4.2, hj, hj2, hj3]; with_reducible rfl) ?_
      simp only [ds]
      refine VD.dins 9 (by simp +contextual (disch := first|omega|simp only [nx];omega) only [D4,qF,qG,qA,qB,qC,D5,hF,hA,↓reduceIte,qD,qE, cy4.2, hpmk, hm6, hu, hu1, by4.2, hj, hj2, hj3]; with_reducible rfl) ?_
      simp only [ds]
      refine VD.dins 2 (by simp +contextual (disch := first|omega|simp only [nx];omega) only [D4,qF,qG,qA,qB,qC,D5,hF,hA,↓reduceIte,qD,qE, cy4.2, hpmk, hm6, hu, hu1, by4.2, hj, hj2, hj3]; with_reducible rfl) ?_
      simp only [ds]
      refine VD.callA (by simp only [D6,D5,hF,hA,↓reduceIte,qD,qE]; try rfl) (f41_ok (X.M[k2])[g] T.N[g].1 T.N[g].2 Y4) (by simp only [D6,D5,hF,hA,↓reduceIte,qD,qE]; try rfl) (fun Y5 y5 => ?_)
      refine VD.lineD' (by simp +contextual (disch := first|omega|simp only [nx];omega) only [D4,qF,qG,qA,qB,qC,D5,hF,hA,↓reduceIte,qD,qE]; with_reducible rfl) ?_ ?_ rfl ?_
      · have m1 := y5.1
        simp only [monoG, List.cons_append, List.nil_append, Heap.next_set, Heap.next_alloc, Nat.le_refl, true_and, and_true] <;> omega
      · simp only [dcAll, dcOk, wantD, List.cons_append, List.nil_append, true_and, and_true]
      (repeat first|apply V.seq|apply V.block|apply V.scope|apply V.skip|apply V.close)
      refine V.condP (by simp only [D6,D5,hF,hA,↓reduceIte,qD,qE]; rfl) (fun hw => ?_) (fun hw => ?_)
      · (repeat first|apply V.seq|apply V.block|apply V.scope|apply V.skip|apply V.close)
        refine V.line' (by simp +contextual (disch := first|omega|simp only [nx];omega) only [D4,qF,qG,qA,qB,qC,D5,hF,hA,↓reduceIte,qD,qE]; with_reducible rfl) ?_
        (repeat first|apply V.seq|apply V.block|apply V.scope|apply V.skip|apply V.close)
        refine V.ret (V.rets rfl (Or.inr ⟨by simp, V.rets rfl (Or.inr ⟨by simp, V.rets rfl (Lv.retG (by simp +contextual (disch := first|omega|simp only [nx];omega) only [D1, cells_alloc_at, cells_alloc_ne, cells_set_at, cells_set_ne, yres, yres1, yresL, qA, qB, qC, D5,hF,hA,↓reduceIte,qD,qE]; rfl) ?_ ?_)⟩)⟩))
        · exact gY4.trans y5
        · congr 1
          refine (decide_eq_false (fun hh => hw ?_)).symm
          have := (one_of hv hh hlt').2.2
          rw [eM] at this
          have := this.2 _ (List.getElem_mem hlz2)
          rw [hz2] at this
          exact this
      · (repeat first|apply V.seq|apply V.block|apply V.scope|apply V.skip|apply V.close)
        refine V.line' (by simp +contextual (disch := first|omega|simp only [nx];omega) only [D4,qF,qG,qA,qB,qC,D5,hF,hA,↓reduceIte,qD,qE]; with_reducible rfl) ?_
        refine V.nil (Or.inl ⟨rfl, grp T - (g + 1), by omega, ?_⟩)
        refine ⟨g + 1, by omega, rfl, rfl, hgy.trans (y4.trans y5), ?_, (by intro i; simp only [full_st, hF]), (by simp only [Kn, D5,hF,hA,↓reduceIte,qD,qE, and_self, and_true, true_and]; try (repeat' constructor))⟩
        intro p hp
        rw [tk1 hlz2] at hp
        rcases List.mem_append.1 hp with hp | hp
        · exact hally p hp
        · rw [List.mem_singleton.1 hp, hz2]; exact Decidable.not_not.1 hw
    · refine V.exit ?_
      (repeat first | refine V.pass ?_ | refine V.here ?_ | refine V.out (by decide) ?_)
      refine V.nil (Or.inr ⟨by simp, ?_⟩)
      (repeat first | refine V.pass ?_ | refine V.here ?_ | refine V.out (by decide) ?_)
      (repeat first|apply V.seq|apply V.block|apply V.scope|apply V.skip|apply V.close)
      refine V.line' (by simp +contextual (disch := first|omega|simp only [nx];omega) only [D4,qF,qG,qA,qB,qC,D5,hF,hA,↓reduceIte,qD,qE]; with_reducible rfl) ?_
      refine V.nil (Or.inl ⟨rfl, T.B.length - (k2 + 1), by omega, ?_⟩)
      refine ⟨k2 + 1, by omega, rfl, rfl, hgy.trans y4, ?_, (by intro i; simp only [full_st, hF]), (by simp only [Kn, D5,hF,hA,↓reduceIte,qD,qE, and_self, and_true, true_and]; try (repeat' constructor))⟩
      intro j hj
      by_cases hjk : j < k2
      · exact hall j hjk
      · have ej : j = k2 := by omega
        subst ej
        rw [List.take_of_length_le (by rw [List.length_zip]; omega)] at hally
        unfold one
        rw [eB, eT, eD, eM]
        exact ⟨o1, o2, by omega, hally⟩
  · refine V.exit ?_
    (repeat first | refine V.pass ?_ | refine V.here ?_ | refine V.out (by decide) ?_)
    refine V.nil (Or.inr ⟨by simp, ?_⟩)
    (repeat first | refine V.pass ?_ | refine V.here ?_ | refine V.out (by decide) ?_)
    (repeat first|apply V.seq|apply V.block|apply V.scope|apply V.skip|apply V.close)
    refine V.line' (by simp +contextual (disch := first|omega|simp only [nx];omega) only [D4,qF,qG,qA,qB,qC,D5,hF,hA,↓reduceIte,qD,qE]; with_reducible rfl) ?_
    (repeat first|apply V.seq|apply V.block|apply V.scope|apply V.skip|apply V.close)
    refine V.ret (V.rets rfl (Lv.retG (by simp +contextual (disch := first|omega|simp only [nx];omega) only [D1, cells_alloc_at, cells_alloc_ne, cells_set_at, cells_set_ne, yres, yres1, yresL, qA, qB, qC, D5,hF,hA,↓reduceIte,qD,qE]; rfl) ?_ ?_))
    · exact gZ2
    · rw [decide_eq_true (hld_of hv l1 l2 l3 l4 hF' (fun k hk => hall k (by omega)))]
end Go.Xe.TFX
