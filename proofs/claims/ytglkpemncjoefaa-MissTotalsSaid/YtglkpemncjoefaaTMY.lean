/- What the functions of the layer miss come to: persons, fractions, ways to choose. Conditions: none. -/
import Derived.Test.YtglkpemncjoefaaXa
import Derived.Test.YtglkpemncjoefaaTMX
-- MOD TM
namespace Go.Xe.TMX
open Go Go.Xe Go.Proofs Go.Xe.Mth
open Nat renaming reduceLeDiff → qA, reduceSub → qB, reduceAdd → qC, reduceEqDiff → qD, reduceLT → qE
open Int renaming reduceNegSucc → qF, reduceEq → qG
open Go.Xe.V renaming seq → sA, block → sB, scope → sC, skip → sD, close → sE
open Go.Xe renaming pth → P
set_option maxRecDepth 100000
set_option maxHeartbeats 1600000
set_option linter.unusedSimpArgs false
noncomputable def d70 : FCode := (.seq (.run (.go (.move (.con (.bool false))) (P 2)::
[])) (.seq (.run (.go (.build [(.int .i64 (.ofNat 0)),(.int .i64 (.ofNat 0))] [(0,1,(.con (.int .i64 (.ofNat 0)))),(1,1,(.con (.int .i64 (.ofNat 50))))]) (P 4)::
.go (.alloc 53 [(.int .i64 (.ofNat 0)),(.int .i64 (.ofNat 0))]) (P 3)::
.un (.store 2 (.tmp (P 3)) (.tmp (P 4)))::
[])) (.seq (.draw 11 (.go (.move (.tmp (P 0))) (P 5)::
.go (.loadN 2 (.tmp (P 3))) (P 6)::
.go (.makeFunc 52 [(.tmp (P 6))] []) (P 7)::
.go (.call (.con (.func (.func 72) ⟨[]⟩ ⟨[]⟩)) [(.tmp (P 5)),(.tmp (P 7))]) (P 8)::
.go (.move (.tmp (P 8))) (P 9)::
.gd (P 9) true (.loadN 2 (.tmp (P 3))) (P 10)::
.gd (P 9) true (.move (.tmp (P 0))) (P 11)::
.gd (P 9) true (.call (.con (.func (.func 86) ⟨[]⟩ ⟨[]⟩)) [(.tmp (P 11))]) (P 12)::
.gd (P 9) true (.call (.con (.func (.func 52) ⟨[]⟩ ⟨[]⟩)) [(.tmp (P 10)),(.tmp (P 12))]) (P 13)::
.go (.pick (.tmp (P 9)) (.tmp (P 13)) (.con (.bool false))) (P 14)::
.go (.move (.tmp (P 14))) (P 2)::
[]) [.ok,.ok,.ok,.ok,.ok,.rd (some ((P 9),true)) (.loadN 2 (.tmp (P 3))) (some (P 10)) [8],.ok,.ok,.ok,.ok,.ok]) .ret)))
theorem de70 : @compF Try.prog (Gl.none Try.prog) Try.f70 1 = .mk d70 (mkTT 15) [(P 0)] [.tmp (P 2)] := by kernel_rfl
theorem dg70 : Try.prog.funcs[70]? = some Try.f70 := Try.func70
theorem do70 : okF Try.prog Try.f70 = true := by kernel_rfl
noncomputable def d54 : FCode := (.seq (.run (.go (.box 28 (.tmp (P 0))) (P 1)::
.go (.move (.con (.bool false))) (P 2)::
[])) (.seq (.draw 10 (.go (.fieldAddr 0 (.tmp (P 1))) (P 5)::
.go (.load1 (.tmp (P 5))) (P 6)::
.go (.build [(.int .i64 (.ofNat 0)),(.int .i64 (.ofNat 0))] [(0,1,(.con (.int .i64 (.ofNat 0)))),(1,1,(.tmp (P 6)))]) (P 7)::
.go (.fieldAddr 2 (.tmp (P 1))) (P 8)::
.go (.load1 (.tmp (P 8))) (P 9)::
.go (.build [(.int .i64 (.ofNat 0)),(.int .i64 (.ofNat 0))] [(0,1,(.con (.int .i64 (.ofNat 0)))),(1,1,(.tmp (P 9)))]) (P 10)::
.go (.alloc 53 [(.int .i64 (.ofNat 0)),(.int .i64 (.ofNat 0))]) (P 3)::
.go (.alloc 53 [(.int .i64 (.ofNat 0)),(.int .i64 (.ofNat 0))]) (P 4)::
.un (.store 2 (.tmp (P 3)) (.tmp (P 7)))::
.un (.store 2 (.tmp (P 4)) (.tmp (P 10)))::
[]) [.ok,.ok,.ok,.ok,.rd none (.load1 (.tmp (P 8))) (some (P 9)) [9],.ok,.nw none (some (P 3)) 6 true,.nw none (some (P 4)) 7 true,.ok,.ok]) (.seq (.run (.go (.fieldAddr 0 (.tmp (P 1))) (P 11)::
.go (.load1 (.tmp (P 11))) (P 12)::
.go (.fieldAddr 1 (.tmp (P 1))) (P 13)::
.go (.load1 (.tmp (P 13))) (P 14)::
.go (.buildSlice 3 2 [(.int .i64 (.ofNat 0)),(.int .i64 (.ofNat 0))] [(0,1,(.tmp (P 12))),(1,1,(.tmp (P 14)))]) (P 15)::
.go (.call (.con (.func (.func 70) ⟨[]⟩ ⟨[]⟩)) [(.tmp (P 15))]) (P 16)::
.go (.move (.tmp (P 16))) (P 17)::
.gd (P 17) true (.loadN 2 (.tmp (P 3))) (P 18)::
.gd (P 17) true (.fieldAddr 2 (.tmp (P 1))) (P 19)::
.gd (P 17) true (.load1 (.tmp (P 19))) (P 20)::
.gd (P 17) true (.call (.con (.func (.func 52) ⟨[]⟩ ⟨[]⟩)) [(.tmp (P 18)),(.tmp (P 20))]) (P 21)::
.go (.pick (.tmp (P 17)) (.tmp (P 21)) (.con (.bool false))) (P 22)::
.go (.move (.tmp (P 22))) (P 23)::
.gd (P 23) true (.loadN 2 (.tmp (P 4))) (P 24)::
.gd (P 23) true (.fieldAddr 3 (.tmp (P 1))) (P 25)::
.gd (P 23) true (.load1 (.tmp (P 25))) (P 26)::
.gd (P 23) true (.call (.con (.func (.func 52) ⟨[]⟩ ⟨[]⟩)) [(.tmp (P 24)),(.tmp (P 26))]) (P 27)::
.go (.pick (.tmp (P 23)) (.tmp (P 27)) (.con (.bool false))) (P 28)::
.go (.move (.tmp (P 28))) (P 2)::
[])) .ret)))
theorem de54 : @compF Try.prog (Gl.none Try.prog) Try.f54 1 = .mk d54 (mkTT 29) [(P 0)] [.tmp (P 2)] := by kernel_rfl
theorem dg54 : Try.prog.funcs[54]? = some Try.f54 := Try.func54
theorem do54 : okF Try.prog Try.f54 = true := by kernel_rfl
noncomputable def d65 : FCode := (.seq (.run (.go (.box 36 (.tmp (P 0))) (P 1)::
.go (.move (.con (.bool false))) (P 2)::
[])) (.seq (.draw 8 (.go (.build [(.int .i64 (.ofNat 0)),(.int .i64 (.ofNat 0))] [(0,1,(.con (.int .i64 (.ofNat 1)))),(1,1,(.con (.int .i64 (.ofNat 1000))))]) (P 5)::
.go (.fieldAddr 1 (.tmp (P 1))) (P 6)::
.go (.load1 (.tmp (P 6))) (P 7)::
.go (.build [(.int .i64 (.ofNat 0)),(.int .i64 (.ofNat 0))] [(0,1,(.con (.int .i64 (.ofNat 0)))),(1,1,(.tmp (P 7)))]) (P 8)::
.go (.alloc 53 [(.int .i64 (.ofNat 0)),(.int .i64 (.ofNat 0))]) (P 3)::
.go (.alloc 53 [(.int .i64 (.ofNat 0)),(.int .i64 (.ofNat 0))]) (P 4)::
.un (.store 2 (.tmp (P 3)) (.tmp (P 5)))::
.un (.store 2 (.tmp (P 4)) (.tmp (P 8)))::
[]) [.ok,.ok,.rd none (.load1 (.tmp (P 6))) (some (P 7)) [7],.ok,.nw none (some (P 3)) 4 true,.nw none (some (P 4)) 5 true,.ok,.ok]) (.seq (.run (.go (.loadN 2 (.tmp (P 3))) (P 9)::
.go (.fieldAddr 1 (.tmp (P 1))) (P 10)::
.go (.load1 (.tmp (P 10))) (P 11)::
.go (.call (.con (.func (.func 52) ⟨[]⟩ ⟨[]⟩)) [(.tmp (P 9)),(.tmp (P 11))]) (P 12)::
.go (.move (.tmp (P 12))) (P 13)::
.gd (P 13) true (.loadN 2 (.tmp (P 4))) (P 14)::
.gd (P 13) true (.fieldAddr 0 (.tmp (P 1))) (P 15)::
.gd (P 13) true (.load1 (.tmp (P 15))) (P 16)::
.gd (P 13) true (.call (.con (.func (.func 52) ⟨[]⟩ ⟨[]⟩)) [(.tmp (P 14)),(.tmp (P 16))]) (P 17)::
.go (.pick (.tmp (P 13)) (.tmp (P 17)) (.con (.bool false))) (P 18)::
.go (.move (.tmp (P 18))) (P 2)::
[])) .ret)))
theorem de65 : @compF Try.prog (Gl.none Try.prog) Try.f65 1 = .mk d65 (mkTT 19) [(P 0)] [.tmp (P 2)] := by kernel_rfl
theorem dg65 : Try.prog.funcs[65]? = some Try.f65 := Try.func65
theorem do65 : okF Try.prog Try.f65 = true := by kernel_rfl
noncomputable def d55 : FCode := (.seq (.run (.go (.move (.con (.int .i64 (.ofNat 0)))) (P 4)::
[])) (.seq (.block 0 (.loop (.seq (.seq (.run (.go (.move (.tmp (P 1))) (P 5)::
.go (.bin .gtr 3 (.tmp (P 5)) (.con (.int .i64 (.ofNat 0)))) (P 6)::
[])) (.cond (.tmp (P 6)) .skip (.exit 0))) (.block 1 (.draw 6 (.go (.move (.tmp (P 1))) (P 7)::
.go (.move (.tmp (P 0))) (P 8)::
.go (.move (.tmp (P 1))) (P 9)::
.go (.bin .rem 3 (.tmp (P 8)) (.tmp (P 9))) (P 10)::
.go (.move (.tmp (P 7))) (P 0)::
.go (.move (.tmp (P 10))) (P 1)::
[]) [.ok,.ok,.ok,.ok,.ok,.ok]))))) (.seq (.run (.go (.move (.tmp (P 0))) (P 11)::
.go (.move (.tmp (P 11))) (P 4)::
[])) .ret)))
theorem de55 : @compF Try.prog (Gl.none Try.prog) Try.f55 2 = .mk d55 (mkTT 12) [(P 0),(P 1)] [.tmp (P 4)] := by kernel_rfl
theorem dg55 : Try.prog.funcs[55]? = some Try.f55 := Try.func55
theorem do55 : okF Try.prog Try.f55 = true := by kernel_rfl
noncomputable def d92 : FCode := (.seq (.run (.go (.move (.con (.int .i64 (.ofNat 0)))) (P 4)::
[])) (.seq (.block 0 (.loop (.seq (.seq (.run (.go (.move (.tmp (P 1))) (P 5)::
.go (.bin .gtr 3 (.tmp (P 5)) (.con (.int .i64 (.ofNat 0)))) (P 6)::
[])) (.cond (.tmp (P 6)) .skip (.exit 0))) (.block 1 (.draw 6 (.go (.move (.tmp (P 1))) (P 7)::
.go (.move (.tmp (P 0))) (P 8)::
.go (.move (.tmp (P 1))) (P 9)::
.go (.bin .rem 3 (.tmp (P 8)) (.tmp (P 9))) (P 10)::
.go (.move (.tmp (P 7))) (P 0)::
.go (.move (.tmp (P 10))) (P 1)::
[]) [.ok,.ok,.ok,.ok,.ok,.ok]))))) (.seq (.run (.go (.move (.tmp (P 0))) (P 11)::
.go (.move (.tmp (P 11))) (P 4)::
[])) .ret)))
theorem de92 : @compF Try.prog (Gl.none Try.prog) Try.f92 2 = .mk d92 (mkTT 12) [(P 0),(P 1)] [.tmp (P 4)] := by kernel_rfl
theorem dg92 : Try.prog.funcs[92]? = some Try.f92 := Try.func92
theorem do92 : okF Try.prog Try.f92 = true := by kernel_rfl
noncomputable def d80 : FCode := (.seq (.run (.go (.alloc 36 [(.int .i64 (.ofNat 0)),(.int .i64 (.ofNat 0))]) (P 4)::
[])) (.seq (.run (.go (.move (.tmp (P 0))) (P 6)::
.go (.move (.tmp (P 1))) (P 7)::
.go (.call (.con (.func (.func 92) ⟨[]⟩ ⟨[]⟩)) [(.tmp (P 6)),(.tmp (P 7))]) (P 8)::
.go (.move (.tmp (P 8))) (P 5)::
[])) (.seq (.draw 8 (.go (.move (.tmp (P 0))) (P 9)::
.go (.move (.tmp (P 5))) (P 10)::
.go (.bin .quo 3 (.tmp (P 9)) (.tmp (P 10))) (P 11)::
.go (.move (.tmp (P 1))) (P 12)::
.go (.move (.tmp (P 5))) (P 13)::
.go (.bin .quo 3 (.tmp (P 12)) (.tmp (P 13))) (P 14)::
.go (.build [(.int .i64 (.ofNat 0)),(.int .i64 (.ofNat 0))] [(0,1,(.tmp (P 11))),(1,1,(.tmp (P 14)))]) (P 15)::
.un (.store 2 (.tmp (P 4)) (.tmp (P 15)))::
[]) [.ok,.ok,.ok,.ok,.ok,.ok,.ok,.ok]) .ret)))
theorem de80 : @compF Try.prog (Gl.none Try.prog) Try.f80 2 = .mk d80 (mkTT 16) [(P 0),(P 1)] [.many (P 4) 2] := by kernel_rfl
theorem dg80 : Try.prog.funcs[80]? = some Try.f80 := Try.func80
theorem do80 : okF Try.prog Try.f80 = true := by kernel_rfl
theorem Sl.lit (H : Heap) (l : List Value) (e : TypeId) {n : Nat} (h : l.length = n) : Sl (H.alloc (.cells ⟨l⟩ e true)) (.slice (some ⟨H.next, 0, none⟩) n n) l :=
  .at (Nat.lt_succ_self _) (cells_alloc _ _ _ _) (Nat.le_refl _) h (by simp [h]) (fun k x hx => by simpa using hx)
def ap (l : List Int) : Prop := (l.all fun x => decide (0 ≤ x ∧ x ≤ 50)) = true ∧ 0 ≤ l.sum ∧ l.sum ≤ 50
instance (l : List Int) : Decidable (ap l) := by unfold ap; infer_instance
theorem sum_le {M : Int} (hM : 0 ≤ M) : ∀ {l : List Int}, (∀ x ∈ l, x ≤ M) → l.sum ≤ M * l.length
  | [], _ => by simp
  | x :: l, h => by
    have h1 := h x (by simp)
    have h2 := sum_le hM (l := l) (fun y hy => h y (by simp [hy]))
    simp only[List.sum_cons, List.length_cons, Int.natCast_add, Int.mul_add]
    omega
theorem f70_ok {H : Heap} {v : Value} {l : List Int} (hS : Sl H v (l.map I)) (hn : l.length ≤ 1048576) : Gives Try.prog 70 [v] H (.bool (decide (ap l))) := by
  refine F.entryL rfl dg70 do70 de70 rfl (by kernel_rfl) ?_
  simp only[sets]
  refine V.re [(0, v)] (N := 15) (by intro i; simp only[full_st, Full.mk]) (by simp only[Kn, gt_st, full_st, Full.mk, ↓reduceIte, qD, qE, decide_true, and_self]) ?_
  intro t hF hA
  simp only[Kn, and_true] at hA
  (repeat first|apply sA|apply sB|apply sC|apply sD|apply sE)
  refine V.line' (by simp +contextual (disch := first|omega|simp only[nx];omega) only[D4,qF,qG,qA,qB,qC,D5,hF,hA,↓reduceIte,qD,qE]; with_reducible rfl) ?_
  (repeat first|apply sA|apply sB|apply sC|apply sD|apply sE)
  refine V.line' (by simp +contextual (disch := first|omega|simp only[nx];omega) only[D4,qF,qG,qA,qB,qC,D5,hF,hA,↓reduceIte,qD,qE]; with_reducible rfl) ?_
  (repeat first|apply sA|apply sB|apply sC|apply sD|apply sE)
  refine V.heap (fun H2 => Grow H H2 ∧ Bx H2 H.next (A2 0 50) 53) ⟨?_, ?_⟩ ?_
  · (repeat first | assumption | exact Grow.refl _ | refine Grow.alloc ?_ _ | refine Grow.set ?_ (by first|omega|simp only[nx];omega) _)
  · (repeat first | assumption | exact Bx.new _ _ _ | exact Bx.newAt (by first|omega|simp only[nx];omega) | refine Bx.put (by first|omega|simp only[nx];omega) _ _ | refine Bx.alloc ?_ _ | refine Bx.set ?_ (by first|omega|simp only[nx];omega) _)
  rintro H1 ⟨g1, b1⟩
  by_cases hc : (l.all fun x => decide (0 ≤ x ∧ x ≤ 50)) = true
  · have hall : ∀ x ∈ l, 0 ≤ x ∧ x ≤ 50 := fun x hx => by simpa using List.all_eq_true.1 hc x hx
    have hsum := sum_le (M := 50) (by omega) (fun x hx => (hall x hx).2)
    refine V.draw ?_
    refine VD.dins 3 (by simp +contextual (disch := first|omega|simp only[nx];omega) only[D4,qF,qG,qA,qB,qC,D5,hF,hA,↓reduceIte,qD,qE, b1.2]; with_reducible rfl) ?_
    simp only[ds]
    refine VD.callA (by simp only[D6,D5,hF,hA,↓reduceIte,qD,qE]; try rfl) (f72_ok (first := [.agg ⟨A2 0 50⟩]) (cap := []) (p := fun x => decide (0 ≤ x ∧ x ≤ 50)) (hS.grow g1) hn (fun x hx H' hg => f52_ok 0 50 x H')) (by simp only[D6,D5,hF,hA,↓reduceIte,qD,qE]; try rfl) (fun H2 g2 => ?_)
    have b2 := b1.grow g2
    rw [hc]
    refine VD.dins 3 (by simp +contextual (disch := first|omega|simp only[nx];omega) only[D4,qF,qG,qA,qB,qC,D5,hF,hA,↓reduceIte,qD,qE, b2.2]; with_reducible rfl) ?_
    simp only[ds]
    refine VD.callAT (by simp only[D5,hF,hA,↓reduceIte,qD,qE]; try rfl) (by simp only[D6,D5,hF,hA,↓reduceIte,qD,qE]; try rfl) (f86_ok (hS.grow (g1.trans g2)) hn (fun x hx => (hall x hx).1) (by omega)) (by simp only[D6,D5,hF,hA,↓reduceIte,qD,qE]; try rfl) (fun H3 g3 => ?_)
    refine VD.callAT (by simp only[D5,hF,hA,↓reduceIte,qD,qE]; try rfl) (by simp only[D6,D5,hF,hA,↓reduceIte,qD,qE]; try rfl) (f52_ok 0 50 l.sum _) (by simp only[D6,D5,hF,hA,↓reduceIte,qD,qE]; try rfl) (fun H4 g4 => ?_)
    have b3 := b2.grow g3
    have b4 := b3.grow g4
    refine VD.lineD' (by simp +contextual (disch := first|omega|simp only[nx];omega) only[D4,qF,qG,qA,qB,qC,D5,hF,hA,↓reduceIte,qD,qE]; with_reducible rfl) ?_ ?_ rfl ?_
    · have n2 := g2.1
      have n3 := g3.1
      have n4 := g4.1
      simp only[monoG, List.cons_append, List.nil_append, Heap.next_set, Heap.next_alloc, Nat.le_refl, true_and, and_true] <;> omega
    · simp only[dcAll, dcOk, wantD, List.cons_append, List.nil_append, true_and, and_true]
      exact fun _ q hq => by simp only[List.mem_cons, List.not_mem_nil, or_false] at hq; (repeat (rcases hq with rfl | hq; exact ⟨_, _, _, rfl, (by simp +contextual (disch := first|omega|simp only[nx];omega) only[D4,qF,qG,qA,qB,qC,D5,hF,hA,↓reduceIte,qD,qE, b1.2, b2.2, b3.2, b4.2]; with_reducible rfl), fun p hp => by cases hp; simp only[D5,hF,hA,↓reduceIte,qD,qE]; first | exact vEq_An | (simp [vEq, vEq0, all2]; done) | assumption⟩)); (try (subst hq; exact ⟨_, _, _, rfl, (by simp +contextual (disch := first|omega|simp only[nx];omega) only[D4,qF,qG,qA,qB,qC,D5,hF,hA,↓reduceIte,qD,qE, b1.2, b2.2, b3.2, b4.2]; with_reducible rfl), fun p hp => by cases hp; simp only[D5,hF,hA,↓reduceIte,qD,qE]; first | exact vEq_An | (simp [vEq, vEq0, all2]; done) | assumption⟩))
    (repeat first|apply sA|apply sB|apply sC|apply sD|apply sE)
    refine V.ret (V.rets rfl (Lv.retG (by simp +contextual (disch := first|omega|simp only[nx];omega) only[D1, cells_alloc_at, cells_alloc_ne, cells_set_at, cells_set_ne, yres, yres1, yresL, qA, qB, qC, D5,hF,hA,↓reduceIte,qD,qE]; rfl) ?_ ?_))
    · exact ((g1.trans g2).trans g3).trans g4
    · congr 1; exact decide_eq_decide.2 (by unfold ap; simp only[hc, true_and])
  · have hc' : (l.all fun x => decide (0 ≤ x ∧ x ≤ 50)) = false := by simpa using hc
    refine V.draw ?_
    refine VD.dins 3 (by simp +contextual (disch := first|omega|simp only[nx];omega) only[D4,qF,qG,qA,qB,qC,D5,hF,hA,↓reduceIte,qD,qE, b1.2]; with_reducible rfl) ?_
    simp only[ds]
    refine VD.callA (by simp only[D6,D5,hF,hA,↓reduceIte,qD,qE]; try rfl) (f72_ok (first := [.agg ⟨A2 0 50⟩]) (cap := []) (p := fun x => decide (0 ≤ x ∧ x ≤ 50)) (hS.grow g1) hn (fun x hx H' hg => f52_ok 0 50 x H')) (by simp only[D6,D5,hF,hA,↓reduceIte,qD,qE]; try rfl) (fun H2 g2 => ?_)
    rw [hc']
    refine VD.dins 3 (by simp +contextual (disch := first|omega|simp only[nx];omega) only[D4,qF,qG,qA,qB,qC,D5,hF,hA,↓reduceIte,qD,qE]; with_reducible rfl) ?_
    simp only[ds]
    refine VD.gdF (by simp only[D5,hF,hA,↓reduceIte,qD,qE]; rfl) ?_
    refine VD.gdF (by simp only[D5,hF,hA,↓reduceIte,qD,qE]; rfl) ?_
    refine VD.lineD' (by simp +contextual (disch := first|omega|simp only[nx];omega) only[D4,qF,qG,qA,qB,qC,D5,hF,hA,↓reduceIte,qD,qE]; with_reducible rfl) ?_ ?_ rfl ?_
    · have n2 := g2.1
      simp only[monoG, List.cons_append, List.nil_append, Heap.next_set, Heap.next_alloc, Nat.le_refl, true_and, and_true] <;> omega
    · simp only[dcAll, dcOk, wantD, List.cons_append, List.nil_append, true_and, and_true]
      simp only[D5,hF,hA,↓reduceIte,qD,qE]
      simp
    (repeat first|apply sA|apply sB|apply sC|apply sD|apply sE)
    refine V.ret (V.rets rfl (Lv.retG (by simp +contextual (disch := first|omega|simp only[nx];omega) only[D1, cells_alloc_at, cells_alloc_ne, cells_set_at, cells_set_ne, yres, yres1, yresL, qA, qB, qC, D5,hF,hA,↓reduceIte,qD,qE]; rfl) ?_ ?_))
    · exact g1.trans g2
    · congr 1; symm; exact decide_eq_false (fun h => hc h.1)
theorem f54_ok (a b c d : Int) (H : Heap) : Gives Try.prog 54 [.agg ⟨A4 a b c d⟩] H (.bool (decide (ar a b c d))) := by
  refine F.entryL rfl dg54 do54 de54 rfl (by kernel_rfl) ?_
  simp only[sets]
  refine V.re [(0, .agg ⟨A4 a b c d⟩)] (N := 29) (by intro i; simp only[full_st, Full.mk]) (by simp only[Kn, gt_st, full_st, Full.mk, ↓reduceIte, qD, qE, decide_true, and_self]) ?_
  intro t hF hA
  simp only[Kn, and_true] at hA
  (repeat first|apply sA|apply sB|apply sC|apply sD|apply sE)
  refine V.line' (by simp +contextual (disch := first|omega|simp only[nx];omega) only[D4,qF,qG,qA,qB,qC,D5,hF,hA,↓reduceIte,qD,qE]; with_reducible rfl) ?_
  (repeat first|apply sA|apply sB|apply sC|apply sD|apply sE)
  refine V.lineD' (by simp +contextual (disch := first|omega|simp only[nx];omega) only[D4,qF,qG,qA,qB,qC,D5,hF,hA,↓reduceIte,qD,qE]; with_reducible rfl) ?_ ?_ rfl ?_
  · simp only[monoG, List.cons_append, List.nil_append, Heap.next_set, Heap.next_alloc, Nat.le_refl, true_and, and_true] <;> omega
  · simp only[dcAll, dcOk, wantD, List.cons_append, List.nil_append, true_and, and_true]
    exact ⟨fun _ q hq => by simp only[List.mem_cons, List.not_mem_nil, or_false] at hq; (repeat (rcases hq with rfl | hq; exact ⟨_, _, _, rfl, (by simp +contextual (disch := first|omega|simp only[nx];omega) only[D4,qF,qG,qA,qB,qC,D5,hF,hA,↓reduceIte,qD,qE]; with_reducible rfl), fun p hp => by cases hp; simp only[D5,hF,hA,↓reduceIte,qD,qE]; first | exact vEq_An | (simp [vEq, vEq0, all2]; done) | assumption⟩)); (try (subst hq; exact ⟨_, _, _, rfl, (by simp +contextual (disch := first|omega|simp only[nx];omega) only[D4,qF,qG,qA,qB,qC,D5,hF,hA,↓reduceIte,qD,qE]; with_reducible rfl), fun p hp => by cases hp; simp only[D5,hF,hA,↓reduceIte,qD,qE]; first | exact vEq_An | (simp [vEq, vEq0, all2]; done) | assumption⟩)), fun _ => ⟨_, _, _, rfl, rfl, rfl, (by simp only[D5,hF,hA,↓reduceIte,qD,qE]; simp [inBound]), fun _ => ⟨_, _, _, cells_alloc _ _ _ _, (by first | exact An_inb | rfl)⟩⟩, fun _ => ⟨_, _, _, rfl, rfl, rfl, (by simp only[D5,hF,hA,↓reduceIte,qD,qE]; simp [inBound]), fun _ => ⟨_, _, _, cells_alloc _ _ _ _, (by first | exact An_inb | rfl)⟩⟩⟩
  refine V.heap (fun H2 => Grow H H2 ∧ Bx H2 H.next (A4 a b c d) 28 ∧ Bx H2 (H.next + 1) (A2 0 a) 53 ∧ Bx H2 (H.next + 2) (A2 0 c) 53) ⟨?_, ?_, ?_, ?_⟩ ?_
  · (repeat first | assumption | exact Grow.refl _ | refine Grow.alloc ?_ _ | refine Grow.set ?_ (by first|omega|simp only[nx];omega) _)
  · (repeat first | assumption | exact Bx.new _ _ _ | exact Bx.newAt (by first|omega|simp only[nx];omega) | refine Bx.put (by first|omega|simp only[nx];omega) _ _ | refine Bx.alloc ?_ _ | refine Bx.set ?_ (by first|omega|simp only[nx];omega) _)
  · (repeat first | assumption | exact Bx.new _ _ _ | exact Bx.newAt (by first|omega|simp only[nx];omega) | refine Bx.put (by first|omega|simp only[nx];omega) _ _ | refine Bx.alloc ?_ _ | refine Bx.set ?_ (by first|omega|simp only[nx];omega) _)
  · (repeat first | assumption | exact Bx.new _ _ _ | exact Bx.newAt (by first|omega|simp only[nx];omega) | refine Bx.put (by first|omega|simp only[nx];omega) _ _ | refine Bx.alloc ?_ _ | refine Bx.set ?_ (by first|omega|simp only[nx];omega) _)
  rintro H1 ⟨g1, b1, c1, e1⟩
  (repeat first|apply sA|apply sB|apply sC|apply sD|apply sE)
  refine V.run ?_
  refine VI.steps' 5 (by simp +contextual (disch := first|omega|simp only[nx];omega) only[D4,qF,qG,qA,qB,qC,D5,hF,hA,↓reduceIte,qD,qE, b1.2]; with_reducible rfl) ?_
  simp only[ds]
  refine VI.callA rfl (f70_ok (l := [a, b]) (Sl.lit H1 [I a, I b] 3 rfl) (by simp)) (by simp only[D6,D5,hF,hA,↓reduceIte,qD,qE]; try rfl) (fun H2 g2 => ?_)
  have g2 := ((Grow.refl H1).alloc _).trans g2
  have b2 := b1.grow g2
  have c2 := c1.grow g2
  have e2 := e1.grow g2
  refine VI.steps' 4 (by simp +contextual (disch := first|omega|simp only[nx];omega) only[D4,qF,qG,qA,qB,qC,D5,hF,hA,↓reduceIte,qD,qE, b2.2, c2.2]; with_reducible rfl) ?_
  simp only[ds]
  first | refine VI.callGt (by simp only[D5,hF,hA,↓reduceIte,qD,qE]; try rfl) (fun hc => by simp only[D6,D5,hF,hA,↓reduceIte,qD,qE, hc, and_self, and_true, true_and, not_false_eq_true]; try rfl) (fun hc => f52_ok 0 a c _) (fun hc => by simp only[D6,D5,hF,hA,↓reduceIte,qD,qE, hc, and_self, and_true, true_and, not_false_eq_true]; try rfl) (fun H3 g3 => ?_) | refine VI.callGf (by simp only[D5,hF,hA,↓reduceIte,qD,qE]; try rfl) (fun hc => by simp only[D6,D5,hF,hA,↓reduceIte,qD,qE, hc, and_self, and_true, true_and, not_false_eq_true]; try rfl) (fun hc => f52_ok 0 a c _) (fun hc => by simp only[D6,D5,hF,hA,↓reduceIte,qD,qE, hc, and_self, and_true, true_and, not_false_eq_true]; try rfl) (fun H3 g3 => ?_)
  have b3 := b2.grow g3
  have e3 := e2.grow g3
  refine VI.steps' 5 (by simp +contextual (disch := first|omega|simp only[nx];omega) only[D4,qF,qG,qA,qB,qC,D5,hF,hA,↓reduceIte,qD,qE, b3.2, e3.2]; with_reducible rfl) ?_
  simp only[ds]
  first | refine VI.callGt (by simp only[D5,hF,hA,↓reduceIte,qD,qE]; try rfl) (fun hc => by simp only[D6,D5,hF,hA,↓reduceIte,qD,qE, hc, and_self, and_true, true_and, not_false_eq_true]; try rfl) (fun hc => f52_ok 0 c d _) (fun hc => by simp only[D6,D5,hF,hA,↓reduceIte,qD,qE, hc, and_self, and_true, true_and, not_false_eq_true]; try rfl) (fun H4 g4 => ?_) | refine VI.callGf (by simp only[D5,hF,hA,↓reduceIte,qD,qE]; try rfl) (fun hc => by simp only[D6,D5,hF,hA,↓reduceIte,qD,qE, hc, and_self, and_true, true_and, not_false_eq_true]; try rfl) (fun hc => f52_ok 0 c d _) (fun hc => by simp only[D6,D5,hF,hA,↓reduceIte,qD,qE, hc, and_self, and_true, true_and, not_false_eq_true]; try rfl) (fun H4 g4 => ?_)
  refine VI.line' (by simp +contextual (disch := first|omega|simp only[nx];omega) only[D4,qF,qG,qA,qB,qC,D5,hF,hA,↓reduceIte,qD,qE]; with_reducible rfl) ?_
  (repeat first|apply sA|apply sB|apply sC|apply sD|apply sE)
  refine V.ret (V.rets rfl (Lv.retG (by simp +contextual (disch := first|omega|simp only[nx];omega) only[D1, cells_alloc_at, cells_alloc_ne, cells_set_at, cells_set_ne, yres, yres1, yresL, qA, qB, qC, D5,hF,hA,↓reduceIte,qD,qE]; rfl) ?_ ?_))
  · exact ((g1.trans g2).trans g3).trans g4
  · congr 1; refine decide_eq_decide.2 ?_; simp only[ap, ar, pr, List.all_cons, List.all_nil, Bool.and_true, Bool.and_eq_true, decide_eq_true_eq, List.sum_cons, List.sum_nil]; omega
theorem f65_ok (n d : Int) (H : Heap) : Gives Try.prog 65 [.agg ⟨A2 n d⟩] H (.bool (decide (lv n d))) := by
  refine F.entryL rfl dg65 do65 de65 rfl (by kernel_rfl) ?_
  simp only[sets]
  refine V.re [(0, .agg ⟨A2 n d⟩)] (N := 19) (by intro i; simp only[full_st, Full.mk]) (by simp only[Kn, gt_st, full_st, Full.mk, ↓reduceIte, qD, qE, decide_true, and_self]) ?_
  intro t hF hA
  simp only[Kn, and_true] at hA
  (repeat first|apply sA|apply sB|apply sC|apply sD|apply sE)
  refine V.line' (by simp +contextual (disch := first|omega|simp only[nx];omega) only[D4,qF,qG,qA,qB,qC,D5,hF,hA,↓reduceIte,qD,qE]; with_reducible rfl) ?_
  (repeat first|apply sA|apply sB|apply sC|apply sD|apply sE)
  refine V.lineD' (by simp +contextual (disch := first|omega|simp only[nx];omega) only[D4,qF,qG,qA,qB,qC,D5,hF,hA,↓reduceIte,qD,qE]; with_reducible rfl) ?_ ?_ rfl ?_
  · simp only[monoG, List.cons_append, List.nil_append, Heap.next_set, Heap.next_alloc, Nat.le_refl, true_and, and_true] <;> omega
  · simp only[dcAll, dcOk, wantD, List.cons_append, List.nil_append, true_and, and_true]
    exact ⟨fun _ q hq => by simp only[List.mem_cons, List.not_mem_nil, or_false] at hq; (repeat (rcases hq with rfl | hq; exact ⟨_, _, _, rfl, (by simp +contextual (disch := first|omega|simp only[nx];omega) only[D4,qF,qG,qA,qB,qC,D5,hF,hA,↓reduceIte,qD,qE]; with_reducible rfl), fun p hp => by cases hp; simp only[D5,hF,hA,↓reduceIte,qD,qE]; first | exact vEq_An | (simp [vEq, vEq0, all2]; done) | assumption⟩)); (try (subst hq; exact ⟨_, _, _, rfl, (by simp +contextual (disch := first|omega|simp only[nx];omega) only[D4,qF,qG,qA,qB,qC,D5,hF,hA,↓reduceIte,qD,qE]; with_reducible rfl), fun p hp => by cases hp; simp only[D5,hF,hA,↓reduceIte,qD,qE]; first | exact vEq_An | (simp [vEq, vEq0, all2]; done) | assumption⟩)), fun _ => ⟨_, _, _, rfl, rfl, rfl, (by simp only[D5,hF,hA,↓reduceIte,qD,qE]; simp [inBound]), fun _ => ⟨_, _, _, cells_alloc _ _ _ _, (by first | exact An_inb | rfl)⟩⟩, fun _ => ⟨_, _, _, rfl, rfl, rfl, (by simp only[D5,hF,hA,↓reduceIte,qD,qE]; simp [inBound]), fun _ => ⟨_, _, _, cells_alloc _ _ _ _, (by first | exact An_inb | rfl)⟩⟩⟩
  refine V.heap (fun H2 => Grow H H2 ∧ Bx H2 H.next (A2 n d) 36 ∧ Bx H2 (H.next + 1) (A2 1 1000) 53 ∧ Bx H2 (H.next + 2) (A2 0 d) 53) ⟨?_, ?_, ?_, ?_⟩ ?_
  · (repeat first | assumption | exact Grow.refl _ | refine Grow.alloc ?_ _ | refine Grow.set ?_ (by first|omega|simp only[nx];omega) _)
  · (repeat first | assumption | exact Bx.new _ _ _ | exact Bx.newAt (by first|omega|simp only[nx];omega) | refine Bx.put (by first|omega|simp only[nx];omega) _ _ | refine Bx.alloc ?_ _ | refine Bx.set ?_ (by first|omega|simp only[nx];omega) _)
  · (repeat first | assumption | exact Bx.new _ _ _ | exact Bx.newAt (by first|omega|simp only[nx];omega) | refine Bx.put (by first|omega|simp only[nx];omega) _ _ | refine Bx.alloc ?_ _ | refine Bx.set ?_ (by first|omega|simp only[nx];omega) _)
  · (repeat first | assumption | exact Bx.new _ _ _ | exact Bx.newAt (by first|omega|simp only[nx];omega) | refine Bx.put (by first|omega|simp only[nx];omega) _ _ | refine Bx.alloc ?_ _ | refine Bx.set ?_ (by first|omega|simp only[nx];omega) _)
  rintro H1 ⟨g1, b1, c1, e1⟩
  (repeat first|apply sA|apply sB|apply sC|apply sD|apply sE)
  refine V.run ?_
  refine VI.steps' 3 (by simp +contextual (disch := first|omega|simp only[nx];omega) only[D4,qF,qG,qA,qB,qC,D5,hF,hA,↓reduceIte,qD,qE, b1.2, c1.2]; with_reducible rfl) ?_
  simp only[ds]
  refine VI.callA rfl (f52_ok 1 1000 d _) (by simp only[D6,D5,hF,hA,↓reduceIte,qD,qE]; try rfl) (fun H2 g2 => ?_)
  have b2 := b1.grow g2
  have e2 := e1.grow g2
  refine VI.steps' 4 (by simp +contextual (disch := first|omega|simp only[nx];omega) only[D4,qF,qG,qA,qB,qC,D5,hF,hA,↓reduceIte,qD,qE, b2.2, e2.2]; with_reducible rfl) ?_
  simp only[ds]
  first | refine VI.callGt (by simp only[D5,hF,hA,↓reduceIte,qD,qE]; try rfl) (fun hc => by simp only[D6,D5,hF,hA,↓reduceIte,qD,qE, hc, and_self, and_true, true_and, not_false_eq_true]; try rfl) (fun hc => f52_ok 0 d n _) (fun hc => by simp only[D6,D5,hF,hA,↓reduceIte,qD,qE, hc, and_self, and_true, true_and, not_false_eq_true]; try rfl) (fun H3 g3 => ?_) | refine VI.callGf (by simp only[D5,hF,hA,↓reduceIte,qD,qE]; try rfl) (fun hc => by simp only[D6,D5,hF,hA,↓reduceIte,qD,qE, hc, and_self, and_true, true_and, not_false_eq_true]; try rfl) (fun hc => f52_ok 0 d n _) (fun hc => by simp only[D6,D5,hF,hA,↓reduceIte,qD,qE, hc, and_self, and_true, true_and, not_false_eq_true]; try rfl) (fun H3 g3 => ?_)
  refine VI.line' (by simp +contextual (disch := first|omega|simp only[nx];omega) only[D4,qF,qG,qA,qB,qC,D5,hF,hA,↓reduceIte,qD,qE]; with_reducible rfl) ?_
  (repeat first|apply sA|apply sB|apply sC|apply sD|apply sE)
  refine V.ret (V.rets rfl (Lv.retG (by simp +contextual (disch := first|omega|simp only[nx];omega) only[D1, cells_alloc_at, cells_alloc_ne, cells_set_at, cells_set_ne, yres, yres1, yresL, qA, qB, qC, D5,hF,hA,↓reduceIte,qD,qE]; rfl) ?_ ?_))
  · exact (g1.trans g2).trans g3
  · rfl
theorem gcd_step {x y a b : Nat} (h : Nat.gcd x y = Nat.gcd a b) : Nat.gcd y (x % y) = Nat.gcd a b := by
  rw [← h, Nat.gcd_comm x y, Nat.gcd_rec y x, Nat.gcd_comm]
theorem f55_ok (a b : Nat) (H : Heap) : Gives Try.prog 55 [I a, I b] H (I (Nat.gcd a b : Nat)) := by
  refine F.entryL rfl dg55 do55 de55 rfl (by kernel_rfl) ?_
  simp only[sets]
  refine V.re [(0, I a), (1, I b)] (N := 12) (by intro i; simp only[full_st, Full.mk]) (by simp only[Kn, gt_st, full_st, Full.mk, ↓reduceIte, qD, qE, decide_true, and_self]) ?_
  intro t hF hA
  simp only[Kn, and_true] at hA
  (repeat first|apply sA|apply sB|apply sC|apply sD|apply sE)
  refine V.line' (by simp +contextual (disch := first|omega|simp only[nx];omega) only[D4,qF,qG,qA,qB,qC,D5,hF,hA,↓reduceIte,qD,qE]; with_reducible rfl) ?_
  (repeat first|apply sA|apply sB|apply sC|apply sD|apply sE)
  refine V.loop (fun n t m H' => ∃ (x y : Nat), n = y ∧ Nat.gcd x y = Nat.gcd a b ∧ m = [] ∧ H' = H ∧ Full 12 t ∧ Kn [(0, I x), (1, I y)] t) b ?_ ?_
  · exact ⟨a, b, rfl, rfl, rfl, rfl, (by intro;simp only[full_st,hF]), (by simp only[Kn, D5,hF,hA,↓reduceIte,qD,qE,and_self,and_true,true_and];try (repeat' constructor))⟩
  clear hF hA
  rintro n t m H' ⟨x, y, rfl, hg, rfl, rfl, hF, hA⟩
  simp only[Kn, and_true] at hA
  (repeat first|apply sA|apply sB|apply sC|apply sD|apply sE)
  refine V.line' (by simp +contextual (disch := first|omega|simp only[nx];omega) only[D4,qF,qG,qA,qB,qC,D5,hF,hA,↓reduceIte,qD,qE]; with_reducible rfl) ?_
  (repeat first|apply sA|apply sB|apply sC|apply sD|apply sE)
  refine V.condP (by simp only[D6,D5,hF,hA,↓reduceIte,qD,qE]; rfl) (fun h => ?_) (fun h => ?_)
  · have h0 : ¬ ((n : Int) = 0) := by omega
    have e : (x : Int).tmod n = ((x % n : Nat) : Int) := (Int.ofNat_tmod x n).symm
    have hm := Nat.mod_lt x (y := n) (by omega)
    (repeat first|apply sA|apply sB|apply sC|apply sD|apply sE)
    refine V.lineD' (by simp +contextual (disch := first|omega|simp only[nx];omega) only[D4,qF,qG,qA,qB,qC,D5,hF,hA,↓reduceIte,qD,qE, h0, e]; with_reducible rfl) ?_ ?_ rfl ?_
    · simp only[monoG, List.cons_append, List.nil_append, Heap.next_set, Heap.next_alloc, Nat.le_refl, true_and, and_true] <;> omega
    · simp only[dcAll, dcOk, wantD, List.cons_append, List.nil_append, true_and, and_true]
    (repeat first|apply sA|apply sB|apply sC|apply sD|apply sE)
    refine V.nil (Or.inl ⟨rfl, x % n, by omega, ?_⟩)
    exact ⟨n, x % n, rfl, gcd_step hg, rfl, rfl, (by intro;simp only[full_st,hF]), (by simp only[Kn, D5,hF,hA,↓reduceIte,qD,qE,and_self,and_true,true_and];try (repeat' constructor))⟩
  · have h0 : n = 0 := by omega
    subst h0
    rw [Nat.gcd_zero_right] at hg
    subst hg
    refine V.exit ?_
    (repeat first | refine V.pass ?_ | refine V.here ?_ | refine V.out (by decide) ?_)
    refine V.nil (Or.inr ⟨by simp, ?_⟩)
    (repeat first | refine V.pass ?_ | refine V.here ?_ | refine V.out (by decide) ?_)
    (repeat first|apply sA|apply sB|apply sC|apply sD|apply sE)
    refine V.line' (by simp +contextual (disch := first|omega|simp only[nx];omega) only[D4,qF,qG,qA,qB,qC,D5,hF,hA,↓reduceIte,qD,qE]; with_reducible rfl) ?_
    refine V.ret (V.rets rfl (Lv.retG (by simp +contextual (disch := first|omega|simp only[nx];omega) only[D1, cells_alloc_at, cells_alloc_ne, cells_set_at, cells_set_ne, yres, yres1, yresL, qA, qB, qC, D5,hF,hA,↓reduceIte,qD,qE]; rfl) ?_ ?_))
    · (repeat first | assumption | exact Grow.refl _ | refine Grow.alloc ?_ _ | refine Grow.set ?_ (by first|omega|simp only[nx];omega) _)
    · rfl
theorem f92_ok (a b : Nat) (H : Heap) : Gives Try.prog 92 [I a, I b] H (I (Nat.gcd a b : Nat)) := by
  refine F.entryL rfl dg92 do92 de92 rfl (by kernel_rfl) ?_
  simp only[sets]
  refine V.re [(0, I a), (1, I b)] (N := 12) (by intro i; simp only[full_st, Full.mk]) (by simp only[Kn, gt_st, full_st, Full.mk, ↓reduceIte, qD, qE, decide_true, and_self]) ?_
  intro t hF hA
  simp only[Kn, and_true] at hA
  (repeat first|apply sA|apply sB|apply sC|apply sD|apply sE)
  refine V.line' (by simp +contextual (disch := first|omega|simp only[nx];omega) only[D4,qF,qG,qA,qB,qC,D5,hF,hA,↓reduceIte,qD,qE]; with_reducible rfl) ?_
  (repeat first|apply sA|apply sB|apply sC|apply sD|apply sE)
  refine V.loop (fun n t m H' => ∃ (x y : Nat), n = y ∧ Nat.gcd x y = Nat.gcd a b ∧ m = [] ∧ H' = H ∧ Full 12 t ∧ Kn [(0, I x), (1, I y)] t) b ?_ ?_
  · exact ⟨a, b, rfl, rfl, rfl, rfl, (by intro;simp only[full_st,hF]), (by simp only[Kn, D5,hF,hA,↓reduceIte,qD,qE,and_self,and_true,true_and];try (repeat' constructor))⟩
  clear hF hA
  rintro n t m H' ⟨x, y, rfl, hg, rfl, rfl, hF, hA⟩
  simp only[Kn, and_true] at hA
  (repeat first|apply sA|apply sB|apply sC|apply sD|apply sE)
  refine V.line' (by simp +contextual (disch := first|omega|simp only[nx];omega) only[D4,qF,qG,qA,qB,qC,D5,hF,hA,↓reduceIte,qD,qE]; with_reducible rfl) ?_
  (repeat first|apply sA|apply sB|apply sC|apply sD|apply sE)
  refine V.condP (by simp only[D6,D5,hF,hA,↓reduceIte,qD,qE]; rfl) (fun h => ?_) (fun h => ?_)
  · have h0 : ¬ ((n : Int) = 0) := by omega
    have e : (x : Int).tmod n = ((x % n : Nat) : Int) := (Int.ofNat_tmod x n).symm
    have hm := Nat.mod_lt x (y := n) (by omega)
    (repeat first|apply sA|apply sB|apply sC|apply sD|apply sE)
    refine V.lineD' (by simp +contextual (disch := first|omega|simp only[nx];omega) only[D4,qF,qG,qA,qB,qC,D5,hF,hA,↓reduceIte,qD,qE, h0, e]; with_reducible rfl) ?_ ?_ rfl ?_
    · simp only[monoG, List.cons_append, List.nil_append, Heap.next_set, Heap.next_alloc, Nat.le_refl, true_and, and_true] <;> omega
    · simp only[dcAll, dcOk, wantD, List.cons_append, List.nil_append, true_and, and_true]
    (repeat first|apply sA|apply sB|apply sC|apply sD|apply sE)
    refine V.nil (Or.inl ⟨rfl, x % n, by omega, ?_⟩)
    exact ⟨n, x % n, rfl, gcd_step hg, rfl, rfl, (by intro;simp only[full_st,hF]), (by simp only[Kn, D5,hF,hA,↓reduceIte,qD,qE,and_self,and_true,true_and];try (repeat' constructor))⟩
  · have h0 : n = 0 := by omega
    subst h0
    rw [Nat.gcd_zero_right] at hg
    subst hg
    refine V.exit ?_
    (repeat first | refine V.pass ?_ | refine V.here ?_ | refine V.out (by decide) ?_)
    refine V.nil (Or.inr ⟨by simp, ?_⟩)
    (repeat first | refine V.pass ?_ | refine V.here ?_ | refine V.out (by decide) ?_)
    (repeat first|apply sA|apply sB|apply sC|apply sD|apply sE)
    refine V.line' (by simp +contextual (disch := first|omega|simp only[nx];omega) only[D4,qF,qG,qA,qB,qC,D5,hF,hA,↓reduceIte,qD,qE]; with_reducible rfl) ?_
    refine V.ret (V.rets rfl (Lv.retG (by simp +contextual (disch := first|omega|simp only[nx];omega) only[D1, cells_alloc_at, cells_alloc_ne, cells_set_at, cells_set_ne, yres, yres1, yresL, qA, qB, qC, D5,hF,hA,↓reduceIte,qD,qE]; rfl) ?_ ?_))
    · (repeat first | assumption | exact Grow.refl _ | refine Grow.alloc ?_ _ | refine Grow.set ?_ (by first|omega|simp only[nx];omega) _)
    · rfl
abbrev fr (p q : Nat) : List Value := A2 ((p / Nat.gcd p q : Nat) : Int) ((q / Nat.gcd p q : Nat) : Int)
theorem f80_ok (p q : Nat) (hp : p ≤ 4611686018427387904) (hq : 0 < q) (hq2 : q ≤ 4611686018427387904) (H : Heap) : Gives Try.prog 80 [I p, I q] H (.agg ⟨fr p q⟩) := by
  have hg := Nat.gcd_pos_of_pos_right p hq
  have hg0 : ¬ (((Nat.gcd p q : Nat) : Int) = 0) := by omega
  have e1 : (p : Int).tdiv (Nat.gcd p q : Nat) = ((p / Nat.gcd p q : Nat) : Int) := (Int.ofNat_tdiv p _).symm
  have e2 : (q : Int).tdiv (Nat.gcd p q : Nat) = ((q / Nat.gcd p q : Nat) : Int) := (Int.ofNat_tdiv q _).symm
  have d1 := Nat.div_le_self p (Nat.gcd p q)
  have d2 := Nat.div_le_self q (Nat.gcd p q)
  have d3 : (0 : Int) ≤ ((p / Nat.gcd p q : Nat) : Int) := Int.natCast_nonneg _
  have d4 : (0 : Int) ≤ ((q / Nat.gcd p q : Nat) : Int) := Int.natCast_nonneg _
  refine F.entryL rfl dg80 do80 de80 rfl (by kernel_rfl) ?_
  simp only[sets]
  refine V.re [(0, I p), (1, I q)] (N := 16) (by intro i; simp only[full_st, Full.mk]) (by simp only[Kn, gt_st, full_st, Full.mk, ↓reduceIte, qD, qE, decide_true, and_self]) ?_
  intro t hF hA
  simp only[Kn, and_true] at hA
  (repeat first|apply sA|apply sB|apply sC|apply sD|apply sE)
  refine V.line' (by simp +contextual (disch := first|omega|simp only[nx];omega) only[D4,qF,qG,qA,qB,qC,D5,hF,hA,↓reduceIte,qD,qE]; with_reducible rfl) ?_
  (repeat first|apply sA|apply sB|apply sC|apply sD|apply sE)
  refine V.run ?_
  refine VI.steps' 2 (by simp +contextual (disch := first|omega|simp only[nx];omega) only[D4,qF,qG,qA,qB,qC,D5,hF,hA,↓reduceIte,qD,qE]; with_reducible rfl) ?_
  simp only[ds]
  refine VI.callA rfl (f92_ok p q _) (by simp only[D6,D5,hF,hA,↓reduceIte,qD,qE]; try rfl) (fun H2 g2 => ?_)
  have b2 : Bx H2 H.next (A2 0 0) 36 := (Bx.new _ _ _).grow g2
  have g2 : Grow H H2 := ((Grow.refl H).alloc _).trans g2
  have hb2 := b2.1
  refine VI.line' (by simp +contextual (disch := first|omega|simp only[nx];omega) only[D4,qF,qG,qA,qB,qC,D5,hF,hA,↓reduceIte,qD,qE]; with_reducible rfl) ?_
  (repeat first|apply sA|apply sB|apply sC|apply sD|apply sE)
  refine V.lineD' (by simp +contextual (disch := first|omega|simp only[nx];omega) only[D4,qF,qG,qA,qB,qC,D5,hF,hA,↓reduceIte,qD,qE, hg0, e1, e2, b2.2]; with_reducible rfl) ?_ ?_ rfl ?_
  · simp only[monoG, List.cons_append, List.nil_append, Heap.next_set, Heap.next_alloc, Nat.le_refl, true_and, and_true] <;> omega
  · simp only[dcAll, dcOk, wantD, List.cons_append, List.nil_append, true_and, and_true]
  (repeat first|apply sA|apply sB|apply sC|apply sD|apply sE)
  refine V.ret (V.rets rfl (Lv.retG (by simp +contextual (disch := first|omega|simp only[nx];omega) only[D1, cells_alloc_at, cells_alloc_ne, cells_set_at, cells_set_ne, yres, yres1, yresL, qA, qB, qC, D5,hF,hA,↓reduceIte,qD,qE, b2.2]; rfl) ?_ ?_))
  · (repeat first | assumption | exact Grow.refl _ | refine Grow.alloc ?_ _ | refine Grow.set ?_ (by first|omega|simp only[nx];omega) _)
  · rfl
end Go.Xe.TMX
