/- What the functions of the layer miss come to: what is valid. Conditions: none. -/
import Derived.Test.YtglkpemncjoefaaYk
import Derived.Test.YtglkpemncjoefaaTMO
-- MOD TM
namespace Go.Xe.TMX
open Go Go.Xe Go.Proofs
open Nat renaming reduceLeDiff → qA, reduceSub → qB, reduceAdd → qC, reduceEqDiff → qD, reduceLT → qE
open Int renaming reduceNegSucc → qF, reduceEq → qG
open Go.Xe.V renaming seq → sA, block → sB, scope → sC, skip → sD, close → sE
open Go.Xe renaming pth → P
set_option maxRecDepth 100000
set_option maxHeartbeats 1600000
set_option linter.unusedSimpArgs false
noncomputable def d23 : FCode := (.seq (.run (.go (.move (.con (.bool false))) (P 6)::
[])) (.seq (.run (.go (.move (.tmp (P 0))) (P 7)::
.go (.move (.tmp (P 1))) (P 8)::
.go (.bin .geq 3 (.tmp (P 7)) (.tmp (P 8))) (P 9)::
.go (.move (.tmp (P 9))) (P 10)::
.gd (P 10) true (.move (.tmp (P 0))) (P 11)::
.gd (P 10) true (.move (.tmp (P 2))) (P 12)::
.gd (P 10) true (.bin .leq 3 (.tmp (P 11)) (.tmp (P 12))) (P 13)::
.go (.pick (.tmp (P 10)) (.tmp (P 13)) (.con (.bool false))) (P 14)::
.go (.move (.tmp (P 14))) (P 6)::
[])) .ret))
theorem de23 : @compF Try.prog (Gl.none Try.prog) Try.f23 3 = .mk d23 (mkTT 15) [(P 0),(P 1),(P 2)] [.tmp (P 6)] := by kernel_rfl
theorem dg23 : Try.prog.funcs[23]? = some Try.f23 := Try.func23
theorem do23 : okF Try.prog Try.f23 = true := by kernel_rfl
noncomputable def d52 : FCode := (.seq (.run (.go (.box 53 (.tmp (P 0))) (P 2)::
.go (.move (.con (.bool false))) (P 4)::
[])) (.seq (.run (.go (.fieldAddr 0 (.tmp (P 2))) (P 5)::
.go (.load1 (.tmp (P 5))) (P 6)::
.go (.move (.tmp (P 1))) (P 7)::
.go (.bin .leq 3 (.tmp (P 6)) (.tmp (P 7))) (P 8)::
.go (.move (.tmp (P 8))) (P 9)::
.gd (P 9) true (.move (.tmp (P 1))) (P 10)::
.gd (P 9) true (.fieldAddr 1 (.tmp (P 2))) (P 11)::
.gd (P 9) true (.load1 (.tmp (P 11))) (P 12)::
.gd (P 9) true (.bin .leq 3 (.tmp (P 10)) (.tmp (P 12))) (P 13)::
.go (.pick (.tmp (P 9)) (.tmp (P 13)) (.con (.bool false))) (P 14)::
.go (.move (.tmp (P 14))) (P 4)::
[])) .ret))
theorem de52 : @compF Try.prog (Gl.none Try.prog) Try.f52 2 = .mk d52 (mkTT 15) [(P 0),(P 1)] [.tmp (P 4)] := by kernel_rfl
theorem dg52 : Try.prog.funcs[52]? = some Try.f52 := Try.func52
theorem do52 : okF Try.prog Try.f52 = true := by kernel_rfl
noncomputable def d21 : FCode := (.seq (.run (.go (.box 23 (.tmp (P 0))) (P 1)::
.go (.alloc 28 [(.int .i64 (.ofNat 0)),(.int .i64 (.ofNat 0)),(.int .i64 (.ofNat 0)),(.int .i64 (.ofNat 0))]) (P 2)::
[])) (.seq (.run (.go (.fieldAddr 0 (.tmp (P 1))) (P 3)::
.go (.load1 (.tmp (P 3))) (P 4)::
.go (.fieldAddr 1 (.tmp (P 1))) (P 5)::
.go (.load1 (.tmp (P 5))) (P 6)::
.go (.fieldAddr 2 (.tmp (P 1))) (P 7)::
.go (.load1 (.tmp (P 7))) (P 8)::
.go (.fieldAddr 3 (.tmp (P 1))) (P 9)::
.go (.load1 (.tmp (P 9))) (P 10)::
.go (.build [(.int .i64 (.ofNat 0)),(.int .i64 (.ofNat 0)),(.int .i64 (.ofNat 0)),(.int .i64 (.ofNat 0))] [(0,1,(.tmp (P 4))),(1,1,(.tmp (P 6))),(2,1,(.tmp (P 8))),(3,1,(.tmp (P 10)))]) (P 11)::
.un (.store 4 (.tmp (P 2)) (.tmp (P 11)))::
[])) .ret))
theorem de21 : @compF Try.prog (Gl.none Try.prog) Try.f21 1 = .mk d21 (mkTT 12) [(P 0)] [.many (P 2) 4] := by kernel_rfl
theorem dg21 : Try.prog.funcs[21]? = some Try.f21 := Try.func21
theorem do21 : okF Try.prog Try.f21 = true := by kernel_rfl
noncomputable def d28 : FCode := (.seq (.run (.go (.box 41 (.tmp (P 0))) (P 1)::
.go (.alloc 36 [(.int .i64 (.ofNat 0)),(.int .i64 (.ofNat 0))]) (P 2)::
[])) (.seq (.run (.go (.fieldAddr 0 (.tmp (P 1))) (P 3)::
.go (.load1 (.tmp (P 3))) (P 4)::
.go (.fieldAddr 1 (.tmp (P 1))) (P 5)::
.go (.load1 (.tmp (P 5))) (P 6)::
.go (.build [(.int .i64 (.ofNat 0)),(.int .i64 (.ofNat 0))] [(0,1,(.tmp (P 4))),(1,1,(.tmp (P 6)))]) (P 7)::
.un (.store 2 (.tmp (P 2)) (.tmp (P 7)))::
[])) .ret))
theorem de28 : @compF Try.prog (Gl.none Try.prog) Try.f28 1 = .mk d28 (mkTT 8) [(P 0)] [.many (P 2) 2] := by kernel_rfl
theorem dg28 : Try.prog.funcs[28]? = some Try.f28 := Try.func28
theorem do28 : okF Try.prog Try.f28 = true := by kernel_rfl
noncomputable def d41 : FCode := (.seq (.run (.go (.move (.con (.bool false))) (P 4)::
[])) (.seq (.run (.go (.move (.tmp (P 0))) (P 5)::
.go (.call (.con (.func (.func 23) ⟨[]⟩ ⟨[]⟩)) [(.tmp (P 5)),(.con (.int .i64 (.ofNat 0))),(.con (.int .i64 (.ofNat 50)))]) (P 6)::
.go (.move (.tmp (P 6))) (P 7)::
.gd (P 7) true (.move (.tmp (P 1))) (P 8)::
.gd (P 7) true (.call (.con (.func (.func 23) ⟨[]⟩ ⟨[]⟩)) [(.tmp (P 8)),(.con (.int .i64 (.ofNat 0))),(.con (.int .i64 (.ofNat 50)))]) (P 9)::
.go (.pick (.tmp (P 7)) (.tmp (P 9)) (.con (.bool false))) (P 10)::
.go (.move (.tmp (P 10))) (P 11)::
.gd (P 11) true (.move (.tmp (P 0))) (P 12)::
.gd (P 11) true (.move (.tmp (P 1))) (P 13)::
.gd (P 11) true (.bin .add 3 (.tmp (P 12)) (.tmp (P 13))) (P 14)::
.gd (P 11) true (.bin .leq 3 (.tmp (P 14)) (.con (.int .i64 (.ofNat 50)))) (P 15)::
.go (.pick (.tmp (P 11)) (.tmp (P 15)) (.con (.bool false))) (P 16)::
.go (.move (.tmp (P 16))) (P 4)::
[])) .ret))
theorem de41 : @compF Try.prog (Gl.none Try.prog) Try.f41 2 = .mk d41 (mkTT 17) [(P 0),(P 1)] [.tmp (P 4)] := by kernel_rfl
theorem dg41 : Try.prog.funcs[41]? = some Try.f41 := Try.func41
theorem do41 : okF Try.prog Try.f41 = true := by kernel_rfl
noncomputable def d48 : FCode := (.seq (.run (.go (.box 23 (.tmp (P 0))) (P 1)::
.go (.move (.con (.bool false))) (P 2)::
[])) (.seq (.run (.go (.fieldAddr 0 (.tmp (P 1))) (P 3)::
.go (.load1 (.tmp (P 3))) (P 4)::
.go (.fieldAddr 1 (.tmp (P 1))) (P 5)::
.go (.load1 (.tmp (P 5))) (P 6)::
.go (.call (.con (.func (.func 41) ⟨[]⟩ ⟨[]⟩)) [(.tmp (P 4)),(.tmp (P 6))]) (P 7)::
.go (.move (.tmp (P 7))) (P 8)::
.gd (P 8) true (.fieldAddr 2 (.tmp (P 1))) (P 9)::
.gd (P 8) true (.load1 (.tmp (P 9))) (P 10)::
.gd (P 8) true (.fieldAddr 0 (.tmp (P 1))) (P 11)::
.gd (P 8) true (.load1 (.tmp (P 11))) (P 12)::
.gd (P 8) true (.call (.con (.func (.func 23) ⟨[]⟩ ⟨[]⟩)) [(.tmp (P 10)),(.con (.int .i64 (.ofNat 0))),(.tmp (P 12))]) (P 13)::
.go (.pick (.tmp (P 8)) (.tmp (P 13)) (.con (.bool false))) (P 14)::
.go (.move (.tmp (P 14))) (P 15)::
.gd (P 15) true (.fieldAddr 3 (.tmp (P 1))) (P 16)::
.gd (P 15) true (.load1 (.tmp (P 16))) (P 17)::
.gd (P 15) true (.fieldAddr 2 (.tmp (P 1))) (P 18)::
.gd (P 15) true (.load1 (.tmp (P 18))) (P 19)::
.gd (P 15) true (.call (.con (.func (.func 23) ⟨[]⟩ ⟨[]⟩)) [(.tmp (P 17)),(.con (.int .i64 (.ofNat 0))),(.tmp (P 19))]) (P 20)::
.go (.pick (.tmp (P 15)) (.tmp (P 20)) (.con (.bool false))) (P 21)::
.go (.move (.tmp (P 21))) (P 2)::
[])) .ret))
theorem de48 : @compF Try.prog (Gl.none Try.prog) Try.f48 1 = .mk d48 (mkTT 22) [(P 0)] [.tmp (P 2)] := by kernel_rfl
theorem dg48 : Try.prog.funcs[48]? = some Try.f48 := Try.func48
theorem do48 : okF Try.prog Try.f48 = true := by kernel_rfl
noncomputable def d36 : FCode := (.seq (.run (.go (.box 41 (.tmp (P 0))) (P 1)::
.go (.move (.con (.bool false))) (P 2)::
[])) (.seq (.run (.go (.fieldAddr 1 (.tmp (P 1))) (P 3)::
.go (.load1 (.tmp (P 3))) (P 4)::
.go (.call (.con (.func (.func 23) ⟨[]⟩ ⟨[]⟩)) [(.tmp (P 4)),(.con (.int .i64 (.ofNat 1))),(.con (.int .i64 (.ofNat 1000)))]) (P 5)::
.go (.move (.tmp (P 5))) (P 6)::
.gd (P 6) true (.fieldAddr 0 (.tmp (P 1))) (P 7)::
.gd (P 6) true (.load1 (.tmp (P 7))) (P 8)::
.gd (P 6) true (.fieldAddr 1 (.tmp (P 1))) (P 9)::
.gd (P 6) true (.load1 (.tmp (P 9))) (P 10)::
.gd (P 6) true (.call (.con (.func (.func 23) ⟨[]⟩ ⟨[]⟩)) [(.tmp (P 8)),(.con (.int .i64 (.ofNat 0))),(.tmp (P 10))]) (P 11)::
.go (.pick (.tmp (P 6)) (.tmp (P 11)) (.con (.bool false))) (P 12)::
.go (.move (.tmp (P 12))) (P 2)::
[])) .ret))
theorem de36 : @compF Try.prog (Gl.none Try.prog) Try.f36 1 = .mk d36 (mkTT 13) [(P 0)] [.tmp (P 2)] := by kernel_rfl
theorem dg36 : Try.prog.funcs[36]? = some Try.f36 := Try.func36
theorem do36 : okF Try.prog Try.f36 = true := by kernel_rfl
noncomputable def d22 : FCode := (.seq (.run (.go (.box 23 (.tmp (P 0))) (P 1)::
.go (.move (.con (.int .i64 (.ofNat 0)))) (P 2)::
[])) (.seq (.seq (.run (.go (.loadN 4 (.tmp (P 1))) (P 3)::
.go (.call (.con (.func (.func 48) ⟨[]⟩ ⟨[]⟩)) [(.tmp (P 3))]) (P 4)::
.go (.un .not (.tmp (P 4))) (P 5)::
[])) (.cond (.tmp (P 5)) (.seq (.run (.go (.move (.con (.int .i64 (.ofNat 1)))) (P 2)::
[])) .ret) .skip)) (.seq (.run (.go (.move (.con (.int .i64 (.ofNat 0)))) (P 2)::
[])) .ret)))
theorem de22 : @compF Try.prog (Gl.none Try.prog) Try.f22 1 = .mk d22 (mkTT 6) [(P 0)] [.tmp (P 2)] := by kernel_rfl
theorem dg22 : Try.prog.funcs[22]? = some Try.f22 := Try.func22
theorem do22 : okF Try.prog Try.f22 = true := by kernel_rfl
noncomputable def d72 : FCode := (.seq (.run (.go (.move (.con (.bool false))) (P 4)::
[])) (.seq (.seq (.run (.go (.move (.tmp (P 0))) (P 7)::
.go (.len 0 (.tmp (P 7))) (P 8)::
.go (.move (.con (.int .i64 (.ofNat 0)))) (P 9)::
[])) (.block 0 (.loop (.seq (.run (.go (.bin .lss 3 (.tmp (P 9)) (.tmp (P 8))) (P 10)::
[])) (.seq (.cond (.tmp (P 10)) .skip (.exit 0)) (.seq (.block 1 (.seq (.run (.go (.indexAddr none 1 (.tmp (P 7)) (.tmp (P 9))) (P 11)::
.go (.load1 (.tmp (P 11))) (P 12)::
.go (.move (.tmp (P 12))) (P 6)::
[])) (.seq (.run (.go (.move (.tmp (P 1))) (P 13)::
.go (.move (.tmp (P 6))) (P 14)::
.go (.call (.tmp (P 13)) [(.tmp (P 14))]) (P 15)::
.go (.un .not (.tmp (P 15))) (P 16)::
[])) (.cond (.tmp (P 16)) (.seq (.run (.go (.move (.con (.bool false))) (P 4)::
[])) .ret) .skip)))) (.run (.go (.bin .add 3 (.tmp (P 9)) (.con (.int .i64 (.ofNat 1)))) (P 17)::
.go (.move (.tmp (P 17))) (P 9)::
[])))))))) (.seq (.run (.go (.move (.con (.bool true))) (P 4)::
[])) .ret)))
theorem de72 : @compF Try.prog (Gl.none Try.prog) Try.f72 2 = .mk d72 (mkTT 18) [(P 0),(P 1)] [.tmp (P 4)] := by kernel_rfl
theorem dg72 : Try.prog.funcs[72]? = some Try.f72 := Try.func72
theorem do72 : okF Try.prog Try.f72 = true := by kernel_rfl
noncomputable def d86 : FCode := (.seq (.run (.go (.move (.con (.int .i64 (.ofNat 0)))) (P 2)::
[])) (.seq (.run (.go (.move (.con (.int .i64 (.ofNat 0)))) (P 3)::
[])) (.seq (.seq (.run (.go (.move (.tmp (P 0))) (P 6)::
.go (.len 0 (.tmp (P 6))) (P 7)::
.go (.move (.con (.int .i64 (.ofNat 0)))) (P 8)::
[])) (.block 0 (.loop (.seq (.run (.go (.bin .lss 3 (.tmp (P 8)) (.tmp (P 7))) (P 9)::
[])) (.seq (.cond (.tmp (P 9)) .skip (.exit 0)) (.seq (.block 1 (.seq (.run (.go (.indexAddr none 1 (.tmp (P 6)) (.tmp (P 8))) (P 10)::
.go (.load1 (.tmp (P 10))) (P 11)::
.go (.move (.tmp (P 11))) (P 5)::
[])) (.run (.go (.move (.tmp (P 3))) (P 12)::
.go (.move (.tmp (P 5))) (P 13)::
.go (.bin .add 3 (.tmp (P 12)) (.tmp (P 13))) (P 14)::
.go (.move (.tmp (P 14))) (P 3)::
[])))) (.run (.go (.bin .add 3 (.tmp (P 8)) (.con (.int .i64 (.ofNat 1)))) (P 15)::
.go (.move (.tmp (P 15))) (P 8)::
[])))))))) (.seq (.run (.go (.move (.tmp (P 3))) (P 16)::
.go (.move (.tmp (P 16))) (P 2)::
[])) .ret))))
theorem de86 : @compF Try.prog (Gl.none Try.prog) Try.f86 1 = .mk d86 (mkTT 17) [(P 0)] [.tmp (P 2)] := by kernel_rfl
theorem dg86 : Try.prog.funcs[86]? = some Try.f86 := Try.func86
theorem do86 : okF Try.prog Try.f86 = true := by kernel_rfl
@[reducible] instance gl : Gl Try.prog := Gl.none Try.prog
@[reducible] instance orc : Orc Try.prog := TMO.orc
abbrev I (n : Int) : Value := .int .i64 n
abbrev U : Value := undef
abbrev A2 (a b : Int) : List Value := [I a, I b]
abbrev A4 (a b c d : Int) : List Value := [I a, I b, I c, I d]
theorem f24_ok (H : Heap) : Gives Try.prog 24 [] H (.bool true) := .orc rfl
theorem f23_ok (a b c : Int) (H : Heap) : Gives Try.prog 23 [I a, I b, I c] H (.bool (decide (b ≤ a ∧ a ≤ c))) := by
  refine F.entryL rfl dg23 do23 de23 rfl (by kernel_rfl) ?_
  simp only[sets]
  refine V.re [(0, I a), (1, I b), (2, I c)] (N := 15) (by intro i; simp only[full_st, Full.mk]) (by simp only[Kn, gt_st, full_st, Full.mk, ↓reduceIte, qD, qE, decide_true, and_self]) ?_
  intro t hF hA
  simp only[Kn, and_true] at hA
  (repeat first|apply sA|apply sB|apply sC|apply sD|apply sE)
  refine V.line' (by simp +contextual (disch := first|omega|simp only[nx];omega) only[D4,qF,qG,qA,qB,qC,D5,hF,hA,↓reduceIte,qD,qE]; with_reducible rfl) ?_
  (repeat first|apply sA|apply sB|apply sC|apply sD|apply sE)
  refine V.line' (by simp +contextual (disch := first|omega|simp only[nx];omega) only[D4,qF,qG,qA,qB,qC,D5,hF,hA,↓reduceIte,qD,qE]; with_reducible rfl) ?_
  (repeat first|apply sA|apply sB|apply sC|apply sD|apply sE)
  refine V.ret (V.rets rfl (Lv.retG (by simp +contextual (disch := first|omega|simp only[nx];omega) only[D1, cells_alloc_at, cells_alloc_ne, cells_set_at, cells_set_ne, yres, yres1, yresL, qA, qB, qC, D5,hF,hA,↓reduceIte,qD,qE]; rfl) ?_ ?_))
  · (repeat first | assumption | exact Grow.refl _ | refine Grow.alloc ?_ _ | refine Grow.set ?_ (by first|omega|simp only[nx];omega) _)
  · rfl
theorem f52_ok (a b n : Int) (H : Heap) : Gives Try.prog 52 [.agg ⟨A2 a b⟩, I n] H (.bool (decide (a ≤ n ∧ n ≤ b))) := by
  refine F.entryL rfl dg52 do52 de52 rfl (by kernel_rfl) ?_
  simp only[sets]
  refine V.re [(0, .agg ⟨A2 a b⟩), (1, I n)] (N := 15) (by intro i; simp only[full_st, Full.mk]) (by simp only[Kn, gt_st, full_st, Full.mk, ↓reduceIte, qD, qE, decide_true, and_self]) ?_
  intro t hF hA
  simp only[Kn, and_true] at hA
  (repeat first|apply sA|apply sB|apply sC|apply sD|apply sE)
  refine V.line' (by simp +contextual (disch := first|omega|simp only[nx];omega) only[D4,qF,qG,qA,qB,qC,D5,hF,hA,↓reduceIte,qD,qE]; with_reducible rfl) ?_
  (repeat first|apply sA|apply sB|apply sC|apply sD|apply sE)
  refine V.line' (by simp +contextual (disch := first|omega|simp only[nx];omega) only[D4,qF,qG,qA,qB,qC,D5,hF,hA,↓reduceIte,qD,qE]; with_reducible rfl) ?_
  (repeat first|apply sA|apply sB|apply sC|apply sD|apply sE)
  refine V.ret (V.rets rfl (Lv.retG (by simp +contextual (disch := first|omega|simp only[nx];omega) only[D1, cells_alloc_at, cells_alloc_ne, cells_set_at, cells_set_ne, yres, yres1, yresL, qA, qB, qC, D5,hF,hA,↓reduceIte,qD,qE]; rfl) ?_ ?_))
  · (repeat first | assumption | exact Grow.refl _ | refine Grow.alloc ?_ _ | refine Grow.set ?_ (by first|omega|simp only[nx];omega) _)
  · rfl
theorem f21_ok (a b c d : Int) (H : Heap) : Gives Try.prog 21 [.agg ⟨A4 a b c d⟩] H (.agg ⟨A4 a b c d⟩) := by
  refine F.entryL rfl dg21 do21 de21 rfl (by kernel_rfl) ?_
  simp only[sets]
  refine V.re [(0, .agg ⟨A4 a b c d⟩)] (N := 12) (by intro i; simp only[full_st, Full.mk]) (by simp only[Kn, gt_st, full_st, Full.mk, ↓reduceIte, qD, qE, decide_true, and_self]) ?_
  intro t hF hA
  simp only[Kn, and_true] at hA
  (repeat first|apply sA|apply sB|apply sC|apply sD|apply sE)
  refine V.line' (by simp +contextual (disch := first|omega|simp only[nx];omega) only[D4,qF,qG,qA,qB,qC,D5,hF,hA,↓reduceIte,qD,qE]; with_reducible rfl) ?_
  (repeat first|apply sA|apply sB|apply sC|apply sD|apply sE)
  refine V.line' (by simp +contextual (disch := first|omega|simp only[nx];omega) only[D4,qF,qG,qA,qB,qC,D5,hF,hA,↓reduceIte,qD,qE]; with_reducible rfl) ?_
  (repeat first|apply sA|apply sB|apply sC|apply sD|apply sE)
  refine V.ret (V.rets rfl (Lv.retG (by simp +contextual (disch := first|omega|simp only[nx];omega) only[D1, cells_alloc_at, cells_alloc_ne, cells_set_at, cells_set_ne, yres, yres1, yresL, qA, qB, qC, D5,hF,hA,↓reduceIte,qD,qE]; rfl) ?_ ?_))
  · (repeat first | assumption | exact Grow.refl _ | refine Grow.alloc ?_ _ | refine Grow.set ?_ (by first|omega|simp only[nx];omega) _)
  · rfl
theorem f28_ok (a b : Int) (H : Heap) : Gives Try.prog 28 [.agg ⟨A2 a b⟩] H (.agg ⟨A2 a b⟩) := by
  refine F.entryL rfl dg28 do28 de28 rfl (by kernel_rfl) ?_
  simp only[sets]
  refine V.re [(0, .agg ⟨A2 a b⟩)] (N := 8) (by intro i; simp only[full_st, Full.mk]) (by simp only[Kn, gt_st, full_st, Full.mk, ↓reduceIte, qD, qE, decide_true, and_self]) ?_
  intro t hF hA
  simp only[Kn, and_true] at hA
  (repeat first|apply sA|apply sB|apply sC|apply sD|apply sE)
  refine V.line' (by simp +contextual (disch := first|omega|simp only[nx];omega) only[D4,qF,qG,qA,qB,qC,D5,hF,hA,↓reduceIte,qD,qE]; with_reducible rfl) ?_
  (repeat first|apply sA|apply sB|apply sC|apply sD|apply sE)
  refine V.line' (by simp +contextual (disch := first|omega|simp only[nx];omega) only[D4,qF,qG,qA,qB,qC,D5,hF,hA,↓reduceIte,qD,qE]; with_reducible rfl) ?_
  (repeat first|apply sA|apply sB|apply sC|apply sD|apply sE)
  refine V.ret (V.rets rfl (Lv.retG (by simp +contextual (disch := first|omega|simp only[nx];omega) only[D1, cells_alloc_at, cells_alloc_ne, cells_set_at, cells_set_ne, yres, yres1, yresL, qA, qB, qC, D5,hF,hA,↓reduceIte,qD,qE]; rfl) ?_ ?_))
  · (repeat first | assumption | exact Grow.refl _ | refine Grow.alloc ?_ _ | refine Grow.set ?_ (by first|omega|simp only[nx];omega) _)
  · rfl
def pr (a b : Int) : Prop := (0 ≤ a ∧ a ≤ 50) ∧ (0 ≤ b ∧ b ≤ 50) ∧ a + b ≤ 50
instance (a b : Int) : Decidable (pr a b) := by unfold pr; infer_instance
def ar (a b c d : Int) : Prop := pr a b ∧ (0 ≤ c ∧ c ≤ a) ∧ (0 ≤ d ∧ d ≤ c)
instance (a b c d : Int) : Decidable (ar a b c d) := by unfold ar; infer_instance
def lv (n d : Int) : Prop := (1 ≤ d ∧ d ≤ 1000) ∧ (0 ≤ n ∧ n ≤ d)
instance (n d : Int) : Decidable (lv n d) := by unfold lv; infer_instance
theorem f41_ok (a b : Int) (H : Heap) : Gives Try.prog 41 [I a, I b] H (.bool (decide (pr a b))) := by
  refine F.entryL rfl dg41 do41 de41 rfl (by kernel_rfl) ?_
  simp only[sets]
  refine V.re [(0, I a), (1, I b)] (N := 17) (by intro i; simp only[full_st, Full.mk]) (by simp only[Kn, gt_st, full_st, Full.mk, ↓reduceIte, qD, qE, decide_true, and_self]) ?_
  intro t hF hA
  simp only[Kn, and_true] at hA
  (repeat first|apply sA|apply sB|apply sC|apply sD|apply sE)
  refine V.line' (by simp +contextual (disch := first|omega|simp only[nx];omega) only[D4,qF,qG,qA,qB,qC,D5,hF,hA,↓reduceIte,qD,qE]; with_reducible rfl) ?_
  (repeat first|apply sA|apply sB|apply sC|apply sD|apply sE)
  refine V.run ?_
  refine VI.steps' 1 (by simp +contextual (disch := first|omega|simp only[nx];omega) only[D4,qF,qG,qA,qB,qC,D5,hF,hA,↓reduceIte,qD,qE]; with_reducible rfl) ?_
  simp only[ds]
  refine VI.callA rfl (f23_ok a 0 50 _) (by simp only[D6,D5,hF,hA,↓reduceIte,qD,qE]; try rfl) (fun H2 g2 => ?_)
  refine VI.steps' 2 (by simp +contextual (disch := first|omega|simp only[nx];omega) only[D4,qF,qG,qA,qB,qC,D5,hF,hA,↓reduceIte,qD,qE]; with_reducible rfl) ?_
  simp only[ds]
  first | refine VI.callGt (by simp only[D5,hF,hA,↓reduceIte,qD,qE]; try rfl) (fun hc => by simp only[D6,D5,hF,hA,↓reduceIte,qD,qE, hc, and_self, and_true, true_and, not_false_eq_true]; try rfl) (fun hc => f23_ok b 0 50 _) (fun hc => by simp only[D6,D5,hF,hA,↓reduceIte,qD,qE, hc, and_self, and_true, true_and, not_false_eq_true]; try rfl) (fun H3 g3 => ?_) | refine VI.callGf (by simp only[D5,hF,hA,↓reduceIte,qD,qE]; try rfl) (fun hc => by simp only[D6,D5,hF,hA,↓reduceIte,qD,qE, hc, and_self, and_true, true_and, not_false_eq_true]; try rfl) (fun hc => f23_ok b 0 50 _) (fun hc => by simp only[D6,D5,hF,hA,↓reduceIte,qD,qE, hc, and_self, and_true, true_and, not_false_eq_true]; try rfl) (fun H3 g3 => ?_)
  refine VI.line' (by simp +contextual (disch := first|omega|simp only[nx];omega) only[D4,qF,qG,qA,qB,qC,D5,hF,hA,↓reduceIte,qD,qE]; with_reducible rfl) ?_
  (repeat first|apply sA|apply sB|apply sC|apply sD|apply sE)
  refine V.ret (V.rets rfl (Lv.retG (by simp +contextual (disch := first|omega|simp only[nx];omega) only[D1, cells_alloc_at, cells_alloc_ne, cells_set_at, cells_set_ne, yres, yres1, yresL, qA, qB, qC, D5,hF,hA,↓reduceIte,qD,qE]; rfl) ?_ ?_))
  · exact g2.trans g3
  · congr 1; exact decide_eq_decide.2 (by unfold pr; omega)
theorem f48_ok (a b c d : Int) (H : Heap) : Gives Try.prog 48 [.agg ⟨A4 a b c d⟩] H (.bool (decide (ar a b c d))) := by
  refine F.entryL rfl dg48 do48 de48 rfl (by kernel_rfl) ?_
  simp only[sets]
  refine V.re [(0, .agg ⟨A4 a b c d⟩)] (N := 22) (by intro i; simp only[full_st, Full.mk]) (by simp only[Kn, gt_st, full_st, Full.mk, ↓reduceIte, qD, qE, decide_true, and_self]) ?_
  intro t hF hA
  simp only[Kn, and_true] at hA
  (repeat first|apply sA|apply sB|apply sC|apply sD|apply sE)
  refine V.line' (by simp +contextual (disch := first|omega|simp only[nx];omega) only[D4,qF,qG,qA,qB,qC,D5,hF,hA,↓reduceIte,qD,qE]; with_reducible rfl) ?_
  (repeat first|apply sA|apply sB|apply sC|apply sD|apply sE)
  refine V.run ?_
  refine VI.steps' 4 (by simp +contextual (disch := first|omega|simp only[nx];omega) only[D4,qF,qG,qA,qB,qC,D5,hF,hA,↓reduceIte,qD,qE]; with_reducible rfl) ?_
  simp only[ds]
  refine VI.callA rfl (f41_ok a b _) (by simp only[D6,D5,hF,hA,↓reduceIte,qD,qE]; try rfl) (fun H2 g2 => ?_)
  have b2 : Bx H2 H.next (A4 a b c d) 23 := (Bx.new _ _ _).grow g2
  have g2 : Grow H H2 := ((Grow.refl H).alloc _).trans g2
  refine VI.steps' 5 (by simp +contextual (disch := first|omega|simp only[nx];omega) only[D4,qF,qG,qA,qB,qC,D5,hF,hA,↓reduceIte,qD,qE, b2.2]; with_reducible rfl) ?_
  simp only[ds]
  first | refine VI.callGt (by simp only[D5,hF,hA,↓reduceIte,qD,qE]; try rfl) (fun hc => by simp only[D6,D5,hF,hA,↓reduceIte,qD,qE, hc, and_self, and_true, true_and, not_false_eq_true]; try rfl) (fun hc => f23_ok c 0 a _) (fun hc => by simp only[D6,D5,hF,hA,↓reduceIte,qD,qE, hc, and_self, and_true, true_and, not_false_eq_true]; try rfl) (fun H3 g3 => ?_) | refine VI.callGf (by simp only[D5,hF,hA,↓reduceIte,qD,qE]; try rfl) (fun hc => by simp only[D6,D5,hF,hA,↓reduceIte,qD,qE, hc, and_self, and_true, true_and, not_false_eq_true]; try rfl) (fun hc => f23_ok c 0 a _) (fun hc => by simp only[D6,D5,hF,hA,↓reduceIte,qD,qE, hc, and_self, and_true, true_and, not_false_eq_true]; try rfl) (fun H3 g3 => ?_)
  have b3 := b2.grow g3
  refine VI.steps' 6 (by simp +contextual (disch := first|omega|simp only[nx];omega) only[D4,qF,qG,qA,qB,qC,D5,hF,hA,↓reduceIte,qD,qE, b3.2]; with_reducible rfl) ?_
  simp only[ds]
  first | refine VI.callGt (by simp only[D5,hF,hA,↓reduceIte,qD,qE]; try rfl) (fun hc => by simp only[D6,D5,hF,hA,↓reduceIte,qD,qE, hc, and_self, and_true, true_and, not_false_eq_true]; try rfl) (fun hc => f23_ok d 0 c _) (fun hc => by simp only[D6,D5,hF,hA,↓reduceIte,qD,qE, hc, and_self, and_true, true_and, not_false_eq_true]; try rfl) (fun H4 g4 => ?_) | refine VI.callGf (by simp only[D5,hF,hA,↓reduceIte,qD,qE]; try rfl) (fun hc => by simp only[D6,D5,hF,hA,↓reduceIte,qD,qE, hc, and_self, and_true, true_and, not_false_eq_true]; try rfl) (fun hc => f23_ok d 0 c _) (fun hc => by simp only[D6,D5,hF,hA,↓reduceIte,qD,qE, hc, and_self, and_true, true_and, not_false_eq_true]; try rfl) (fun H4 g4 => ?_)
  refine VI.line' (by simp +contextual (disch := first|omega|simp only[nx];omega) only[D4,qF,qG,qA,qB,qC,D5,hF,hA,↓reduceIte,qD,qE]; with_reducible rfl) ?_
  (repeat first|apply sA|apply sB|apply sC|apply sD|apply sE)
  refine V.ret (V.rets rfl (Lv.retG (by simp +contextual (disch := first|omega|simp only[nx];omega) only[D1, cells_alloc_at, cells_alloc_ne, cells_set_at, cells_set_ne, yres, yres1, yresL, qA, qB, qC, D5,hF,hA,↓reduceIte,qD,qE]; rfl) ?_ ?_))
  · exact (g2.trans g3).trans g4
  · congr 1; exact decide_eq_decide.2 (by unfold ar; exact and_assoc)
theorem f36_ok (n d : Int) (H : Heap) : Gives Try.prog 36 [.agg ⟨A2 n d⟩] H (.bool (decide (lv n d))) := by
  refine F.entryL rfl dg36 do36 de36 rfl (by kernel_rfl) ?_
  simp only[sets]
  refine V.re [(0, .agg ⟨A2 n d⟩)] (N := 13) (by intro i; simp only[full_st, Full.mk]) (by simp only[Kn, gt_st, full_st, Full.mk, ↓reduceIte, qD, qE, decide_true, and_self]) ?_
  intro t hF hA
  simp only[Kn, and_true] at hA
  (repeat first|apply sA|apply sB|apply sC|apply sD|apply sE)
  refine V.line' (by simp +contextual (disch := first|omega|simp only[nx];omega) only[D4,qF,qG,qA,qB,qC,D5,hF,hA,↓reduceIte,qD,qE]; with_reducible rfl) ?_
  (repeat first|apply sA|apply sB|apply sC|apply sD|apply sE)
  refine V.run ?_
  refine VI.steps' 2 (by simp +contextual (disch := first|omega|simp only[nx];omega) only[D4,qF,qG,qA,qB,qC,D5,hF,hA,↓reduceIte,qD,qE]; with_reducible rfl) ?_
  simp only[ds]
  refine VI.callA rfl (f23_ok d 1 1000 _) (by simp only[D6,D5,hF,hA,↓reduceIte,qD,qE]; try rfl) (fun H2 g2 => ?_)
  have b2 : Bx H2 H.next (A2 n d) 41 := (Bx.new _ _ _).grow g2
  have g2 : Grow H H2 := ((Grow.refl H).alloc _).trans g2
  refine VI.steps' 5 (by simp +contextual (disch := first|omega|simp only[nx];omega) only[D4,qF,qG,qA,qB,qC,D5,hF,hA,↓reduceIte,qD,qE, b2.2]; with_reducible rfl) ?_
  simp only[ds]
  first | refine VI.callGt (by simp only[D5,hF,hA,↓reduceIte,qD,qE]; try rfl) (fun hc => by simp only[D6,D5,hF,hA,↓reduceIte,qD,qE, hc, and_self, and_true, true_and, not_false_eq_true]; try rfl) (fun hc => f23_ok n 0 d _) (fun hc => by simp only[D6,D5,hF,hA,↓reduceIte,qD,qE, hc, and_self, and_true, true_and, not_false_eq_true]; try rfl) (fun H3 g3 => ?_) | refine VI.callGf (by simp only[D5,hF,hA,↓reduceIte,qD,qE]; try rfl) (fun hc => by simp only[D6,D5,hF,hA,↓reduceIte,qD,qE, hc, and_self, and_true, true_and, not_false_eq_true]; try rfl) (fun hc => f23_ok n 0 d _) (fun hc => by simp only[D6,D5,hF,hA,↓reduceIte,qD,qE, hc, and_self, and_true, true_and, not_false_eq_true]; try rfl) (fun H3 g3 => ?_)
  refine VI.line' (by simp +contextual (disch := first|omega|simp only[nx];omega) only[D4,qF,qG,qA,qB,qC,D5,hF,hA,↓reduceIte,qD,qE]; with_reducible rfl) ?_
  (repeat first|apply sA|apply sB|apply sC|apply sD|apply sE)
  refine V.ret (V.rets rfl (Lv.retG (by simp +contextual (disch := first|omega|simp only[nx];omega) only[D1, cells_alloc_at, cells_alloc_ne, cells_set_at, cells_set_ne, yres, yres1, yresL, qA, qB, qC, D5,hF,hA,↓reduceIte,qD,qE]; rfl) ?_ ?_))
  · exact g2.trans g3
  · rfl
theorem f22_ok (a b c d : Int) (H : Heap) : Gives Try.prog 22 [.agg ⟨A4 a b c d⟩] H (I (if ar a b c d then 0 else 1)) := by
  refine F.entryL rfl dg22 do22 de22 rfl (by kernel_rfl) ?_
  simp only[sets]
  refine V.re [(0, .agg ⟨A4 a b c d⟩)] (N := 6) (by intro i; simp only[full_st, Full.mk]) (by simp only[Kn, gt_st, full_st, Full.mk, ↓reduceIte, qD, qE, decide_true, and_self]) ?_
  intro t hF hA
  simp only[Kn, and_true] at hA
  (repeat first|apply sA|apply sB|apply sC|apply sD|apply sE)
  refine V.line' (by simp +contextual (disch := first|omega|simp only[nx];omega) only[D4,qF,qG,qA,qB,qC,D5,hF,hA,↓reduceIte,qD,qE]; with_reducible rfl) ?_
  (repeat first|apply sA|apply sB|apply sC|apply sD|apply sE)
  refine V.run ?_
  refine VI.steps' 1 (by simp +contextual (disch := first|omega|simp only[nx];omega) only[D4,qF,qG,qA,qB,qC,D5,hF,hA,↓reduceIte,qD,qE]; with_reducible rfl) ?_
  simp only[ds]
  refine VI.callA rfl (f48_ok a b c d _) (by simp only[D6,D5,hF,hA,↓reduceIte,qD,qE]; try rfl) (fun H2 g2 => ?_)
  refine VI.line' (by simp +contextual (disch := first|omega|simp only[nx];omega) only[D4,qF,qG,qA,qB,qC,D5,hF,hA,↓reduceIte,qD,qE]; with_reducible rfl) ?_
  (repeat first|apply sA|apply sB|apply sC|apply sD|apply sE)
  refine V.condP (by simp only[D6,D5,hF,hA,↓reduceIte,qD,qE]; rfl) (fun h => ?_) (fun h => ?_)
  · (repeat first|apply sA|apply sB|apply sC|apply sD|apply sE)
    refine V.line' (by simp +contextual (disch := first|omega|simp only[nx];omega) only[D4,qF,qG,qA,qB,qC,D5,hF,hA,↓reduceIte,qD,qE]; with_reducible rfl) ?_
    refine V.ret (V.rets rfl (Lv.retG (by simp +contextual (disch := first|omega|simp only[nx];omega) only[D1, cells_alloc_at, cells_alloc_ne, cells_set_at, cells_set_ne, yres, yres1, yresL, qA, qB, qC, D5,hF,hA,↓reduceIte,qD,qE]; rfl) ?_ ?_))
    · exact ((Grow.refl H).alloc _).trans g2
    · rw [if_neg h]
  · (repeat first|apply sA|apply sB|apply sC|apply sD|apply sE)
    refine V.line' (by simp +contextual (disch := first|omega|simp only[nx];omega) only[D4,qF,qG,qA,qB,qC,D5,hF,hA,↓reduceIte,qD,qE]; with_reducible rfl) ?_
    (repeat first|apply sA|apply sB|apply sC|apply sD|apply sE)
    refine V.ret (V.rets rfl (Lv.retG (by simp +contextual (disch := first|omega|simp only[nx];omega) only[D1, cells_alloc_at, cells_alloc_ne, cells_set_at, cells_set_ne, yres, yres1, yresL, qA, qB, qC, D5,hF,hA,↓reduceIte,qD,qE]; rfl) ?_ ?_))
    · exact ((Grow.refl H).alloc _).trans g2
    · rw [if_pos (Decidable.not_not.1 h)]
theorem tk {α : Type} {l : List α} {k : Nat} (h : k < l.length) : l.take (k + 1) = l.take k ++ [l[k]] := List.take_succ_eq_append_getElem h
theorem f72_ok {H : Heap} {v : Value} {l : List Int} {g : FuncId} {first cap : List Value} {p : Int → Bool} (hS : Sl H v (l.map I)) (hn : l.length ≤ 1048576) (hp : ∀ x ∈ l, ∀ H', Grow H H' → Gives Try.prog g (first ++ [I x] ++ cap) H' (.bool (p x))) :
    Gives Try.prog 72 [v, .func (.func g) ⟨first⟩ ⟨cap⟩] H (.bool (l.all p)) := by
  have hlen : ylen 0 H v = some (I l.length) := by rw [hS.len, List.length_map]
  refine F.entryL rfl dg72 do72 de72 rfl (by kernel_rfl) ?_
  simp only[sets]
  refine V.re [(0, v), (1, .func (.func g) ⟨first⟩ ⟨cap⟩)] (N := 18) (by intro i; simp only[full_st, Full.mk]) (by simp only[Kn, gt_st, full_st, Full.mk, ↓reduceIte, qD, qE, decide_true, and_self]) ?_
  intro t hF hA
  simp only[Kn, and_true] at hA
  (repeat first|apply sA|apply sB|apply sC|apply sD|apply sE)
  refine V.line' (by simp +contextual (disch := first|omega|simp only[nx];omega) only[D4,qF,qG,qA,qB,qC,D5,hF,hA,↓reduceIte,qD,qE]; with_reducible rfl) ?_
  (repeat first|apply sA|apply sB|apply sC|apply sD|apply sE)
  refine V.line' (by simp +contextual (disch := first|omega|simp only[nx];omega) only[D4,qF,qG,qA,qB,qC,D5,hF,hA,↓reduceIte,qD,qE, hlen]; with_reducible rfl) ?_
  (repeat first|apply sA|apply sB|apply sC|apply sD|apply sE)
  refine V.loop (fun n t m H' => ∃ (k : Nat), k ≤ l.length ∧ n = l.length - k ∧ (∀ x ∈ l.take k, p x = true) ∧ m = [] ∧ Grow H H' ∧ Full 18 t ∧ Kn [(1, .func (.func g) ⟨first⟩ ⟨cap⟩), (7, v), (8, I l.length), (9, I k)] t) l.length ?_ ?_
  · exact ⟨0, by omega, by omega, by simp, rfl, .refl _, (by intro;simp only[full_st,hF]), (by simp only[Kn, D5,hF,hA,↓reduceIte,qD,qE,and_self,and_true,true_and];try (repeat' constructor))⟩
  clear hF hA
  rintro n t m H' ⟨k, hk, rfl, hall, rfl, hg, hF, hA⟩
  simp only[Kn, and_true] at hA
  (repeat first|apply sA|apply sB|apply sC|apply sD|apply sE)
  refine V.line' (by simp +contextual (disch := first|omega|simp only[nx];omega) only[D4,qF,qG,qA,qB,qC,D5,hF,hA,↓reduceIte,qD,qE]; with_reducible rfl) ?_
  (repeat first|apply sA|apply sB|apply sC|apply sD|apply sE)
  refine V.condP (by simp only[D6,D5,hF,hA,↓reduceIte,qD,qE]; rfl) (fun hlt => ?_) (fun hlt => ?_)
  · have hlt' : k < l.length := by omega
    obtain ⟨q, hq1, hq2⟩ := hS.get (n := k) (k := k) (x := I l[k]) (kd := .i64) (by simp [hlt']) rfl
    (repeat first|apply sA|apply sB|apply sC|apply sD|apply sE)
    refine V.line' (by simp +contextual (disch := first|omega|simp only[nx];omega) only[D4,qF,qG,qA,qB,qC,D5,hF,hA,↓reduceIte,qD,qE, hq1, hq2 _ hg]; with_reducible rfl) ?_
    (repeat first|apply sA|apply sB|apply sC|apply sD|apply sE)
    refine V.run ?_
    refine VI.steps' 2 (by simp +contextual (disch := first|omega|simp only[nx];omega) only[D4,qF,qG,qA,qB,qC,D5,hF,hA,↓reduceIte,qD,qE]; with_reducible rfl) ?_
    simp only[ds]
    refine VI.callA (by simp only[D6,D5,hF,hA,↓reduceIte,qD,qE]; rfl) (hp l[k] (by simp) H' hg) (by simp only[List.map_cons, List.map_nil, D6,D5,hF,hA,↓reduceIte,qD,qE]) (fun H2 hg2 => ?_)
    refine VI.line' (by simp +contextual (disch := first|omega|simp only[nx];omega) only[D4,qF,qG,qA,qB,qC,D5,hF,hA,↓reduceIte,qD,qE]; with_reducible rfl) ?_
    refine V.condB (by simp only[D6,D5,hF,hA,↓reduceIte,qD,qE]; rfl) (fun hb => ?_) (fun hb => ?_)
    · (repeat first|apply sA|apply sB|apply sC|apply sD|apply sE)
      refine V.line' (by simp +contextual (disch := first|omega|simp only[nx];omega) only[D4,qF,qG,qA,qB,qC,D5,hF,hA,↓reduceIte,qD,qE]; with_reducible rfl) ?_
      refine V.ret (V.rets rfl (Or.inr ⟨by simp, V.rets rfl (Lv.retG (by simp +contextual (disch := first|omega|simp only[nx];omega) only[D1, cells_alloc_at, cells_alloc_ne, cells_set_at, cells_set_ne, yres, yres1, yresL, qA, qB, qC, D5,hF,hA,↓reduceIte,qD,qE]; rfl) ?_ ?_)⟩))
      · exact hg.trans hg2
      · have hb' : p l[k] = false := by simpa using hb
        have : l.all p = false := List.all_eq_false.2 ⟨l[k], by simp, by simp [hb']⟩
        rw [this]
    · (repeat first|apply sA|apply sB|apply sC|apply sD|apply sE)
      refine V.line' (by simp +contextual (disch := first|omega|simp only[nx];omega) only[D4,qF,qG,qA,qB,qC,D5,hF,hA,↓reduceIte,qD,qE]; with_reducible rfl) ?_
      refine V.nil (Or.inl ⟨rfl, l.length - (k + 1), by omega, ?_⟩)
      refine ⟨k + 1, by omega, rfl, ?_, rfl, hg.trans hg2, (by intro;simp only[full_st,hF]), (by simp only[Kn, D5,hF,hA,↓reduceIte,qD,qE,and_self,and_true,true_and];try (repeat' constructor))⟩
      intro x hx
      rw [tk hlt'] at hx
      rcases List.mem_append.1 hx with hx | hx
      · exact hall x hx
      · rw [List.mem_singleton.1 hx]
        simpa using hb
  · refine V.exit ?_
    (repeat first | refine V.pass ?_ | refine V.here ?_ | refine V.out (by decide) ?_)
    refine V.nil (Or.inr ⟨by simp, ?_⟩)
    (repeat first | refine V.pass ?_ | refine V.here ?_ | refine V.out (by decide) ?_)
    (repeat first|apply sA|apply sB|apply sC|apply sD|apply sE)
    refine V.line' (by simp +contextual (disch := first|omega|simp only[nx];omega) only[D4,qF,qG,qA,qB,qC,D5,hF,hA,↓reduceIte,qD,qE]; with_reducible rfl) ?_
    refine V.ret (V.rets rfl (Lv.retG (by simp +contextual (disch := first|omega|simp only[nx];omega) only[D1, cells_alloc_at, cells_alloc_ne, cells_set_at, cells_set_ne, yres, yres1, yresL, qA, qB, qC, D5,hF,hA,↓reduceIte,qD,qE]; rfl) ?_ ?_))
    · exact hg
    · have : l.take k = l := List.take_of_length_le (by omega)
      rw [this] at hall
      rw [List.all_eq_true.2 hall]
theorem sum_take {l : List Int} (h0 : ∀ x ∈ l, 0 ≤ x) (k : Nat) : 0 ≤ (l.take k).sum ∧ (l.take k).sum ≤ l.sum := by
  have key : ∀ m : List Int, (∀ x ∈ m, 0 ≤ x) → 0 ≤ m.sum := by
    intro m
    induction m with
    | nil => intro _; simp
    | cons x m ih =>
      intro h
      have h1 := h x (by simp)
      have h2 := ih (fun y hy => h y (by simp [hy]))
      simp only[List.sum_cons]; omega
  have h1 := key (l.take k) (fun x hx => h0 x (List.mem_of_mem_take hx))
  have h2 := key (l.drop k) (fun x hx => h0 x (List.mem_of_mem_drop hx))
  have h3 : (l.take k).sum + (l.drop k).sum = l.sum := by rw [← List.sum_append, List.take_append_drop]
  omega
theorem f86_ok {H : Heap} {v : Value} {l : List Int} (hS : Sl H v (l.map I)) (hn : l.length ≤ 1048576) (h0 : ∀ x ∈ l, 0 ≤ x) (h1 : l.sum ≤ 4611686018427387904) : Gives Try.prog 86 [v] H (I l.sum) := by
  have hlen : ylen 0 H v = some (I l.length) := by rw [hS.len, List.length_map]
  refine F.entryL rfl dg86 do86 de86 rfl (by kernel_rfl) ?_
  simp only[sets]
  refine V.re [(0, v)] (N := 17) (by intro i; simp only[full_st, Full.mk]) (by simp only[Kn, gt_st, full_st, Full.mk, ↓reduceIte, qD, qE, decide_true, and_self]) ?_
  intro t hF hA
  simp only[Kn, and_true] at hA
  (repeat first|apply sA|apply sB|apply sC|apply sD|apply sE)
  refine V.line' (by simp +contextual (disch := first|omega|simp only[nx];omega) only[D4,qF,qG,qA,qB,qC,D5,hF,hA,↓reduceIte,qD,qE]; with_reducible rfl) ?_
  (repeat first|apply sA|apply sB|apply sC|apply sD|apply sE)
  refine V.line' (by simp +contextual (disch := first|omega|simp only[nx];omega) only[D4,qF,qG,qA,qB,qC,D5,hF,hA,↓reduceIte,qD,qE]; with_reducible rfl) ?_
  (repeat first|apply sA|apply sB|apply sC|apply sD|apply sE)
  refine V.line' (by simp +contextual (disch := first|omega|simp only[nx];omega) only[D4,qF,qG,qA,qB,qC,D5,hF,hA,↓reduceIte,qD,qE, hlen]; with_reducible rfl) ?_
  (repeat first|apply sA|apply sB|apply sC|apply sD|apply sE)
  refine V.loop (fun n t m H' => ∃ (k : Nat), k ≤ l.length ∧ n = l.length - k ∧ m = [] ∧ Grow H H' ∧ Full 17 t ∧ Kn [(3, I (l.take k).sum), (6, v), (7, I l.length), (8, I k)] t) l.length ?_ ?_
  · exact ⟨0, by omega, by omega, rfl, .refl _, (by intro;simp only[full_st,hF]), (by simp only[Kn, D5,hF,hA,↓reduceIte,qD,qE,and_self,and_true,true_and];try (repeat' constructor))⟩
  clear hF hA
  rintro n t m H' ⟨k, hk, rfl, rfl, hg, hF, hA⟩
  simp only[Kn, and_true] at hA
  (repeat first|apply sA|apply sB|apply sC|apply sD|apply sE)
  refine V.line' (by simp +contextual (disch := first|omega|simp only[nx];omega) only[D4,qF,qG,qA,qB,qC,D5,hF,hA,↓reduceIte,qD,qE]; with_reducible rfl) ?_
  (repeat first|apply sA|apply sB|apply sC|apply sD|apply sE)
  refine V.condP (by simp only[D6,D5,hF,hA,↓reduceIte,qD,qE]; rfl) (fun hlt => ?_) (fun hlt => ?_)
  · have hlt' : k < l.length := by omega
    obtain ⟨q, hq1, hq2⟩ := hS.get (n := k) (k := k) (x := I l[k]) (kd := .i64) (by simp [hlt']) rfl
    have e : (l.take (k + 1)).sum = (l.take k).sum + l[k] := by rw [tk hlt', List.sum_append]; simp
    have s1 := sum_take h0 k
    have s2 := sum_take h0 (k + 1)
    have s3 := h0 l[k] (by simp)
    (repeat first|apply sA|apply sB|apply sC|apply sD|apply sE)
    refine V.line' (by simp +contextual (disch := first|omega|simp only[nx];omega) only[D4,qF,qG,qA,qB,qC,D5,hF,hA,↓reduceIte,qD,qE, hq1, hq2 _ hg]; with_reducible rfl) ?_
    (repeat first|apply sA|apply sB|apply sC|apply sD|apply sE)
    refine V.line' (by simp +contextual (disch := first|omega|simp only[nx];omega) only[D4,qF,qG,qA,qB,qC,D5,hF,hA,↓reduceIte,qD,qE]; with_reducible rfl) ?_
    (repeat first|apply sA|apply sB|apply sC|apply sD|apply sE)
    refine V.line' (by simp +contextual (disch := first|omega|simp only[nx];omega) only[D4,qF,qG,qA,qB,qC,D5,hF,hA,↓reduceIte,qD,qE]; with_reducible rfl) ?_
    refine V.nil (Or.inl ⟨rfl, l.length - (k + 1), by omega, ?_⟩)
    rw [e] at s2
    refine ⟨k + 1, by omega, rfl, rfl, hg, ?_⟩
    rw [e]
    exact ⟨(by intro;simp only[full_st,hF]), (by simp only[Kn, D5,hF,hA,↓reduceIte,qD,qE,and_self,and_true,true_and];try (repeat' constructor))⟩
  · have : l.take k = l := List.take_of_length_le (by omega)
    rw [this] at hA
    refine V.exit ?_
    (repeat first | refine V.pass ?_ | refine V.here ?_ | refine V.out (by decide) ?_)
    refine V.nil (Or.inr ⟨by simp, ?_⟩)
    (repeat first | refine V.pass ?_ | refine V.here ?_ | refine V.out (by decide) ?_)
    (repeat first|apply sA|apply sB|apply sC|apply sD|apply sE)
    refine V.line' (by simp +contextual (disch := first|omega|simp only[nx];omega) only[D4,qF,qG,qA,qB,qC,D5,hF,hA,↓reduceIte,qD,qE]; with_reducible rfl) ?_
    refine V.ret (V.rets rfl (Lv.retG (by simp +contextual (disch := first|omega|simp only[nx];omega) only[D1, cells_alloc_at, cells_alloc_ne, cells_set_at, cells_set_ne, yres, yres1, yresL, qA, qB, qC, D5,hF,hA,↓reduceIte,qD,qE]; rfl) ?_ ?_))
    · exact hg
    · rfl
end Go.Xe.TMX
