/- What the functions of the layer miss come to: several areas, as the statements have them. Conditions: none. -/
import Derived.Test.YtglkpemncjoefaaTNZ
import Derived.Test.YtglkpemncjoefaaZv
-- MOD TM
namespace Go.Xe.TMX
open Go Go.Xe Go.Proofs Go.Xe.Mth
open Nat renaming reduceLeDiff → qA, reduceSub → qB, reduceAdd → qC, reduceEqDiff → qD, reduceLT → qE
open Int renaming reduceNegSucc → qF, reduceEq → qG
open Go.Xe.V renaming seq → sA, block → sB, scope → sC, skip → sD, close → sE
open Go.Xe renaming pth → P
set_option maxRecDepth 100000
set_option maxHeartbeats 3200000
set_option linter.unusedSimpArgs false
noncomputable def d35 : FCode := (.seq (.run (.go (.move (.con (.slice none 0 0))) (P 2)::
[])) (.seq (.run (.go (.move (.con (.slice none 0 0))) (P 3)::
[])) (.seq (.seq (.run (.go (.move (.con (.int .i64 (.ofNat 0)))) (P 4)::
[])) (.block 0 (.loop (.seq (.seq (.run (.go (.move (.tmp (P 4))) (P 5)::
.go (.move (.tmp (P 0))) (P 6)::
.go (.len 0 (.tmp (P 6))) (P 7)::
.go (.bin .lss 3 (.tmp (P 5)) (.tmp (P 7))) (P 8)::
[])) (.cond (.tmp (P 8)) .skip (.exit 0))) (.seq (.block 1 (.run (.go (.move (.tmp (P 3))) (P 11)::
.go (.move (.tmp (P 0))) (P 12)::
.go (.move (.tmp (P 4))) (P 13)::
.go (.indexAddr none 4 (.tmp (P 12)) (.tmp (P 13))) (P 14)::
.go (.loadN 4 (.tmp (P 14))) (P 15)::
.go (.call (.con (.func (.func 21) ⟨[]⟩ ⟨[]⟩)) [(.tmp (P 15))]) (P 16)::
.go (.buildSlice 28 1 [(.int .i64 (.ofNat 0)),(.int .i64 (.ofNat 0)),(.int .i64 (.ofNat 0)),(.int .i64 (.ofNat 0))] [(0,4,(.tmp (P 16)))]) (P 17)::
.go (.append 28 4 32 (.tmp (P 11)) (.tmp (P 17))) (P 18)::
.go (.move (.tmp (P 18))) (P 3)::
[]))) (.run (.go (.move (.tmp (P 4))) (P 9)::
.go (.bin .add 3 (.tmp (P 9)) (.con (.int .i64 (.ofNat 1)))) (P 10)::
.go (.move (.tmp (P 10))) (P 4)::
[]))))))) (.seq (.run (.go (.move (.tmp (P 3))) (P 19)::
.go (.move (.tmp (P 19))) (P 2)::
[])) .ret))))
theorem de35 : @compF Try.prog (Gl.none Try.prog) Try.f35 1 = .mk d35 (mkTT 20) [(P 0)] [.tmp (P 2)] := by kernel_rfl
theorem dg35 : Try.prog.funcs[35]? = some Try.f35 := Try.func35
theorem do35 : okF Try.prog Try.f35 = true := by kernel_rfl
noncomputable def d38 : FCode := (.seq (.run (.go (.box 59 (.tmp (P 0))) (P 1)::
.go (.alloc 53 [(.int .i64 (.ofNat 0)),(.int .i64 (.ofNat 0))]) (P 2)::
[])) (.seq (.run (.go (.fieldAddr 0 (.tmp (P 1))) (P 3)::
.go (.load1 (.tmp (P 3))) (P 4)::
.go (.fieldAddr 1 (.tmp (P 1))) (P 5)::
.go (.load1 (.tmp (P 5))) (P 6)::
.go (.build [(.int .i64 (.ofNat 0)),(.int .i64 (.ofNat 0))] [(0,1,(.tmp (P 4))),(1,1,(.tmp (P 6)))]) (P 7)::
.un (.store 2 (.tmp (P 2)) (.tmp (P 7)))::
[])) .ret))
theorem de38 : @compF Try.prog (Gl.none Try.prog) Try.f38 1 = .mk d38 (mkTT 8) [(P 0)] [.many (P 2) 2] := by kernel_rfl
theorem dg38 : Try.prog.funcs[38]? = some Try.f38 := Try.func38
theorem do38 : okF Try.prog Try.f38 = true := by kernel_rfl
noncomputable def d69 : FCode := (.seq (.run (.go (.box 23 (.tmp (P 0))) (P 3)::
.go (.box 41 (.tmp (P 2))) (P 5)::
.go (.move (.con (.bool false))) (P 6)::
[])) (.seq (.draw 19 (.go (.loadN 4 (.tmp (P 3))) (P 7)::
.go (.move (.tmp (P 1))) (P 8)::
.go (.fieldAddr 3 (.tmp (P 3))) (P 9)::
.go (.load1 (.tmp (P 9))) (P 10)::
.go (.call (.con (.func (.func 30) ⟨[]⟩ ⟨[]⟩)) [(.tmp (P 7)),(.tmp (P 8)),(.con (.int .i64 (.ofNat 0))),(.tmp (P 10))]) (P 11)::
.go (.loadN 2 (.tmp (P 5))) (P 12)::
.go (.call (.con (.func (.func 32) ⟨[]⟩ ⟨[]⟩)) [(.tmp (P 11)),(.tmp (P 12))]) (P 13)::
.go (.move (.tmp (P 13))) (P 14)::
.gd (P 14) false (.loadN 4 (.tmp (P 3))) (P 15)::
.gd (P 14) false (.move (.tmp (P 1))) (P 16)::
.gd (P 14) false (.fieldAddr 3 (.tmp (P 3))) (P 17)::
.gd (P 14) false (.load1 (.tmp (P 17))) (P 18)::
.gd (P 14) false (.fieldAddr 2 (.tmp (P 3))) (P 19)::
.gd (P 14) false (.load1 (.tmp (P 19))) (P 20)::
.gd (P 14) false (.call (.con (.func (.func 30) ⟨[]⟩ ⟨[]⟩)) [(.tmp (P 15)),(.tmp (P 16)),(.tmp (P 18)),(.tmp (P 20))]) (P 21)::
.gd (P 14) false (.loadN 2 (.tmp (P 5))) (P 22)::
.gd (P 14) false (.call (.con (.func (.func 32) ⟨[]⟩ ⟨[]⟩)) [(.tmp (P 21)),(.tmp (P 22))]) (P 23)::
.go (.pick (.tmp (P 14)) (.con (.bool true)) (.tmp (P 23))) (P 24)::
.go (.move (.tmp (P 24))) (P 6)::
[]) [.ok,.ok,.ok,.ok,.ok,.rd none (.loadN 2 (.tmp (P 5))) (some (P 12)) [0],.ok,.ok,.ok,.ok,.ok,.ok,.ok,.ok,.ok,.rd (some ((P 14),false)) (.loadN 2 (.tmp (P 5))) (some (P 22)) [7],.ok,.ok,.ok]) .ret))
theorem de69 : @compF Try.prog (Gl.none Try.prog) Try.f69 3 = .mk d69 (mkTT 25) [(P 0),(P 1),(P 2)] [.tmp (P 6)] := by kernel_rfl
theorem dg69 : Try.prog.funcs[69]? = some Try.f69 := Try.func69
theorem do69 : okF Try.prog Try.f69 = true := by kernel_rfl
noncomputable def d37 : FCode := (.seq (.run (.go (.box 23 (.tmp (P 0))) (P 2)::
.go (.box 41 (.tmp (P 1))) (P 3)::
.go (.alloc 59 [(.int .i64 (.ofNat 0)),(.int .i64 (.ofNat 0))]) (P 4)::
.go (.move (.con (.bool false))) (P 5)::
[])) (.seq (.run (.go (.build [(.int .i64 (.ofNat 0)),(.int .i64 (.ofNat 0))] [(0,1,(.con (.int .i64 (.ofNat 99)))),(1,1,(.con (.int .i64 (.negSucc 0))))]) (P 8)::
.go (.alloc 59 [(.int .i64 (.ofNat 0)),(.int .i64 (.ofNat 0))]) (P 6)::
.un (.store 2 (.tmp (P 6)) (.tmp (P 8)))::
[])) (.seq (.seq (.run (.go (.move (.con (.int .i64 (.ofNat 0)))) (P 7)::
[])) (.block 0 (.loop (.seq (.seq (.run (.go (.move (.tmp (P 7))) (P 9)::
.go (.fieldAddr 1 (.tmp (P 2))) (P 10)::
.go (.load1 (.tmp (P 10))) (P 11)::
.go (.bin .leq 3 (.tmp (P 9)) (.tmp (P 11))) (P 12)::
[])) (.cond (.tmp (P 12)) .skip (.exit 0))) (.seq (.block 1 (.seq (.run (.go (.loadN 4 (.tmp (P 2))) (P 15)::
.go (.move (.tmp (P 7))) (P 16)::
.go (.loadN 2 (.tmp (P 3))) (P 17)::
.go (.call (.con (.func (.func 69) ⟨[]⟩ ⟨[]⟩)) [(.tmp (P 15)),(.tmp (P 16)),(.tmp (P 17))]) (P 18)::
.go (.un .not (.tmp (P 18))) (P 19)::
[])) (.cond (.tmp (P 19)) (.run (.go (.fieldAddr 0 (.tmp (P 6))) (P 20)::
.go (.load1 (.tmp (P 20))) (P 21)::
.go (.move (.tmp (P 7))) (P 22)::
.go (.mm false [(.tmp (P 21)),(.tmp (P 22))]) (P 23)::
.go (.move (.tmp (P 7))) (P 24)::
.go (.build [(.int .i64 (.ofNat 0)),(.int .i64 (.ofNat 0))] [(0,1,(.tmp (P 23))),(1,1,(.tmp (P 24)))]) (P 25)::
.un (.store 2 (.tmp (P 6)) (.tmp (P 25)))::
[])) .skip))) (.run (.go (.move (.tmp (P 7))) (P 13)::
.go (.bin .add 3 (.tmp (P 13)) (.con (.int .i64 (.ofNat 1)))) (P 14)::
.go (.move (.tmp (P 14))) (P 7)::
[]))))))) (.seq (.draw 6 (.go (.loadN 2 (.tmp (P 6))) (P 26)::
.go (.fieldAddr 1 (.tmp (P 6))) (P 27)::
.go (.load1 (.tmp (P 27))) (P 28)::
.go (.bin .geq 3 (.tmp (P 28)) (.con (.int .i64 (.ofNat 0)))) (P 29)::
.un (.store 2 (.tmp (P 4)) (.tmp (P 26)))::
.go (.move (.tmp (P 29))) (P 5)::
[]) [.ok,.ok,.rd none (.load1 (.tmp (P 27))) (some (P 28)) [5],.ok,.ok,.ok]) .ret))))
theorem de37 : @compF Try.prog (Gl.none Try.prog) Try.f37 2 = .mk d37 (mkTT 30) [(P 0),(P 1)] [.many (P 4) 2,.tmp (P 5)] := by kernel_rfl
theorem dg37 : Try.prog.funcs[37]? = some Try.f37 := Try.func37
theorem do37 : okF Try.prog Try.f37 = true := by kernel_rfl
theorem q4_len (L : List Q4) : ∀ x ∈ L.map q4, x.length = 4 := by
  intro x hx
  obtain ⟨r, _, rfl⟩ := List.mem_map.1 hx
  rfl
theorem f35_ok {H : Heap} {v : Value} {L : List Q4} (h : Sw 4 H v (L.map q4)) (hn : L.length ≤ 1048576) : F Try.prog 35 ⟨[v]⟩ H (fun w X => Grow H X ∧ OwW 4 H X 28 w (L.map q4)) := by
  have hl : ∀ X, ylen 0 X v = some (I L.length) := fun X => by rw [Sw.lenA h X, List.length_map]
  refine F.entryL rfl dg35 do35 de35 rfl (by kernel_rfl) ?_
  simp only[sets]
  refine V.re [(0, v)] (N := 20) (by intro i; simp only[full_st, Full.mk]) (by simp only[Kn, gt_st, full_st, Full.mk, ↓reduceIte, qD, qE, decide_true, and_self]) ?_
  intro t hF hA
  simp only[Kn, and_true] at hA
  (repeat first|apply sA|apply sB|apply sC|apply sD|apply sE)
  refine V.line' (by simp +contextual (disch := first|omega|simp only[nx];omega) only[D4,qF,qG,qA,qB,qC,D5,hF,hA,↓reduceIte,qD,qE]; with_reducible rfl) ?_
  (repeat first|apply sA|apply sB|apply sC|apply sD|apply sE)
  refine V.line' (by simp +contextual (disch := first|omega|simp only[nx];omega) only[D4,qF,qG,qA,qB,qC,D5,hF,hA,↓reduceIte,qD,qE]; with_reducible rfl) ?_
  (repeat first|apply sA|apply sB|apply sC|apply sD|apply sE)
  refine V.line' (by simp +contextual (disch := first|omega|simp only[nx];omega) only[D4,qF,qG,qA,qB,qC,D5,hF,hA,↓reduceIte,qD,qE]; with_reducible rfl) ?_
  (repeat first|apply sA|apply sB|apply sC|apply sD|apply sE)
  refine V.loop (fun z t m X => ∃ (k : Nat) (s : Value), k ≤ L.length ∧ z = L.length - k ∧ m = [] ∧ Grow H X ∧ OwW 4 H X 28 s ((L.take k).map q4) ∧ Full 20 t ∧ Kn [(0, v), (3, s), (4, I k)] t) L.length ?_ ?_
  · exact ⟨0, _, by omega, by omega, rfl, .refl _, by rw [List.take_zero]; exact .nil, (by intro;simp only[full_st,hF]), (by simp only[Kn, D5,hF,hA,↓reduceIte,qD,qE,and_self,and_true,true_and];try (repeat' constructor))⟩
  clear hF hA
  rintro z t m X ⟨k, s, hk, rfl, rfl, hg, os, hF, hA⟩
  simp only[Kn, and_true] at hA
  (repeat first|apply sA|apply sB|apply sC|apply sD|apply sE)
  refine V.line' (by simp +contextual (disch := first|omega|simp only[nx];omega) only[D4,qF,qG,qA,qB,qC,D5,hF,hA,↓reduceIte,qD,qE, hl]; with_reducible rfl) ?_
  (repeat first|apply sA|apply sB|apply sC|apply sD|apply sE)
  refine V.condP (by simp only[D6,D5,hF,hA,↓reduceIte,qD,qE]; rfl) (fun hlt => ?_) (fun hlt => ?_)
  · have hlt' : k < L.length := by omega
    obtain ⟨q, hq1, hq2⟩ := h.get (w := 4) (by decide) (n := k) (k := k) (x := q4 L[k]) (kd := .i64) (by simp [hlt']) rfl
    have hq3 := hq2 _ hg
    have e0 : q4 L[k] = A4 L[k].1 L[k].2.1 L[k].2.2.1 L[k].2.2.2 := rfl
    rw [e0] at hq3
    (repeat first|apply sA|apply sB|apply sC|apply sD|apply sE)
    refine V.run ?_
    refine VI.steps' 5 (by simp +contextual (disch := first|omega|simp only[nx];omega) only[D4,qF,qG,qA,qB,qC,D5,hF,hA,↓reduceIte,qD,qE, hq1, hq3]; with_reducible rfl) ?_
    simp only[ds]
    refine VI.callA rfl (f21_ok L[k].1 L[k].2.1 L[k].2.2.1 L[k].2.2.2 X) (by simp only[D6,D5,hF,hA,↓reduceIte,qD,qE]; try rfl) (fun X1 g1 => ?_)
    have os1 := os.keep g1
    obtain ⟨w, X2, k1, k2, k3, k4, k5, k6⟩ := OwW.push (x := q4 L[k]) (bytes := 32) (by decide) (hg.trans g1) os1 (q4_len _) rfl rfl (by rw [List.length_map, List.length_take]; omega) (by rw [List.length_map, List.length_take]; omega)
    rw [e0] at k1 k6
    refine VI.line' (by simp +contextual (disch := first|omega|simp only[nx];omega) only[D4,qF,qG,qA,qB,qC,D5,hF,hA,↓reduceIte,qD,qE, k1]; with_reducible rfl) ?_
    (repeat first|apply sA|apply sB|apply sC|apply sD|apply sE)
    refine V.line' (by simp +contextual (disch := first|omega|simp only[nx];omega) only[D4,qF,qG,qA,qB,qC,D5,hF,hA,↓reduceIte,qD,qE]; with_reducible rfl) ?_
    refine V.nil (Or.inl ⟨rfl, L.length - (k + 1), by omega, ?_⟩)
    refine ⟨k + 1, w, by omega, rfl, rfl, k3, ?_, (by intro;simp only[full_st,hF]), (by simp only[Kn, D5,hF,hA,↓reduceIte,qD,qE,and_self,and_true,true_and];try (repeat' constructor))⟩
    rw [List.take_succ_eq_append_getElem hlt', List.map_append]
    exact k2
  · refine V.exit ?_
    (repeat first | refine V.pass ?_ | refine V.here ?_ | refine V.out (by decide) ?_)
    refine V.nil (Or.inr ⟨by simp, ?_⟩)
    (repeat first | refine V.pass ?_ | refine V.here ?_ | refine V.out (by decide) ?_)
    (repeat first|apply sA|apply sB|apply sC|apply sD|apply sE)
    refine V.line' (by simp +contextual (disch := first|omega|simp only[nx];omega) only[D4,qF,qG,qA,qB,qC,D5,hF,hA,↓reduceIte,qD,qE]; with_reducible rfl) ?_
    (repeat first|apply sA|apply sB|apply sC|apply sD|apply sE)
    refine V.ret (V.rets rfl (Lv.retF (by simp +contextual (disch := first|omega|simp only[nx];omega) only[D1, cells_alloc_at, cells_alloc_ne, cells_set_at, cells_set_ne, yres, yres1, yresL, qA, qB, qC, D5,hF,hA,↓reduceIte,qD,qE]; rfl) ?_))
    have e : L.take k = L := List.take_of_length_le (by omega)
    rw [e] at os
    exact ⟨hg, os⟩
theorem f38_ok (a b : Int) (H : Heap) : Gives Try.prog 38 [.agg ⟨A2 a b⟩] H (.agg ⟨A2 a b⟩) := by
  refine F.entryL rfl dg38 do38 de38 rfl (by kernel_rfl) ?_
  simp only[sets]
  refine V.re [(0, .agg ⟨A2 a b⟩)] (N := 8) (by intro i; simp only[full_st, Full.mk]) (by simp only[Kn, gt_st, full_st, Full.mk, ↓reduceIte, qD, qE, decide_true, and_self]) ?_
  intro t hF hA
  simp only[Kn, and_true] at hA
  (repeat first|apply sA|apply sB|apply sC|apply sD|apply sE)
  refine V.line' (by simp +contextual (disch := first|omega|simp only[nx];omega) only[D4,qF,qG,qA,qB,qC,D5,hF,hA,↓reduceIte,qD,qE]; with_reducible rfl) ?_
  (repeat first|apply sA|apply sB|apply sC|apply sD|apply sE)
  refine V.line' (by simp +contextual (disch := first|omega|simp only[nx];omega) only[D4,qF,qG,qA,qB,qC,D5,hF,hA,↓reduceIte,qD,qE]; with_reducible rfl) ?_
  (repeat first|apply sA|apply sB|apply sC|apply sD|apply sE)
  refine V.ret (V.rets rfl (Lv.retG (by simp +contextual (disch := first|omega|simp only[nx];omega) only[D1, cells_alloc_at, cells_alloc_ne, cells_set_at, cells_set_ne, yres, yres1, yresL, qA, qB, qC, D5,hF,hA,↓reduceIte,qD,qE]; rfl) ?_ ?_))
  · (repeat first | assumption | exact Grow.refl _ | refine Grow.alloc ?_ _ | refine Grow.set ?_ (by first|omega|simp only[nx];omega) _)
  · rfl
theorem f69_ok {a b c d u n q : Nat} (hu : a + u ≤ 50) (hc : c ≤ a) (hd : d ≤ c) (hnq : n ≤ 1000 ∧ 0 < q ∧ q ≤ 1000) (H : Heap) : Gives Try.prog 69 [.agg ⟨A4 a b c d⟩, I u, .agg ⟨A2 n q⟩] H (.bool (exc a u c d n q)) := by
  have hcb := ch_bound (n := a + u) c (by omega)
  have hcp := ch_pos (n := a + u) (k := c) (by omega)
  have q2 := psum_le (a := a) (u := u) (c := c) (f := 0) (n := d + 1) (by omega)
  have q3 := psum_le (a := a) (u := u) (c := c) (f := d) (n := c + 1 - d) (by omega)
  have hnq1 := hnq.1
  have hnq2 := hnq.2.1
  have hnq3 := hnq.2.2
  refine F.entryL rfl dg69 do69 de69 rfl (by kernel_rfl) ?_
  simp only[sets]
  refine V.re [(0, .agg ⟨A4 a b c d⟩), (1, I u), (2, .agg ⟨A2 n q⟩)] (N := 25) (by intro i; simp only[full_st, Full.mk]) (by simp only[Kn, gt_st, full_st, Full.mk, ↓reduceIte, qD, qE, decide_true, and_self]) ?_
  intro t hF hA
  simp only[Kn, and_true] at hA
  (repeat first|apply sA|apply sB|apply sC|apply sD|apply sE)
  refine V.line' (by simp +contextual (disch := first|omega|simp only[nx];omega) only[D4,qF,qG,qA,qB,qC,D5,hF,hA,↓reduceIte,qD,qE]; with_reducible rfl) ?_
  refine V.heap (fun X => Grow H X ∧ Bx X H.next (A4 a b c d) 23 ∧ Bx X (H.next + 1) (A2 n q) 41) ⟨?_, ?_, ?_⟩ ?_
  · (repeat first | assumption | exact Grow.refl _ | refine Grow.alloc ?_ _ | refine Grow.set ?_ (by first|omega|simp only[nx];omega) _)
  · (repeat first | assumption | exact Bx.new _ _ _ | exact Bx.newAt (by first|omega|simp only[nx];omega) | refine Bx.put (by first|omega|simp only[nx];omega) _ _ | refine Bx.alloc ?_ _ | refine Bx.set ?_ (by first|omega|simp only[nx];omega) _)
  · (repeat first | assumption | exact Bx.new _ _ _ | exact Bx.newAt (by first|omega|simp only[nx];omega) | refine Bx.put (by first|omega|simp only[nx];omega) _ _ | refine Bx.alloc ?_ _ | refine Bx.set ?_ (by first|omega|simp only[nx];omega) _)
  rintro H1 ⟨g1, b1, c1⟩
  (repeat first|apply sA|apply sB|apply sC|apply sD|apply sE)
  refine V.draw ?_
  refine VD.dins 4 (by simp +contextual (disch := first|omega|simp only[nx];omega) only[D4,qF,qG,qA,qB,qC,D5,hF,hA,↓reduceIte,qD,qE, b1.2]; with_reducible rfl) ?_
  simp only[ds]
  refine VD.callA (by simp only[D6,D5,hF,hA,↓reduceIte,qD,qE]; try rfl) (f30_ok (z := (d : Int)) (f := 0) (n := d + 1) (a := a) (b := b) (c := c) (d := d) (u := u) (by omega) (by omega) (by omega) (by omega) (by omega) (by omega) _) (by simp only[D6,D5,hF,hA,↓reduceIte,qD,qE]; try rfl) (fun H2 g2 => ?_)
  have b2 := b1.grow g2
  have c2 := c1.grow g2
  refine VD.dins 1 (by simp +contextual (disch := first|omega|simp only[nx];omega) only[D4,qF,qG,qA,qB,qC,D5,hF,hA,↓reduceIte,qD,qE, c2.2]; with_reducible rfl) ?_
  simp only[ds]
  refine VD.callA (by simp only[D6,D5,hF,hA,↓reduceIte,qD,qE]; try rfl) (f32_ok (p := psum a u c 0 (d + 1)) (w := ch (a + u) c) (n := n) (q := q) hcp hnq2 (by omega) (by omega) (by omega) (by omega) _) (by simp only[D6,D5,hF,hA,↓reduceIte,qD,qE]; try rfl) (fun H3 g3 => ?_)
  have b3 := b2.grow g3
  have c3 := c2.grow g3
  refine VD.dins 7 (by simp +contextual (disch := first|omega|simp only[nx];omega) only[D4,qF,qG,qA,qB,qC,D5,hF,hA,↓reduceIte,qD,qE, b3.2]; with_reducible rfl) ?_
  simp only[ds]
  first | refine VD.callGt (by simp only[D5,hF,hA,↓reduceIte,qD,qE]; try rfl) (fun hc => by simp only[D6,D5,hF,hA,↓reduceIte,qD,qE, hc, and_self, and_true, true_and, not_false_eq_true]; try rfl) (fun hc => f30_ok (z := (c : Int)) (f := d) (n := c + 1 - d) (a := a) (b := b) (c := c) (d := d) (u := u) (by omega) (by omega) (by omega) (by omega) (by omega) (by omega) _) (fun hc => by simp only[D6,D5,hF,hA,↓reduceIte,qD,qE, hc, and_self, and_true, true_and, not_false_eq_true]; try rfl) (fun H4 g4 => ?_) | refine VD.callGf (by simp only[D5,hF,hA,↓reduceIte,qD,qE]; try rfl) (fun hc => by simp only[D6,D5,hF,hA,↓reduceIte,qD,qE, hc, and_self, and_true, true_and, not_false_eq_true]; try rfl) (fun hc => f30_ok (z := (c : Int)) (f := d) (n := c + 1 - d) (a := a) (b := b) (c := c) (d := d) (u := u) (by omega) (by omega) (by omega) (by omega) (by omega) (by omega) _) (fun hc => by simp only[D6,D5,hF,hA,↓reduceIte,qD,qE, hc, and_self, and_true, true_and, not_false_eq_true]; try rfl) (fun H4 g4 => ?_)
  have c4 := c3.grow g4
  refine VD.dins 1 (by simp +contextual (disch := first|omega|simp only[nx];omega) only[D4,qF,qG,qA,qB,qC,D5,hF,hA,↓reduceIte,qD,qE, c4.2]; with_reducible rfl) ?_
  simp only[ds]
  first | refine VD.callGt (by simp only[D5,hF,hA,↓reduceIte,qD,qE]; try rfl) (fun hc => by simp only[D6,D5,hF,hA,↓reduceIte,qD,qE, hc, and_self, and_true, true_and, not_false_eq_true]; try rfl) (fun hc => f32_ok (p := psum a u c d (c + 1 - d)) (w := ch (a + u) c) (n := n) (q := q) hcp hnq2 (by omega) (by omega) (by omega) (by omega) _) (fun hc => by simp only[D6,D5,hF,hA,↓reduceIte,qD,qE, hc, and_self, and_true, true_and, not_false_eq_true]; try rfl) (fun H5 g5 => ?_) | refine VD.callGf (by simp only[D5,hF,hA,↓reduceIte,qD,qE]; try rfl) (fun hc => by simp only[D6,D5,hF,hA,↓reduceIte,qD,qE, hc, and_self, and_true, true_and, not_false_eq_true]; try rfl) (fun hc => f32_ok (p := psum a u c d (c + 1 - d)) (w := ch (a + u) c) (n := n) (q := q) hcp hnq2 (by omega) (by omega) (by omega) (by omega) _) (fun hc => by simp only[D6,D5,hF,hA,↓reduceIte,qD,qE, hc, and_self, and_true, true_and, not_false_eq_true]; try rfl) (fun H5 g5 => ?_)
  have c5 := c4.grow g5
  refine VD.lineD' (by simp +contextual (disch := first|omega|simp only[nx];omega) only[D4,qF,qG,qA,qB,qC,D5,hF,hA,↓reduceIte,qD,qE]; with_reducible rfl) ?_ ?_ rfl ?_
  · have m2 := g2.1
    have m3 := g3.1
    have m4 := g4.1
    have m5 := g5.1
    simp only[monoG, List.cons_append, List.nil_append, Heap.next_set, Heap.next_alloc, Nat.le_refl, true_and, and_true] <;> omega
  · simp only[dcAll, dcOk, wantD, List.cons_append, List.nil_append, true_and, and_true]
    exact ⟨fun _ q hq => by simp only[List.mem_cons, List.not_mem_nil, or_false] at hq; (repeat (rcases hq with rfl | hq; exact ⟨_, _, _, rfl, (by simp +contextual (disch := first|omega|simp only[nx];omega) only[D4,qF,qG,qA,qB,qC,D5,hF,hA,↓reduceIte,qD,qE, c1.2, c2.2, c3.2]; with_reducible rfl), fun p hp => by cases hp; simp only[D5,hF,hA,↓reduceIte,qD,qE]; first | exact vEq_An | (simp [vEq, vEq0, all2]; done) | assumption⟩)); (try (subst hq; exact ⟨_, _, _, rfl, (by simp +contextual (disch := first|omega|simp only[nx];omega) only[D4,qF,qG,qA,qB,qC,D5,hF,hA,↓reduceIte,qD,qE, c1.2, c2.2, c3.2]; with_reducible rfl), fun p hp => by cases hp; simp only[D5,hF,hA,↓reduceIte,qD,qE]; first | exact vEq_An | (simp [vEq, vEq0, all2]; done) | assumption⟩)), fun hw q hq => by simp only[wantD, D5,hF,hA,↓reduceIte,qD,qE, beq_iff_eq, decide_eq_false_iff_not, decide_eq_true_eq] at hw; simp only[List.mem_cons, List.not_mem_nil, or_false] at hq; (repeat (rcases hq with rfl | hq; exact ⟨_, _, _, rfl, (by simp +contextual (disch := first|omega|simp only[nx];omega) only[D4,qF,qG,qA,qB,qC,D5,hF,hA,↓reduceIte,qD,qE, if_true, not_false_eq_true, not_true_eq_false, hw, c3.2, c4.2, c5.2]; with_reducible rfl), fun p hp => by cases hp; simp only[D5,hF,hA,↓reduceIte,qD,qE, hw, if_true, not_false_eq_true]; first | exact vEq_An | (simp [vEq, vEq0, all2]; done) | assumption⟩)); (try (subst hq; exact ⟨_, _, _, rfl, (by simp +contextual (disch := first|omega|simp only[nx];omega) only[D4,qF,qG,qA,qB,qC,D5,hF,hA,↓reduceIte,qD,qE, if_true, not_false_eq_true, not_true_eq_false, hw, c3.2, c4.2, c5.2]; with_reducible rfl), fun p hp => by cases hp; simp only[D5,hF,hA,↓reduceIte,qD,qE, hw, if_true, not_false_eq_true]; first | exact vEq_An | (simp [vEq, vEq0, all2]; done) | assumption⟩))⟩
  (repeat first|apply sA|apply sB|apply sC|apply sD|apply sE)
  refine V.ret (V.rets rfl (Lv.retG (by simp +contextual (disch := first|omega|simp only[nx];omega) only[D1, cells_alloc_at, cells_alloc_ne, cells_set_at, cells_set_ne, yres, yres1, yresL, qA, qB, qC, D5,hF,hA,↓reduceIte,qD,qE]; rfl) ?_ ?_))
  · exact (((g1.trans g2).trans g3).trans g4).trans g5
  · congr 1
    unfold exc below
    rw [← Bool.decide_or]
def rg (a c d n q : Nat) : Nat → Int × Int
  | 0 => (99, -1)
  | k + 1 => if exc a k c d n q then rg a c d n q k else (min (rg a c d n q k).1 k, k)
theorem rg_ok (a c d n q : Nat) : ∀ k : Nat, k ≤ 98 → (((nums 0 k).filter fun z => !exc a z.toNat c d n q) = [] ∧ rg a c d n q k = (99, -1)) ∨ (((nums 0 k).filter fun z => !exc a z.toNat c d n q) ≠ [] ∧ rg a c d n q k = (mn ((nums 0 k).filter fun z => !exc a z.toNat c d n q), mx ((nums 0 k).filter fun z => !exc a z.toNat c d n q)))
  | 0, _ => .inl ⟨rfl, rfl⟩
  | k + 1, hk => by
    have ih := rg_ok a c d n q k (by omega)
    have e : nums 0 (k + 1) = nums 0 k ++ [(k : Int)] := by unfold nums; rw [List.range_succ]; simp
    have ht : ((k : Nat) : Int).toNat = k := by omega
    have hlt : ∀ y ∈ (nums 0 k).filter fun z => !exc a z.toNat c d n q, 0 ≤ y ∧ y < k := by
      intro y hy
      obtain ⟨j, hj, rfl⟩ := List.mem_map.1 (List.mem_filter.1 hy).1
      have := List.mem_range.1 hj
      omega
    rw [e, List.filter_append]
    generalize ((nums 0 k).filter fun z => !exc a z.toNat c d n q) = L at *
    simp only[rg]
    by_cases hx : exc a k c d n q = true
    · have e2 : [(k : Int)].filter (fun z => !exc a z.toNat c d n q) = [] := by simp [hx]
      rw [if_pos hx, e2, List.append_nil]
      exact ih
    · have e2 : [(k : Int)].filter (fun z => !exc a z.toNat c d n q) = [(k : Int)] := by simp [hx]
      rw [if_neg hx, e2]
      refine .inr ⟨by simp, ?_⟩
      have m1 := mn_mem (l := L ++ [(k : Int)]) (by simp)
      have m2 := mx_mem (l := L ++ [(k : Int)]) (by simp)
      have m3 := mn_le (l := L ++ [(k : Int)]) (y := (k : Int)) (by simp)
      have m4 := mx_ge (l := L ++ [(k : Int)]) (y := (k : Int)) (by simp)
      rcases ih with ⟨h1, h2⟩ | ⟨h1, h2⟩
      · subst h1
        rw [h2]
        simp only[List.nil_append, List.mem_singleton] at m1 m2
        rw [List.nil_append, m1, m2]
        congr 1
        omega
      · rw [h2]
        have m5 := mn_le (l := L ++ [(k : Int)]) (y := mn L) (List.mem_append_left _ (mn_mem h1))
        have m6 := hlt _ (mn_mem h1)
        have m7 : mx (L ++ [(k : Int)]) = k := by
          rcases List.mem_append.1 m2 with h | h
          · have := hlt _ h; omega
          · simpa using h
        have m8 : mn (L ++ [(k : Int)]) = min (mn L) k := by
          rcases List.mem_append.1 m1 with h | h
          · have := mn_le h; omega
          · have : mn (L ++ [(k : Int)]) = k := by simpa using h
            omega
        rw [m7, m8]
theorem f37_ok {a b c d n q : Nat} (hab : a + b ≤ 50) (hc : c ≤ a) (hd : d ≤ c) (hnq : n ≤ 1000 ∧ 0 < q ∧ q ≤ 1000) (H : Heap) : Gives Try.prog 37 [.agg ⟨A4 a b c d⟩, .agg ⟨A2 n q⟩] H (.tuple ⟨[.agg ⟨A2 (rg a c d n q (b + 1)).1 (rg a c d n q (b + 1)).2⟩, .bool (decide (0 ≤ (rg a c d n q (b + 1)).2))]⟩) := by
  refine F.entryL rfl dg37 do37 de37 rfl (by kernel_rfl) ?_
  simp only[sets]
  refine V.re [(0, .agg ⟨A4 a b c d⟩), (1, .agg ⟨A2 n q⟩)] (N := 30) (by intro i; simp only[full_st, Full.mk]) (by simp only[Kn, gt_st, full_st, Full.mk, ↓reduceIte, qD, qE, decide_true, and_self]) ?_
  intro t hF hA
  simp only[Kn, and_true] at hA
  (repeat first|apply sA|apply sB|apply sC|apply sD|apply sE)
  refine V.line' (by simp +contextual (disch := first|omega|simp only[nx];omega) only[D4,qF,qG,qA,qB,qC,D5,hF,hA,↓reduceIte,qD,qE]; with_reducible rfl) ?_
  refine V.heap (fun X => Grow H X ∧ Bx X H.next (A4 a b c d) 23 ∧ Bx X (H.next + 1) (A2 n q) 41 ∧ Bx X (H.next + 2) (A2 0 0) 59 ∧ H.next + 3 ≤ X.next) ⟨?_, ?_, ?_, ?_, ?_⟩ ?_
  · (repeat first | assumption | exact Grow.refl _ | refine Grow.alloc ?_ _ | refine Grow.set ?_ (by first|omega|simp only[nx];omega) _)
  · (repeat first | assumption | exact Bx.new _ _ _ | exact Bx.newAt (by first|omega|simp only[nx];omega) | refine Bx.put (by first|omega|simp only[nx];omega) _ _ | refine Bx.alloc ?_ _ | refine Bx.set ?_ (by first|omega|simp only[nx];omega) _)
  · (repeat first | assumption | exact Bx.new _ _ _ | exact Bx.newAt (by first|omega|simp only[nx];omega) | refine Bx.put (by first|omega|simp only[nx];omega) _ _ | refine Bx.alloc ?_ _ | refine Bx.set ?_ (by first|omega|simp only[nx];omega) _)
  · (repeat first | assumption | exact Bx.new _ _ _ | exact Bx.newAt (by first|omega|simp only[nx];omega) | refine Bx.put (by first|omega|simp only[nx];omega) _ _ | refine Bx.alloc ?_ _ | refine Bx.set ?_ (by first|omega|simp only[nx];omega) _)
  · simp only[nx]; omega
  rintro H1 ⟨g1, b1, c1, d1, n1⟩
  (repeat first|apply sA|apply sB|apply sC|apply sD|apply sE)
  refine V.line' (by simp +contextual (disch := first|omega|simp only[nx];omega) only[D4,qF,qG,qA,qB,qC,D5,hF,hA,↓reduceIte,qD,qE]; with_reducible rfl) ?_
  refine V.heap (fun X => Grow H1 X ∧ Bx X H1.next (A2 99 (-1)) 59) ⟨?_, ?_⟩ ?_
  · (repeat first | assumption | exact Grow.refl _ | refine Grow.alloc ?_ _ | refine Grow.set ?_ (by first|omega|simp only[nx];omega) _)
  · (repeat first | assumption | exact Bx.new _ _ _ | exact Bx.newAt (by first|omega|simp only[nx];omega) | refine Bx.put (by first|omega|simp only[nx];omega) _ _ | refine Bx.alloc ?_ _ | refine Bx.set ?_ (by first|omega|simp only[nx];omega) _)
  rintro H2 ⟨g2, e2⟩
  (repeat first|apply sA|apply sB|apply sC|apply sD|apply sE)
  refine V.line' (by simp +contextual (disch := first|omega|simp only[nx];omega) only[D4,qF,qG,qA,qB,qC,D5,hF,hA,↓reduceIte,qD,qE]; with_reducible rfl) ?_
  (repeat first|apply sA|apply sB|apply sC|apply sD|apply sE)
  refine V.re [(2, .pointer (some ⟨H.next, 0, none⟩)), (3, .pointer (some ⟨H.next + 1, 0, none⟩)), (4, .pointer (some ⟨H.next + 2, 0, none⟩)), (6, .pointer (some ⟨H1.next, 0, none⟩)), (7, I 0)] (N := 30) (by intro;simp only[full_st,hF]) (by simp only[Kn, D5,hF,hA,↓reduceIte,qD,qE,and_self,and_true,true_and];try (repeat' constructor)) ?_
  clear hF hA
  intro t hF hA
  simp only[Kn, and_true] at hA
  refine V.loop (fun z t m X => ∃ (k : Nat), k ≤ b + 1 ∧ z = b + 1 - k ∧ m = [] ∧ Grow H1 X ∧ Bx X H1.next (A2 (rg a c d n q k).1 (rg a c d n q k).2) 59 ∧ Full 30 t ∧ Kn [(2, .pointer (some ⟨H.next, 0, none⟩)), (3, .pointer (some ⟨H.next + 1, 0, none⟩)), (4, .pointer (some ⟨H.next + 2, 0, none⟩)), (6, .pointer (some ⟨H1.next, 0, none⟩)), (7, I k)] t) (b + 1) ?_ ?_
  · exact ⟨0, by omega, by omega, rfl, g2, e2, (by intro;simp only[full_st,hF]), (by simp only[Kn, D5,hF,hA,↓reduceIte,qD,qE,and_self,and_true,true_and];try (repeat' constructor))⟩
  clear hF hA
  rintro z t m X ⟨k, hk, rfl, rfl, hg, ex, hF, hA⟩
  simp only[Kn, and_true] at hA
  have bx := b1.grow hg
  have cx := c1.grow hg
  have dx := d1.grow hg
  have lx := ex.1
  generalize hlo : (rg a c d n q k).1 = lo at *
  generalize hhi : (rg a c d n q k).2 = hi at *
  (repeat first|apply sA|apply sB|apply sC|apply sD|apply sE)
  refine V.line' (by simp +contextual (disch := first|omega|simp only[nx];omega) only[D4,qF,qG,qA,qB,qC,D5,hF,hA,↓reduceIte,qD,qE, bx.2]; with_reducible rfl) ?_
  (repeat first|apply sA|apply sB|apply sC|apply sD|apply sE)
  refine V.condP (by simp only[D6,D5,hF,hA,↓reduceIte,qD,qE]; rfl) (fun hlt => ?_) (fun hlt => ?_)
  · have hkb : k ≤ b := by omega
    (repeat first|apply sA|apply sB|apply sC|apply sD|apply sE)
    refine V.run ?_
    refine VI.steps' 3 (by simp +contextual (disch := first|omega|simp only[nx];omega) only[D4,qF,qG,qA,qB,qC,D5,hF,hA,↓reduceIte,qD,qE, bx.2, cx.2]; with_reducible rfl) ?_
    simp only[ds]
    refine VI.callA rfl (f69_ok (b := b) (u := k) (by omega) hc hd hnq X) (by simp only[D6,D5,hF,hA,↓reduceIte,qD,qE]; try rfl) (fun X1 gx => ?_)
    have ex1 := ex.grow gx
    have lx1 := ex1.1
    refine VI.line' (by simp +contextual (disch := first|omega|simp only[nx];omega) only[D4,qF,qG,qA,qB,qC,D5,hF,hA,↓reduceIte,qD,qE]; with_reducible rfl) ?_
    (repeat first|apply sA|apply sB|apply sC|apply sD|apply sE)
    by_cases hx : exc a k c d n q = true
    · refine V.condF (by simp [D6,D5,hF,hA,↓reduceIte,qD,qE, hx]) ?_
      (repeat first|apply sA|apply sB|apply sC|apply sD|apply sE)
      refine V.line' (by simp +contextual (disch := first|omega|simp only[nx];omega) only[D4,qF,qG,qA,qB,qC,D5,hF,hA,↓reduceIte,qD,qE]; with_reducible rfl) ?_
      refine V.nil (Or.inl ⟨rfl, b + 1 - (k + 1), by omega, ?_⟩)
      refine ⟨k + 1, by omega, rfl, rfl, hg.trans gx, ?_, (by intro;simp only[full_st,hF]), (by simp only[Kn, D5,hF,hA,↓reduceIte,qD,qE,and_self,and_true,true_and];try (repeat' constructor))⟩
      have e : rg a c d n q (k + 1) = rg a c d n q k := by simp only[rg]; rw [if_pos hx]
      rw [e, hlo, hhi]
      exact ex1
    · refine V.condT (by simp [D6,D5,hF,hA,↓reduceIte,qD,qE, hx]) ?_
      (repeat first|apply sA|apply sB|apply sC|apply sD|apply sE)
      refine V.line' (by simp +contextual (disch := first|omega|simp only[nx];omega) only[D4,qF,qG,qA,qB,qC,D5,hF,hA,↓reduceIte,qD,qE, ex1.2]; with_reducible rfl) ?_
      refine V.heap (fun Y => Grow H1 Y ∧ Bx Y H1.next (A2 (min lo k) k) 59) ⟨?_, ?_⟩ ?_
      · have := hg.trans gx
        (repeat first | assumption | exact Grow.refl _ | refine Grow.alloc ?_ _ | refine Grow.set ?_ (by first|omega|simp only[nx];omega) _)
      · have e : (if (k : Int) < lo then (k : Int) else lo) = min lo k := by
          split <;> omega
        rw [e]
        (repeat first | assumption | exact Bx.new _ _ _ | exact Bx.newAt (by first|omega|simp only[nx];omega) | refine Bx.put (by first|omega|simp only[nx];omega) _ _ | refine Bx.alloc ?_ _ | refine Bx.set ?_ (by first|omega|simp only[nx];omega) _)
      rintro Y ⟨gy, ey⟩
      (repeat first|apply sA|apply sB|apply sC|apply sD|apply sE)
      refine V.line' (by simp +contextual (disch := first|omega|simp only[nx];omega) only[D4,qF,qG,qA,qB,qC,D5,hF,hA,↓reduceIte,qD,qE]; with_reducible rfl) ?_
      refine V.nil (Or.inl ⟨rfl, b + 1 - (k + 1), by omega, ?_⟩)
      refine ⟨k + 1, by omega, rfl, rfl, gy, ?_, (by intro;simp only[full_st,hF]), (by simp only[Kn, D5,hF,hA,↓reduceIte,qD,qE,and_self,and_true,true_and];try (repeat' constructor))⟩
      have e : rg a c d n q (k + 1) = (min lo k, (k : Int)) := by simp only[rg]; rw [if_neg hx, hlo]
      rw [e]
      exact ey
  · have ek : k = b + 1 := by omega
    subst ek
    refine V.exit ?_
    (repeat first | refine V.pass ?_ | refine V.here ?_ | refine V.out (by decide) ?_)
    refine V.nil (Or.inr ⟨by simp, ?_⟩)
    (repeat first | refine V.pass ?_ | refine V.here ?_ | refine V.out (by decide) ?_)
    (repeat first|apply sA|apply sB|apply sC|apply sD|apply sE)
    refine V.draw ?_
    refine VD.lineD' (by simp +contextual (disch := first|omega|simp only[nx];omega) only[D4,qF,qG,qA,qB,qC,D5,hF,hA,↓reduceIte,qD,qE, ex.2, dx.2]; with_reducible rfl) ?_ ?_ rfl ?_
    · simp only[monoG, List.cons_append, List.nil_append, Heap.next_set, Heap.next_alloc, Nat.le_refl, true_and, and_true] <;> omega
    · simp only[dcAll, dcOk, wantD, List.cons_append, List.nil_append, true_and, and_true]
      exact fun _ q hq => by simp only[List.mem_cons, List.not_mem_nil, or_false] at hq; (repeat (rcases hq with rfl | hq; exact ⟨_, _, _, rfl, (by simp +contextual (disch := first|omega|simp only[nx];omega) only[D4,qF,qG,qA,qB,qC,D5,hF,hA,↓reduceIte,qD,qE, ex.2]; with_reducible rfl), fun p hp => by cases hp; simp only[D5,hF,hA,↓reduceIte,qD,qE]; first | exact vEq_An | (simp [vEq, vEq0, all2]; done) | assumption⟩)); (try (subst hq; exact ⟨_, _, _, rfl, (by simp +contextual (disch := first|omega|simp only[nx];omega) only[D4,qF,qG,qA,qB,qC,D5,hF,hA,↓reduceIte,qD,qE, ex.2]; with_reducible rfl), fun p hp => by cases hp; simp only[D5,hF,hA,↓reduceIte,qD,qE]; first | exact vEq_An | (simp [vEq, vEq0, all2]; done) | assumption⟩))
    (repeat first|apply sA|apply sB|apply sC|apply sD|apply sE)
    refine V.ret (V.rets rfl (Lv.retG (by simp +contextual (disch := first|omega|simp only[nx];omega) only[D1, cells_alloc_at, cells_alloc_ne, cells_set_at, cells_set_ne, yres, yres1, yresL, qA, qB, qC, D5,hF,hA,↓reduceIte,qD,qE, cells_set]; rfl) ?_ ?_))
    · have := g1.trans hg
      (repeat first | assumption | exact Grow.refl _ | refine Grow.alloc ?_ _ | refine Grow.set ?_ (by first|omega|simp only[nx];omega) _)
    · rw [hlo, hhi]
end Go.Xe.TMX
