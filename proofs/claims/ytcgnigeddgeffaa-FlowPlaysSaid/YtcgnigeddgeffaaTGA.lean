/- What the functions of the layer flow come to: truths, and who survives. Conditions: none. -/
import Derived.Test.YtcgnigeddgeffaaTFZ
-- MOD TF
namespace Go.Xe.TFX
open Go Go.Xe Go.Proofs
open Nat renaming reduceLeDiff → qA, reduceSub → qB, reduceAdd → qC, reduceEqDiff → qD, reduceLT → qE
open Int renaming reduceNegSucc → qF, reduceEq → qG
open Go.Xe.Flw
set_option maxRecDepth 100000
set_option maxHeartbeats 3200000
set_option linter.unusedSimpArgs false
noncomputable def d71 : FCode := (.seq (.run (.go (.box 62 (.tmp (pth 1))) (pth 3)::
.go (.alloc 62 [(.int .i64 (.ofNat 0)),(.int .i64 (.ofNat 0))]) (pth 4)::
[])) (.seq (.run (.go (.move (.tmp (pth 0))) (pth 5)::
.go (.fieldAddr 0 (.tmp (pth 3))) (pth 6)::
.go (.load1 (.tmp (pth 6))) (pth 7)::
.go (.bin .mul 3 (.tmp (pth 5)) (.tmp (pth 7))) (pth 8)::
.go (.bin .quo 3 (.tmp (pth 8)) (.con (.int .i64 (.ofNat 1000)))) (pth 9)::
.go (.move (.tmp (pth 0))) (pth 10)::
.go (.fieldAddr 1 (.tmp (pth 3))) (pth 11)::
.go (.load1 (.tmp (pth 11))) (pth 12)::
.go (.bin .mul 3 (.tmp (pth 10)) (.tmp (pth 12))) (pth 13)::
.go (.bin .add 3 (.tmp (pth 13)) (.con (.int .i64 (.ofNat 999)))) (pth 14)::
.go (.bin .quo 3 (.tmp (pth 14)) (.con (.int .i64 (.ofNat 1000)))) (pth 15)::
.go (.build [(.int .i64 (.ofNat 0)),(.int .i64 (.ofNat 0))] [(0,1,(.tmp (pth 9))),(1,1,(.tmp (pth 15)))]) (pth 16)::
.un (.store 2 (.tmp (pth 4)) (.tmp (pth 16)))::
[])) .ret))
theorem de71 : @compF Try.prog (Gl.none Try.prog) Try.f71 2 = .mk d71 (mkTT 17) [(pth 0),(pth 1)] [.many (pth 4) 2] := by kernel_rfl
theorem dg71 : Try.prog.funcs[71]? = some Try.f71 := Try.func71
theorem do71 : okF Try.prog Try.f71 = true := by kernel_rfl
noncomputable def d133 : FCode := (.seq (.run (.go (.box 69 (.tmp (pth 0))) (pth 2)::
.go (.alloc 69 [(.int .i64 (.ofNat 0)),(.int .i64 (.ofNat 0))]) (pth 4)::
[])) (.seq (.run (.go (.move (.tmp (pth 1))) (pth 5)::
.go (.fieldAddr 0 (.tmp (pth 2))) (pth 6)::
.go (.load1 (.tmp (pth 6))) (pth 7)::
.go (.bin .mul 3 (.tmp (pth 5)) (.tmp (pth 7))) (pth 8)::
.go (.bin .quo 3 (.tmp (pth 8)) (.con (.int .i64 (.ofNat 1000)))) (pth 9)::
.go (.move (.tmp (pth 1))) (pth 10)::
.go (.fieldAddr 1 (.tmp (pth 2))) (pth 11)::
.go (.load1 (.tmp (pth 11))) (pth 12)::
.go (.bin .mul 3 (.tmp (pth 10)) (.tmp (pth 12))) (pth 13)::
.go (.bin .add 3 (.tmp (pth 13)) (.con (.int .i64 (.ofNat 1000)))) (pth 14)::
.go (.bin .sub 3 (.tmp (pth 14)) (.con (.int .i64 (.ofNat 1)))) (pth 15)::
.go (.bin .quo 3 (.tmp (pth 15)) (.con (.int .i64 (.ofNat 1000)))) (pth 16)::
.go (.build [(.int .i64 (.ofNat 0)),(.int .i64 (.ofNat 0))] [(0,1,(.tmp (pth 9))),(1,1,(.tmp (pth 16)))]) (pth 17)::
.un (.store 2 (.tmp (pth 4)) (.tmp (pth 17)))::
[])) .ret))
theorem de133 : @compF Try.prog (Gl.none Try.prog) Try.f133 2 = .mk d133 (mkTT 18) [(pth 0),(pth 1)] [.many (pth 4) 2] := by kernel_rfl
theorem dg133 : Try.prog.funcs[133]? = some Try.f133 := Try.func133
theorem do133 : okF Try.prog Try.f133 = true := by kernel_rfl
noncomputable def d107 : FCode := (.seq (.run (.go (.move (.con (.bool false))) (pth 4)::
[])) (.seq (.seq (.run (.go (.move (.tmp (pth 0))) (pth 7)::
.go (.len 0 (.tmp (pth 7))) (pth 8)::
.go (.move (.tmp (pth 1))) (pth 9)::
.go (.len 0 (.tmp (pth 9))) (pth 10)::
.go (.bin .neq 3 (.tmp (pth 8)) (.tmp (pth 10))) (pth 11)::
[])) (.cond (.tmp (pth 11)) (.seq (.run (.go (.move (.con (.bool false))) (pth 4)::
[])) .ret) .skip)) (.seq (.seq (.run (.go (.move (.tmp (pth 0))) (pth 12)::
.go (.len 0 (.tmp (pth 12))) (pth 13)::
.go (.move (.con (.int .i64 (.ofNat 0)))) (pth 14)::
[])) (.block 0 (.loop (.seq (.run (.go (.bin .lss 3 (.tmp (pth 14)) (.tmp (pth 13))) (pth 15)::
[])) (.seq (.cond (.tmp (pth 15)) .skip (.exit 0)) (.seq (.block 1 (.seq (.run (.go (.move (.tmp (pth 14))) (pth 16)::
.go (.indexAddr none 2 (.tmp (pth 12)) (.tmp (pth 14))) (pth 17)::
.go (.loadN 2 (.tmp (pth 17))) (pth 18)::
.go (.alloc 69 [(.int .i64 (.ofNat 0)),(.int .i64 (.ofNat 0))]) (pth 6)::
.go (.move (.tmp (pth 16))) (pth 5)::
.un (.store 2 (.tmp (pth 6)) (.tmp (pth 18)))::
[])) (.seq (.draw 7 (.go (.loadN 2 (.tmp (pth 6))) (pth 19)::
.go (.move (.tmp (pth 1))) (pth 20)::
.go (.move (.tmp (pth 5))) (pth 21)::
.go (.indexAddr none 1 (.tmp (pth 20)) (.tmp (pth 21))) (pth 22)::
.go (.load1 (.tmp (pth 22))) (pth 23)::
.go (.call (.con (.func (.func 109) ⟨[]⟩ ⟨[]⟩)) [(.tmp (pth 19)),(.tmp (pth 23))]) (pth 24)::
.go (.un .not (.tmp (pth 24))) (pth 25)::
[]) [.ok,.ok,.ok,.ok,.ok,.ok,.ok]) (.cond (.tmp (pth 25)) (.seq (.run (.go (.move (.con (.bool false))) (pth 4)::
[])) .ret) .skip)))) (.run (.go (.bin .add 3 (.tmp (pth 14)) (.con (.int .i64 (.ofNat 1)))) (pth 26)::
.go (.move (.tmp (pth 26))) (pth 14)::
[])))))))) (.seq (.run (.go (.move (.con (.bool true))) (pth 4)::
[])) .ret))))
theorem de107 : @compF Try.prog (Gl.none Try.prog) Try.f107 2 = .mk d107 (mkTT 27) [(pth 0),(pth 1)] [.tmp (pth 4)] := by kernel_rfl
theorem dg107 : Try.prog.funcs[107]? = some Try.f107 := Try.func107
theorem do107 : okF Try.prog Try.f107 = true := by kernel_rfl
noncomputable def d108 : FCode := (.seq (.run (.go (.move (.con (.bool false))) (pth 4)::
[])) (.seq (.seq (.run (.go (.move (.tmp (pth 0))) (pth 7)::
.go (.len 0 (.tmp (pth 7))) (pth 8)::
.go (.move (.con (.int .i64 (.ofNat 0)))) (pth 9)::
[])) (.block 0 (.loop (.seq (.run (.go (.bin .lss 3 (.tmp (pth 9)) (.tmp (pth 8))) (pth 10)::
[])) (.seq (.cond (.tmp (pth 10)) .skip (.exit 0)) (.seq (.block 1 (.seq (.run (.go (.indexAddr none 1 (.tmp (pth 7)) (.tmp (pth 9))) (pth 11)::
.go (.load1 (.tmp (pth 11))) (pth 12)::
.go (.move (.tmp (pth 12))) (pth 6)::
[])) (.seq (.run (.go (.move (.tmp (pth 1))) (pth 13)::
.go (.move (.tmp (pth 6))) (pth 14)::
.go (.call (.tmp (pth 13)) [(.tmp (pth 14))]) (pth 15)::
.go (.un .not (.tmp (pth 15))) (pth 16)::
[])) (.cond (.tmp (pth 16)) (.seq (.run (.go (.move (.con (.bool false))) (pth 4)::
[])) .ret) .skip)))) (.run (.go (.bin .add 3 (.tmp (pth 9)) (.con (.int .i64 (.ofNat 1)))) (pth 17)::
.go (.move (.tmp (pth 17))) (pth 9)::
[])))))))) (.seq (.run (.go (.move (.con (.bool true))) (pth 4)::
[])) .ret)))
theorem de108 : @compF Try.prog (Gl.none Try.prog) Try.f108 2 = .mk d108 (mkTT 18) [(pth 0),(pth 1)] [.tmp (pth 4)] := by kernel_rfl
theorem dg108 : Try.prog.funcs[108]? = some Try.f108 := Try.func108
theorem do108 : okF Try.prog Try.f108 = true := by kernel_rfl
noncomputable def d110 : FCode := (.seq (.run (.go (.move (.con (.bool false))) (pth 4)::
[])) (.seq (.seq (.run (.go (.move (.tmp (pth 0))) (pth 7)::
.go (.len 0 (.tmp (pth 7))) (pth 8)::
.go (.move (.con (.int .i64 (.ofNat 0)))) (pth 9)::
[])) (.block 0 (.loop (.seq (.run (.go (.bin .lss 3 (.tmp (pth 9)) (.tmp (pth 8))) (pth 10)::
[])) (.seq (.cond (.tmp (pth 10)) .skip (.exit 0)) (.seq (.block 1 (.seq (.run (.go (.indexAddr none 1 (.tmp (pth 7)) (.tmp (pth 9))) (pth 11)::
.go (.load1 (.tmp (pth 11))) (pth 12)::
.go (.move (.tmp (pth 12))) (pth 6)::
[])) (.seq (.run (.go (.move (.tmp (pth 1))) (pth 13)::
.go (.move (.tmp (pth 6))) (pth 14)::
.go (.call (.tmp (pth 13)) [(.tmp (pth 14))]) (pth 15)::
.go (.un .not (.tmp (pth 15))) (pth 16)::
[])) (.cond (.tmp (pth 16)) (.seq (.run (.go (.move (.con (.bool false))) (pth 4)::
[])) .ret) .skip)))) (.run (.go (.bin .add 3 (.tmp (pth 9)) (.con (.int .i64 (.ofNat 1)))) (pth 17)::
.go (.move (.tmp (pth 17))) (pth 9)::
[])))))))) (.seq (.run (.go (.move (.con (.bool true))) (pth 4)::
[])) .ret)))
theorem de110 : @compF Try.prog (Gl.none Try.prog) Try.f110 2 = .mk d110 (mkTT 18) [(pth 0),(pth 1)] [.tmp (pth 4)] := by kernel_rfl
theorem dg110 : Try.prog.funcs[110]? = some Try.f110 := Try.func110
theorem do110 : okF Try.prog Try.f110 = true := by kernel_rfl
noncomputable def d105 : FCode := (.seq (.run (.go (.move (.con (.bool false))) (pth 3)::
[])) (.seq (.run (.go (.move (.tmp (pth 0))) (pth 4)::
.go (.len 0 (.tmp (pth 4))) (pth 5)::
.go (.fieldAddr 2 (.tmp (pth 1))) (pth 6)::
.go (.load1 (.tmp (pth 6))) (pth 7)::
.go (.len 0 (.tmp (pth 7))) (pth 8)::
.go (.bin .eql 3 (.tmp (pth 5)) (.tmp (pth 8))) (pth 9)::
.go (.move (.tmp (pth 9))) (pth 3)::
[])) .ret))
theorem de105 : @compF Try.prog (Gl.none Try.prog) Try.f105 2 = .mk d105 (mkTT 10) [(pth 0),(pth 1)] [.tmp (pth 3)] := by kernel_rfl
theorem dg105 : Try.prog.funcs[105]? = some Try.f105 := Try.func105
theorem do105 : okF Try.prog Try.f105 = true := by kernel_rfl
noncomputable def d106 : FCode := (.seq (.run (.go (.move (.con (.bool false))) (pth 3)::
[])) (.seq (.run (.go (.fieldAddr 3 (.tmp (pth 1))) (pth 4)::
.go (.load1 (.tmp (pth 4))) (pth 5)::
.go (.move (.tmp (pth 0))) (pth 6)::
.go (.call (.con (.func (.func 107) ⟨[]⟩ ⟨[]⟩)) [(.tmp (pth 5)),(.tmp (pth 6))]) (pth 7)::
.go (.move (.tmp (pth 7))) (pth 3)::
[])) .ret))
theorem de106 : @compF Try.prog (Gl.none Try.prog) Try.f106 2 = .mk d106 (mkTT 8) [(pth 0),(pth 1)] [.tmp (pth 3)] := by kernel_rfl
theorem dg106 : Try.prog.funcs[106]? = some Try.f106 := Try.func106
theorem do106 : okF Try.prog Try.f106 = true := by kernel_rfl
abbrev W (x : Int) : Int := IntKind.i64.wrap x
theorem wrap_i (x : Int) : IntKind.i64.wrap x = (x + 9223372036854775808) % 18446744073709551616 - 9223372036854775808 := by
  unfold IntKind.wrap
  have e1 : (2 ^ IntKind.i64.bits : Int) = 18446744073709551616 := by decide
  have e2 : IntKind.i64.signed = true := rfl
  have e3 : (2 ^ (IntKind.i64.bits - 1) : Int) = 9223372036854775808 := by decide
  simp only [e1, e2, e3, Bool.true_and]
  split
  · rename_i h
    simp only [decide_eq_true_eq] at h
    omega
  · rename_i h
    simp only [decide_eq_true_eq] at h
    omega
def dd (n : Int) (r : R2) : R2 := (W ((W (n * r.1)).tdiv 1000), W ((W (W (n * r.2) + 999)).tdiv 1000))
theorem f71_ok (n : Int) (r : R2) (H : Heap) : Gives Try.prog 71 [I n, .agg ⟨r2 r⟩] H (.agg ⟨r2 (dd n r)⟩) := by
  obtain ⟨x, y⟩ := r
  refine F.entryL rfl dg71 do71 de71 rfl (by kernel_rfl) ?_
  simp only [sets]
  refine V.re [(0, I n), (1, .agg ⟨A2 x y⟩)] (N := 17) (by intro i; simp only [full_st, Full.mk]) (by simp only [Kn, gt_st, full_st, Full.mk, ↓reduceIte, qD, qE, decide_true, and_self]) ?_
  intro t hF hA
  simp only [Kn, and_true] at hA
  (repeat first|apply V.seq|apply V.block|apply V.scope|apply V.skip|apply V.close)
  refine V.line' (by simp +contextual (disch := first|omega|simp only [nx];omega) only [D4,qF,qG,qA,qB,qC,D5,hF,hA,↓reduceIte,qD,qE]; with_reducible rfl) ?_
  (repeat first|apply V.seq|apply V.block|apply V.scope|apply V.skip|apply V.close)
  refine V.line' (by simp +contextual (disch := first|omega|simp only [nx];omega) only [D4,qF,qG,qA,qB,qC,D5,hF,hA,↓reduceIte,qD,qE]; with_reducible rfl) ?_
  (repeat first|apply V.seq|apply V.block|apply V.scope|apply V.skip|apply V.close)
  refine V.ret (V.rets rfl (Lv.retG (by simp +contextual (disch := first|omega|simp only [nx];omega) only [D1, cells_alloc_at, cells_alloc_ne, cells_set_at, cells_set_ne, yres, yres1, yresL, qA, qB, qC, D5,hF,hA,↓reduceIte,qD,qE]; rfl) ?_ ?_))
  · (repeat first | assumption | exact Grow.refl _ | refine Grow.alloc ?_ _ | refine Grow.set ?_ (by first|omega|simp only [nx];omega) _)
  · rfl
theorem f133_ok (n : Int) (r : R2) (H : Heap) : Gives Try.prog 133 [.agg ⟨r2 r⟩, I n] H (.agg ⟨r2 (dd n r)⟩) := by
  obtain ⟨x, y⟩ := r
  have e : IntKind.i64.wrap (IntKind.i64.wrap (IntKind.i64.wrap (n * y) + 1000) - 1) = IntKind.i64.wrap (IntKind.i64.wrap (n * y) + 999) := by
    simp only [wrap_i]; omega
  refine F.entryL rfl dg133 do133 de133 rfl (by kernel_rfl) ?_
  simp only [sets]
  refine V.re [(0, .agg ⟨A2 x y⟩), (1, I n)] (N := 18) (by intro i; simp only [full_st, Full.mk]) (by simp only [Kn, gt_st, full_st, Full.mk, ↓reduceIte, qD, qE, decide_true, and_self]) ?_
  intro t hF hA
  simp only [Kn, and_true] at hA
  (repeat first|apply V.seq|apply V.block|apply V.scope|apply V.skip|apply V.close)
  refine V.line' (by simp +contextual (disch := first|omega|simp only [nx];omega) only [D4,qF,qG,qA,qB,qC,D5,hF,hA,↓reduceIte,qD,qE]; with_reducible rfl) ?_
  (repeat first|apply V.seq|apply V.block|apply V.scope|apply V.skip|apply V.close)
  refine V.line' (by simp +contextual (disch := first|omega|simp only [nx];omega) only [D4,qF,qG,qA,qB,qC,D5,hF,hA,↓reduceIte,qD,qE, e]; with_reducible rfl) ?_
  (repeat first|apply V.seq|apply V.block|apply V.scope|apply V.skip|apply V.close)
  refine V.ret (V.rets rfl (Lv.retG (by simp +contextual (disch := first|omega|simp only [nx];omega) only [D1, cells_alloc_at, cells_alloc_ne, cells_set_at, cells_set_ne, yres, yres1, yresL, qA, qB, qC, D5,hF,hA,↓reduceIte,qD,qE]; rfl) ?_ ?_))
  · (repeat first | assumption | exact Grow.refl _ | refine Grow.alloc ?_ _ | refine Grow.set ?_ (by first|omega|simp only [nx];omega) _)
  · rfl
def RI (H : Heap) (x : Value) (l : List Int) : Prop := Sl H x (l.map I)
theorem ri : RP RI := RP.ofSl _
theorem RI.len {H : Heap} {x : Value} {l : List Int} (h : RI H x l) (X : Heap) : ylen 0 X x = some (I l.length) := by
  have := Sl.len h
  rw [List.length_map] at this
  obtain ⟨p, n, c, rfl⟩ := ri.sl h
  exact this
theorem RI.at {H : Heap} {x : Value} {l : List Int} (h : RI H x l) {k : Nat} (hk : k < l.length) : ∃ p, yindexAddr none 1 x (I k) = some p ∧ ∀ H', Grow H H' → yload1 H' p = some (I l[k]) :=
  Sl.get h (k := k) (x := I l[k]) (by simp [hk]) rfl
structure Tr where
  F : List Int
  B : List Int
  D : List (List Int)
  M : List (List Int)
structure XV (H : Heap) (f b d m : Value) (X : Tr) : Prop where
  f : RI H f X.F
  b : RI H b X.B
  d : Nest RI H d X.D
  m : Nest RI H m X.M
theorem XV.grow {A B : Heap} (g : Grow A B) {f b d m : Value} {X : Tr} (h : XV A f b d m X) : XV B f b d m X := ⟨ri.grow g h.f, ri.grow g h.b, h.d.grow ri g, h.m.grow ri g⟩
def alI (rs : List R2) (ns : List Int) : Prop := rs.length = ns.length ∧ ∀ p ∈ rs.zip ns, p.1.1 ≤ p.2 ∧ p.2 ≤ p.1.2
instance (rs : List R2) (ns : List Int) : Decidable (alI rs ns) := by unfold alI; infer_instance
theorem tk1 {α : Type} {l : List α} {k : Nat} (h : k < l.length) : l.take (k + 1) = l.take k ++ [l[k]] := List.take_succ_eq_append_getElem h
theorem f107_ok {H : Heap} {v y : Value} {rs : List R2} {ns : List Int} (h : RS H v rs) (hy : RI H y ns) (hn : rs.length ≤ 1048576) : Gives Try.prog 107 [v, y] H (.bool (decide (alI rs ns))) := by
  have hl := h.len
  have hl2 := hy.len
  refine F.entryL rfl dg107 do107 de107 rfl (by kernel_rfl) ?_
  simp only [sets]
  refine V.re [(0, v), (1, y)] (N := 27) (by intro i; simp only [full_st, Full.mk]) (by simp only [Kn, gt_st, full_st, Full.mk, ↓reduceIte, qD, qE, decide_true, and_self]) ?_
  intro t hF hA
  simp only [Kn, and_true] at hA
  (repeat first|apply V.seq|apply V.block|apply V.scope|apply V.skip|apply V.close)
  refine V.line' (by simp +contextual (disch := first|omega|simp only [nx];omega) only [D4,qF,qG,qA,qB,qC,D5,hF,hA,↓reduceIte,qD,qE]; with_reducible rfl) ?_
  (repeat first|apply V.seq|apply V.block|apply V.scope|apply V.skip|apply V.close)
  refine V.line' (by simp +contextual (disch := first|omega|simp only [nx];omega) only [D4,qF,qG,qA,qB,qC,D5,hF,hA,↓reduceIte,qD,qE, hl, hl2]; with_reducible rfl) ?_
  (repeat first|apply V.seq|apply V.block|apply V.scope|apply V.skip|apply V.close)
  refine V.condP (by simp only [D6,D5,hF,hA,↓reduceIte,qD,qE]; rfl) (fun hne => ?_) (fun hne => ?_)
  · (repeat first|apply V.seq|apply V.block|apply V.scope|apply V.skip|apply V.close)
    refine V.line' (by simp +contextual (disch := first|omega|simp only [nx];omega) only [D4,qF,qG,qA,qB,qC,D5,hF,hA,↓reduceIte,qD,qE]; with_reducible rfl) ?_
    (repeat first|apply V.seq|apply V.block|apply V.scope|apply V.skip|apply V.close)
    refine V.ret (V.rets rfl (Lv.retG (by simp +contextual (disch := first|omega|simp only [nx];omega) only [D1, cells_alloc_at, cells_alloc_ne, cells_set_at, cells_set_ne, yres, yres1, yresL, qA, qB, qC, D5,hF,hA,↓reduceIte,qD,qE]; rfl) ?_ ?_))
    · exact .refl _
    · congr 1
      exact (decide_eq_false (fun hh => hne (by rw [hh.1]))).symm
  have hlen : rs.length = ns.length := by omega
  (repeat first|apply V.seq|apply V.block|apply V.scope|apply V.skip|apply V.close)
  refine V.line' (by simp +contextual (disch := first|omega|simp only [nx];omega) only [D4,qF,qG,qA,qB,qC,D5,hF,hA,↓reduceIte,qD,qE, hl]; with_reducible rfl) ?_
  (repeat first|apply V.seq|apply V.block|apply V.scope|apply V.skip|apply V.close)
  refine V.loop (fun z t m X => ∃ (k : Nat), k ≤ rs.length ∧ z = rs.length - k ∧ m = [] ∧ Grow H X ∧ (∀ p ∈ (rs.zip ns).take k, p.1.1 ≤ p.2 ∧ p.2 ≤ p.1.2) ∧ Full 27 t ∧ Kn [(1, y), (12, v), (13, I rs.length), (14, I k)] t) rs.length ?_ ?_
  · exact ⟨0, by omega, by omega, rfl, .refl _, by simp, (by intro i; simp only [full_st, hF]), (by simp only [Kn, D5,hF,hA,↓reduceIte,qD,qE, and_self, and_true, true_and]; try (repeat' constructor))⟩
  clear hF hA
  rintro z t m X ⟨k, hk, rfl, rfl, hg, hall, hF, hA⟩
  simp only [Kn, and_true] at hA
  (repeat first|apply V.seq|apply V.block|apply V.scope|apply V.skip|apply V.close)
  refine V.line' (by simp +contextual (disch := first|omega|simp only [nx];omega) only [D4,qF,qG,qA,qB,qC,D5,hF,hA,↓reduceIte,qD,qE]; with_reducible rfl) ?_
  (repeat first|apply V.seq|apply V.block|apply V.scope|apply V.skip|apply V.close)
  refine V.condP (by simp only [D6,D5,hF,hA,↓reduceIte,qD,qE]; rfl) (fun hlt => ?_) (fun hlt => ?_)
  · have hlt' : k < rs.length := by omega
    have hlt2 : k < ns.length := by omega
    have hlz : k < (rs.zip ns).length := by rw [List.length_zip]; omega
    have hz : (rs.zip ns)[k] = (rs[k], ns[k]) := List.getElem_zip ..
    obtain ⟨i, o, hp, hx⟩ := h.at hlt'
    obtain ⟨hx1, _, _⟩ := hx _ hg
    obtain ⟨q, hq, hqx⟩ := hy.at hlt2
    (repeat first|apply V.seq|apply V.block|apply V.scope|apply V.skip|apply V.close)
    refine V.line' (by simp +contextual (disch := first|omega|simp only [nx];omega) only [D4,qF,qG,qA,qB,qC,D5,hF,hA,↓reduceIte,qD,qE, hp, hx1]; with_reducible rfl) ?_
    refine V.heap (fun Y => Grow X Y ∧ Bx Y X.next (A2 rs[k].1 rs[k].2) 69) ⟨?_, ?_⟩ ?_
    · (repeat first | assumption | exact Grow.refl _ | refine Grow.alloc ?_ _ | refine Grow.set ?_ (by first|omega|simp only [nx];omega) _)
    · (repeat first | assumption | exact Bx.new _ _ _ | exact Bx.newAt (by first|omega|simp only [nx];omega) | refine Bx.put (by first|omega|simp only [nx];omega) _ _ | refine Bx.alloc ?_ _ | refine Bx.set ?_ (by first|omega|simp only [nx];omega) _)
    rintro X1 ⟨gx, bx⟩
    have hq1 := hqx _ (hg.trans gx)
    (repeat first|apply V.seq|apply V.block|apply V.scope|apply V.skip|apply V.close)
    refine V.draw ?_
    refine VD.dins 5 (by simp +contextual (disch := first|omega|simp only [nx];omega) only [D4,qF,qG,qA,qB,qC,D5,hF,hA,↓reduceIte,qD,qE, bx.2, hq, hq1]; with_reducible rfl) ?_
    simp only [ds]
    refine VD.callA (by simp only [D6,D5,hF,hA,↓reduceIte,qD,qE]; try rfl) (f109_ok rs[k] ns[k] X1) (by simp only [D6,D5,hF,hA,↓reduceIte,qD,qE]; try rfl) (fun X2 gy => ?_)
    refine VD.lineD' (by simp +contextual (disch := first|omega|simp only [nx];omega) only [D4,qF,qG,qA,qB,qC,D5,hF,hA,↓reduceIte,qD,qE]; with_reducible rfl) ?_ ?_ rfl ?_
    · have m1 := gy.1
      simp only [monoG, List.cons_append, List.nil_append, Heap.next_set, Heap.next_alloc, Nat.le_refl, true_and, and_true] <;> omega
    · simp only [dcAll, dcOk, wantD, List.cons_append, List.nil_append, true_and, and_true]
    (repeat first|apply V.seq|apply V.block|apply V.scope|apply V.skip|apply V.close)
    refine V.condP (by simp only [D6,D5,hF,hA,↓reduceIte,qD,qE]; rfl) (fun hw => ?_) (fun hw => ?_)
    · (repeat first|apply V.seq|apply V.block|apply V.scope|apply V.skip|apply V.close)
      refine V.line' (by simp +contextual (disch := first|omega|simp only [nx];omega) only [D4,qF,qG,qA,qB,qC,D5,hF,hA,↓reduceIte,qD,qE]; with_reducible rfl) ?_
      (repeat first|apply V.seq|apply V.block|apply V.scope|apply V.skip|apply V.close)
      refine V.ret (V.rets rfl (Or.inr ⟨by simp, V.rets rfl (Lv.retG (by simp +contextual (disch := first|omega|simp only [nx];omega) only [D1, cells_alloc_at, cells_alloc_ne, cells_set_at, cells_set_ne, yres, yres1, yresL, qA, qB, qC, D5,hF,hA,↓reduceIte,qD,qE]; rfl) ?_ ?_)⟩))
      · exact (hg.trans gx).trans gy
      · congr 1
        exact (decide_eq_false (fun hh => hw (by have := hh.2 _ (List.getElem_mem hlz); rw [hz] at this; exact this))).symm
    · (repeat first|apply V.seq|apply V.block|apply V.scope|apply V.skip|apply V.close)
      refine V.line' (by simp +contextual (disch := first|omega|simp only [nx];omega) only [D4,qF,qG,qA,qB,qC,D5,hF,hA,↓reduceIte,qD,qE]; with_reducible rfl) ?_
      refine V.nil (Or.inl ⟨rfl, rs.length - (k + 1), by omega, ?_⟩)
      refine ⟨k + 1, by omega, rfl, rfl, (hg.trans gx).trans gy, ?_, (by intro i; simp only [full_st, hF]), (by simp only [Kn, D5,hF,hA,↓reduceIte,qD,qE, and_self, and_true, true_and]; try (repeat' constructor))⟩
      intro p hp
      rw [tk1 hlz] at hp
      rcases List.mem_append.1 hp with hp | hp
      · exact hall p hp
      · rw [List.mem_singleton.1 hp, hz]; exact Decidable.not_not.1 hw
  · refine V.exit ?_
    (repeat first | refine V.pass ?_ | refine V.here ?_ | refine V.out (by decide) ?_)
    refine V.nil (Or.inr ⟨by simp, ?_⟩)
    (repeat first | refine V.pass ?_ | refine V.here ?_ | refine V.out (by decide) ?_)
    have e : (rs.zip ns).take k = rs.zip ns := List.take_of_length_le (by rw [List.length_zip]; omega)
    rw [e] at hall
    (repeat first|apply V.seq|apply V.block|apply V.scope|apply V.skip|apply V.close)
    refine V.line' (by simp +contextual (disch := first|omega|simp only [nx];omega) only [D4,qF,qG,qA,qB,qC,D5,hF,hA,↓reduceIte,qD,qE]; with_reducible rfl) ?_
    (repeat first|apply V.seq|apply V.block|apply V.scope|apply V.skip|apply V.close)
    refine V.ret (V.rets rfl (Lv.retG (by simp +contextual (disch := first|omega|simp only [nx];omega) only [D1, cells_alloc_at, cells_alloc_ne, cells_set_at, cells_set_ne, yres, yres1, yresL, qA, qB, qC, D5,hF,hA,↓reduceIte,qD,qE]; rfl) ?_ ?_))
    · exact hg
    · rw [decide_eq_true (show alI rs ns from ⟨hlen, hall⟩)]
theorem f108_ok {H : Heap} {v y : Value} {L : List Int} {p : Int → Prop} [DecidablePred p] (h : RI H v L) (hn : L.length ≤ 1048576) (hy : ∀ X, Grow H X → ∀ r, FV Try.prog y [I r] X (fun w X' => w = .bool (decide (p r)) ∧ Grow X X')) : Gives Try.prog 108 [v, y] H (.bool (decide (∀ r ∈ L, p r))) := by
  have hl := h.len
  refine F.entryL rfl dg108 do108 de108 rfl (by kernel_rfl) ?_
  simp only [sets]
  refine V.re [(0, v), (1, y)] (N := 18) (by intro i; simp only [full_st, Full.mk]) (by simp only [Kn, gt_st, full_st, Full.mk, ↓reduceIte, qD, qE, decide_true, and_self]) ?_
  intro t hF hA
  simp only [Kn, and_true] at hA
  (repeat first|apply V.seq|apply V.block|apply V.scope|apply V.skip|apply V.close)
  refine V.line' (by simp +contextual (disch := first|omega|simp only [nx];omega) only [D4,qF,qG,qA,qB,qC,D5,hF,hA,↓reduceIte,qD,qE]; with_reducible rfl) ?_
  (repeat first|apply V.seq|apply V.block|apply V.scope|apply V.skip|apply V.close)
  refine V.line' (by simp +contextual (disch := first|omega|simp only [nx];omega) only [D4,qF,qG,qA,qB,qC,D5,hF,hA,↓reduceIte,qD,qE, hl]; with_reducible rfl) ?_
  (repeat first|apply V.seq|apply V.block|apply V.scope|apply V.skip|apply V.close)
  refine V.loop (fun z t m X => ∃ (k : Nat), k ≤ L.length ∧ z = L.length - k ∧ m = [] ∧ Grow H X ∧ (∀ r ∈ L.take k, p r) ∧ Full 18 t ∧ Kn [(1, y), (7, v), (8, I L.length), (9, I k)] t) L.length ?_ ?_
  · exact ⟨0, by omega, by omega, rfl, .refl _, by simp, (by intro i; simp only [full_st, hF]), (by simp only [Kn, D5,hF,hA,↓reduceIte,qD,qE, and_self, and_true, true_and]; try (repeat' constructor))⟩
  clear hF hA
  rintro z t m X ⟨k, hk, rfl, rfl, hg, hall, hF, hA⟩
  simp only [Kn, and_true] at hA
  (repeat first|apply V.seq|apply V.block|apply V.scope|apply V.skip|apply V.close)
  refine V.line' (by simp +contextual (disch := first|omega|simp only [nx];omega) only [D4,qF,qG,qA,qB,qC,D5,hF,hA,↓reduceIte,qD,qE]; with_reducible rfl) ?_
  (repeat first|apply V.seq|apply V.block|apply V.scope|apply V.skip|apply V.close)
  refine V.condP (by simp only [D6,D5,hF,hA,↓reduceIte,qD,qE]; rfl) (fun hlt => ?_) (fun hlt => ?_)
  · have hlt' : k < L.length := by omega
    obtain ⟨q, hp, hx⟩ := h.at hlt'
    have hx1 := hx _ hg
    (repeat first|apply V.seq|apply V.block|apply V.scope|apply V.skip|apply V.close)
    refine V.line' (by simp +contextual (disch := first|omega|simp only [nx];omega) only [D4,qF,qG,qA,qB,qC,D5,hF,hA,↓reduceIte,qD,qE, hp, hx1]; with_reducible rfl) ?_
    (repeat first|apply V.seq|apply V.block|apply V.scope|apply V.skip|apply V.close)
    refine V.run ?_
    refine VI.steps' 2 (by simp +contextual (disch := first|omega|simp only [nx];omega) only [D4,qF,qG,qA,qB,qC,D5,hF,hA,↓reduceIte,qD,qE]; with_reducible rfl) ?_
    simp only [ds]
    refine VI.callV (by simp only [D6,D5,hF,hA,↓reduceIte,qD,qE]; rfl) (by simp only [dA, List.map_cons, List.map_nil, D5,hF,hA,↓reduceIte,qD,qE]; exact hy X hg L[k]) (fun w X2 hw => ?_)
    obtain ⟨rfl, gy⟩ := hw
    refine VI.line' (by simp +contextual (disch := first|omega|simp only [nx];omega) only [D4,qF,qG,qA,qB,qC,D5,hF,hA,↓reduceIte,qD,qE]; with_reducible rfl) ?_
    (repeat first|apply V.seq|apply V.block|apply V.scope|apply V.skip|apply V.close)
    refine V.condP (by simp only [D6,D5,hF,hA,↓reduceIte,qD,qE]; rfl) (fun hw => ?_) (fun hw => ?_)
    · (repeat first|apply V.seq|apply V.block|apply V.scope|apply V.skip|apply V.close)
      refine V.line' (by simp +contextual (disch := first|omega|simp only [nx];omega) only [D4,qF,qG,qA,qB,qC,D5,hF,hA,↓reduceIte,qD,qE]; with_reducible rfl) ?_
      (repeat first|apply V.seq|apply V.block|apply V.scope|apply V.skip|apply V.close)
      refine V.ret (V.rets rfl (Or.inr ⟨by simp, V.rets rfl (Lv.retG (by simp +contextual (disch := first|omega|simp only [nx];omega) only [D1, cells_alloc_at, cells_alloc_ne, cells_set_at, cells_set_ne, yres, yres1, yresL, qA, qB, qC, D5,hF,hA,↓reduceIte,qD,qE]; rfl) ?_ ?_)⟩))
      · exact hg.trans gy
      · congr 1
        exact (decide_eq_false (fun hh => hw (hh _ (List.getElem_mem hlt')))).symm
    · (repeat first|apply V.seq|apply V.block|apply V.scope|apply V.skip|apply V.close)
      refine V.line' (by simp +contextual (disch := first|omega|simp only [nx];omega) only [D4,qF,qG,qA,qB,qC,D5,hF,hA,↓reduceIte,qD,qE]; with_reducible rfl) ?_
      refine V.nil (Or.inl ⟨rfl, L.length - (k + 1), by omega, ?_⟩)
      refine ⟨k + 1, by omega, rfl, rfl, hg.trans gy, ?_, (by intro i; simp only [full_st, hF]), (by simp only [Kn, D5,hF,hA,↓reduceIte,qD,qE, and_self, and_true, true_and]; try (repeat' constructor))⟩
      intro q hq
      rw [tk1 hlt'] at hq
      rcases List.mem_append.1 hq with hq | hq
      · exact hall q hq
      · rw [List.mem_singleton.1 hq]; exact Decidable.not_not.1 hw
  · refine V.exit ?_
    (repeat first | refine V.pass ?_ | refine V.here ?_ | refine V.out (by decide) ?_)
    refine V.nil (Or.inr ⟨by simp, ?_⟩)
    (repeat first | refine V.pass ?_ | refine V.here ?_ | refine V.out (by decide) ?_)
    have e : L.take k = L := List.take_of_length_le (by omega)
    rw [e] at hall
    (repeat first|apply V.seq|apply V.block|apply V.scope|apply V.skip|apply V.close)
    refine V.line' (by simp +contextual (disch := first|omega|simp only [nx];omega) only [D4,qF,qG,qA,qB,qC,D5,hF,hA,↓reduceIte,qD,qE]; with_reducible rfl) ?_
    (repeat first|apply V.seq|apply V.block|apply V.scope|apply V.skip|apply V.close)
    refine V.ret (V.rets rfl (Lv.retG (by simp +contextual (disch := first|omega|simp only [nx];omega) only [D1, cells_alloc_at, cells_alloc_ne, cells_set_at, cells_set_ne, yres, yres1, yresL, qA, qB, qC, D5,hF,hA,↓reduceIte,qD,qE]; rfl) ?_ ?_))
    · exact hg
    · rw [decide_eq_true hall]
theorem f110_ok {H : Heap} {v y : Value} {L : List (List Int)} {p : List Int → Prop} [DecidablePred p] (h : Nest RI H v L) (hn : L.length ≤ 1048576) (hy : ∀ X, Grow H X → ∀ x row, RI X x row → row ∈ L → FV Try.prog y [x] X (fun w X' => w = .bool (decide (p row)) ∧ Grow X X')) : Gives Try.prog 110 [v, y] H (.bool (decide (∀ r ∈ L, p r))) := by
  have hl := h.len
  refine F.entryL rfl dg110 do110 de110 rfl (by kernel_rfl) ?_
  simp only [sets]
  refine V.re [(0, v), (1, y)] (N := 18) (by intro i; simp only [full_st, Full.mk]) (by simp only [Kn, gt_st, full_st, Full.mk, ↓reduceIte, qD, qE, decide_true, and_self]) ?_
  intro t hF hA
  simp only [Kn, and_true] at hA
  (repeat first|apply V.seq|apply V.block|apply V.scope|apply V.skip|apply V.close)
  refine V.line' (by simp +contextual (disch := first|omega|simp only [nx];omega) only [D4,qF,qG,qA,qB,qC,D5,hF,hA,↓reduceIte,qD,qE]; with_reducible rfl) ?_
  (repeat first|apply V.seq|apply V.block|apply V.scope|apply V.skip|apply V.close)
  refine V.line' (by simp +contextual (disch := first|omega|simp only [nx];omega) only [D4,qF,qG,qA,qB,qC,D5,hF,hA,↓reduceIte,qD,qE, hl]; with_reducible rfl) ?_
  (repeat first|apply V.seq|apply V.block|apply V.scope|apply V.skip|apply V.close)
  refine V.loop (fun z t m X => ∃ (k : Nat), k ≤ L.length ∧ z = L.length - k ∧ m = [] ∧ Grow H X ∧ (∀ r ∈ L.take k, p r) ∧ Full 18 t ∧ Kn [(1, y), (7, v), (8, I L.length), (9, I k)] t) L.length ?_ ?_
  · exact ⟨0, by omega, by omega, rfl, .refl _, by simp, (by intro i; simp only [full_st, hF]), (by simp only [Kn, D5,hF,hA,↓reduceIte,qD,qE, and_self, and_true, true_and]; try (repeat' constructor))⟩
  clear hF hA
  rintro z t m X ⟨k, hk, rfl, rfl, hg, hall, hF, hA⟩
  simp only [Kn, and_true] at hA
  (repeat first|apply V.seq|apply V.block|apply V.scope|apply V.skip|apply V.close)
  refine V.line' (by simp +contextual (disch := first|omega|simp only [nx];omega) only [D4,qF,qG,qA,qB,qC,D5,hF,hA,↓reduceIte,qD,qE]; with_reducible rfl) ?_
  (repeat first|apply V.seq|apply V.block|apply V.scope|apply V.skip|apply V.close)
  refine V.condP (by simp only [D6,D5,hF,hA,↓reduceIte,qD,qE]; rfl) (fun hlt => ?_) (fun hlt => ?_)
  · have hlt' : k < L.length := by omega
    obtain ⟨q, x, hp, hx⟩ := h.at ri hlt'
    obtain ⟨hx1, hx2⟩ := hx _ hg
    have hpk := hp .i64
    (repeat first|apply V.seq|apply V.block|apply V.scope|apply V.skip|apply V.close)
    refine V.line' (by simp +contextual (disch := first|omega|simp only [nx];omega) only [D4,qF,qG,qA,qB,qC,D5,hF,hA,↓reduceIte,qD,qE, hpk, hx1]; with_reducible rfl) ?_
    (repeat first|apply V.seq|apply V.block|apply V.scope|apply V.skip|apply V.close)
    refine V.run ?_
    refine VI.steps' 2 (by simp +contextual (disch := first|omega|simp only [nx];omega) only [D4,qF,qG,qA,qB,qC,D5,hF,hA,↓reduceIte,qD,qE]; with_reducible rfl) ?_
    simp only [ds]
    refine VI.callV (by simp only [D6,D5,hF,hA,↓reduceIte,qD,qE]; rfl) (by simp only [dA, List.map_cons, List.map_nil, D5,hF,hA,↓reduceIte,qD,qE]; exact hy X hg x L[k] hx2 (List.getElem_mem hlt')) (fun w X2 hw => ?_)
    obtain ⟨rfl, gy⟩ := hw
    refine VI.line' (by simp +contextual (disch := first|omega|simp only [nx];omega) only [D4,qF,qG,qA,qB,qC,D5,hF,hA,↓reduceIte,qD,qE]; with_reducible rfl) ?_
    (repeat first|apply V.seq|apply V.block|apply V.scope|apply V.skip|apply V.close)
    refine V.condP (by simp only [D6,D5,hF,hA,↓reduceIte,qD,qE]; rfl) (fun hw => ?_) (fun hw => ?_)
    · (repeat first|apply V.seq|apply V.block|apply V.scope|apply V.skip|apply V.close)
      refine V.line' (by simp +contextual (disch := first|omega|simp only [nx];omega) only [D4,qF,qG,qA,qB,qC,D5,hF,hA,↓reduceIte,qD,qE]; with_reducible rfl) ?_
      (repeat first|apply V.seq|apply V.block|apply V.scope|apply V.skip|apply V.close)
      refine V.ret (V.rets rfl (Or.inr ⟨by simp, V.rets rfl (Lv.retG (by simp +contextual (disch := first|omega|simp only [nx];omega) only [D1, cells_alloc_at, cells_alloc_ne, cells_set_at, cells_set_ne, yres, yres1, yresL, qA, qB, qC, D5,hF,hA,↓reduceIte,qD,qE]; rfl) ?_ ?_)⟩))
      · exact hg.trans gy
      · congr 1
        exact (decide_eq_false (fun hh => hw (hh _ (List.getElem_mem hlt')))).symm
    · (repeat first|apply V.seq|apply V.block|apply V.scope|apply V.skip|apply V.close)
      refine V.line' (by simp +contextual (disch := first|omega|simp only [nx];omega) only [D4,qF,qG,qA,qB,qC,D5,hF,hA,↓reduceIte,qD,qE]; with_reducible rfl) ?_
      refine V.nil (Or.inl ⟨rfl, L.length - (k + 1), by omega, ?_⟩)
      refine ⟨k + 1, by omega, rfl, rfl, hg.trans gy, ?_, (by intro i; simp only [full_st, hF]), (by simp only [Kn, D5,hF,hA,↓reduceIte,qD,qE, and_self, and_true, true_and]; try (repeat' constructor))⟩
      intro q hq
      rw [tk1 hlt'] at hq
      rcases List.mem_append.1 hq with hq | hq
      · exact hall q hq
      · rw [List.mem_singleton.1 hq]; exact Decidable.not_not.1 hw
  · refine V.exit ?_
    (repeat first | refine V.pass ?_ | refine V.here ?_ | refine V.out (by decide) ?_)
    refine V.nil (Or.inr ⟨by simp, ?_⟩)
    (repeat first | refine V.pass ?_ | refine V.here ?_ | refine V.out (by decide) ?_)
    have e : L.take k = L := List.take_of_length_le (by omega)
    rw [e] at hall
    (repeat first|apply V.seq|apply V.block|apply V.scope|apply V.skip|apply V.close)
    refine V.line' (by simp +contextual (disch := first|omega|simp only [nx];omega) only [D4,qF,qG,qA,qB,qC,D5,hF,hA,↓reduceIte,qD,qE]; with_reducible rfl) ?_
    (repeat first|apply V.seq|apply V.block|apply V.scope|apply V.skip|apply V.close)
    refine V.ret (V.rets rfl (Lv.retG (by simp +contextual (disch := first|omega|simp only [nx];omega) only [D1, cells_alloc_at, cells_alloc_ne, cells_set_at, cells_set_ne, yres, yres1, yresL, qA, qB, qC, D5,hF,hA,↓reduceIte,qD,qE]; rfl) ?_ ?_))
    · exact hg
    · rw [decide_eq_true hall]
theorem f105_ok {H : Heap} {c b r n x : Value} {T : Tb} {row : List Int} {i : Nat} (h : TV H c b r n T) (hb : Bx H i [c, b, r, n] 38) (hx : RI H x row) : Gives Try.prog 105 [x, .pointer (some ⟨i, 0, none⟩)] H (.bool (decide (row.length = T.Rt.length))) := by
  have hl := hx.len
  have hl2 := h.r.len
  refine F.entryL rfl dg105 do105 de105 rfl (by kernel_rfl) ?_
  simp only [sets]
  refine V.re [(0, x), (1, .pointer (some ⟨i, 0, none⟩))] (N := 10) (by intro i; simp only [full_st, Full.mk]) (by simp only [Kn, gt_st, full_st, Full.mk, ↓reduceIte, qD, qE, decide_true, and_self]) ?_
  intro t hF hA
  simp only [Kn, and_true] at hA
  (repeat first|apply V.seq|apply V.block|apply V.scope|apply V.skip|apply V.close)
  refine V.line' (by simp +contextual (disch := first|omega|simp only [nx];omega) only [D4,qF,qG,qA,qB,qC,D5,hF,hA,↓reduceIte,qD,qE]; with_reducible rfl) ?_
  (repeat first|apply V.seq|apply V.block|apply V.scope|apply V.skip|apply V.close)
  refine V.line' (by simp +contextual (disch := first|omega|simp only [nx];omega) only [D4,qF,qG,qA,qB,qC,D5,hF,hA,↓reduceIte,qD,qE, hb.2, hl, hl2]; with_reducible rfl) ?_
  (repeat first|apply V.seq|apply V.block|apply V.scope|apply V.skip|apply V.close)
  refine V.ret (V.rets rfl (Lv.retG (by simp +contextual (disch := first|omega|simp only [nx];omega) only [D1, cells_alloc_at, cells_alloc_ne, cells_set_at, cells_set_ne, yres, yres1, yresL, qA, qB, qC, D5,hF,hA,↓reduceIte,qD,qE]; rfl) ?_ ?_))
  · exact .refl _
  · congr 1
    rw [decide_eq_decide]
    omega
theorem f106_ok {H : Heap} {c b r n x : Value} {T : Tb} {row : List Int} {i : Nat} (h : TV H c b r n T) (hn : T.N.length ≤ 1048576) (hb : Bx H i [c, b, r, n] 38) (hx : RI H x row) : Gives Try.prog 106 [x, .pointer (some ⟨i, 0, none⟩)] H (.bool (decide (alI T.N row))) := by
  refine F.entryL rfl dg106 do106 de106 rfl (by kernel_rfl) ?_
  simp only [sets]
  refine V.re [(0, x), (1, .pointer (some ⟨i, 0, none⟩))] (N := 8) (by intro i; simp only [full_st, Full.mk]) (by simp only [Kn, gt_st, full_st, Full.mk, ↓reduceIte, qD, qE, decide_true, and_self]) ?_
  intro t hF hA
  simp only [Kn, and_true] at hA
  (repeat first|apply V.seq|apply V.block|apply V.scope|apply V.skip|apply V.close)
  refine V.line' (by simp +contextual (disch := first|omega|simp only [nx];omega) only [D4,qF,qG,qA,qB,qC,D5,hF,hA,↓reduceIte,qD,qE]; with_reducible rfl) ?_
  (repeat first|apply V.seq|apply V.block|apply V.scope|apply V.skip|apply V.close)
  refine V.run ?_
  refine VI.steps' 3 (by simp +contextual (disch := first|omega|simp only [nx];omega) only [D4,qF,qG,qA,qB,qC,D5,hF,hA,↓reduceIte,qD,qE, hb.2]; with_reducible rfl) ?_
  simp only [ds]
  refine VI.callA rfl (f107_ok h.n hx hn) (by simp only [D6,D5,hF,hA,↓reduceIte,qD,qE]; try rfl) (fun H2 g2 => ?_)
  refine VI.line' (by simp +contextual (disch := first|omega|simp only [nx];omega) only [D4,qF,qG,qA,qB,qC,D5,hF,hA,↓reduceIte,qD,qE]; with_reducible rfl) ?_
  (repeat first|apply V.seq|apply V.block|apply V.scope|apply V.skip|apply V.close)
  refine V.ret (V.rets rfl (Lv.retG (by simp +contextual (disch := first|omega|simp only [nx];omega) only [D1, cells_alloc_at, cells_alloc_ne, cells_set_at, cells_set_ne, yres, yres1, yresL, qA, qB, qC, D5,hF,hA,↓reduceIte,qD,qE]; rfl) ?_ ?_))
  · exact g2
  · rfl
def okFs (l : List Int) : Prop := ∀ n ∈ l, 0 ≤ n ∧ n ≤ 500
def okD (k : Nat) (L : List (List Int)) : Prop := ∀ row ∈ L, row.length = k
def okM (rs : List R2) (L : List (List Int)) : Prop := ∀ row ∈ L, alI rs row
instance okFsd (l : List Int) : Decidable (okFs l) := inferInstanceAs (Decidable (∀ n ∈ l, 0 ≤ n ∧ n ≤ 500))
instance okDd (k : Nat) (L : List (List Int)) : Decidable (okD k L) := inferInstanceAs (Decidable (∀ row ∈ L, row.length = k))
instance okMd (rs : List R2) (L : List (List Int)) : Decidable (okM rs L) := inferInstanceAs (Decidable (∀ row ∈ L, alI rs row))
def hld (T : Tb) (X : Tr) : Prop := X.F.length = grp T ∧ okFs X.F ∧ alI T.B X.B ∧ X.D.length = T.B.length ∧ okD T.Rt.length X.D ∧ X.M.length = T.B.length ∧ okM T.N X.M
instance (T : Tb) (X : Tr) : Decidable (hld T X) := by unfold hld; infer_instance
theorem f108_F {H : Heap} {v : Value} {L : List Int} (h : RI H v L) (hn : L.length ≤ 1048576) : Gives Try.prog 108 [v, .func (.func 109) ⟨[.agg ⟨A2 0 500⟩]⟩ ⟨[]⟩] H (.bool (decide (okFs L))) := f108_ok h hn (fun X _ r => FV.fn (f109_ok (0, 500) r X))
theorem f110_D {H : Heap} {c b r n d : Value} {T : Tb} {L : List (List Int)} {i : Nat} (h : TV H c b r n T) (hb : Bx H i [c, b, r, n] 38) (hd : Nest RI H d L) (hn : L.length ≤ 1048576) : Gives Try.prog 110 [d, .func (.func 105) ⟨[]⟩ ⟨[.pointer (some ⟨i, 0, none⟩)]⟩] H (.bool (decide (okD T.Rt.length L))) :=
  f110_ok hd hn (fun _ g _ _ hx _ => FV.fn (a := []) (f105_ok (h.grow g) (hb.grow g) hx))
theorem f110_M {H : Heap} {c b r n d : Value} {T : Tb} {L : List (List Int)} {i : Nat} (h : TV H c b r n T) (hN : T.N.length ≤ 1048576) (hb : Bx H i [c, b, r, n] 38) (hd : Nest RI H d L) (hn : L.length ≤ 1048576) : Gives Try.prog 110 [d, .func (.func 106) ⟨[]⟩ ⟨[.pointer (some ⟨i, 0, none⟩)]⟩] H (.bool (decide (okM T.N L))) :=
  f110_ok hd hn (fun _ g _ _ hx _ => FV.fn (a := []) (f106_ok (h.grow g) hN (hb.grow g) hx))
end Go.Xe.TFX
