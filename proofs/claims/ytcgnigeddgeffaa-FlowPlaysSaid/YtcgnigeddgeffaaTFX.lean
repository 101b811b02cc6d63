/- What the functions of the layer flow come to: tables. Conditions: none. -/
import Derived.Test.YtcgnigeddgeffaaZv
import Derived.Test.YtcgnigeddgeffaaYk
import Derived.Test.YtcgnigeddgeffaaTFO
-- MOD TF
namespace Go.Xe.TFX
open Go Go.Xe Go.Proofs
open Nat renaming reduceLeDiff → qA, reduceSub → qB, reduceAdd → qC, reduceEqDiff → qD, reduceLT → qE
open Int renaming reduceNegSucc → qF, reduceEq → qG
open Go.Xe.Flw
set_option maxRecDepth 100000
set_option maxHeartbeats 1600000
set_option linter.unusedSimpArgs false
noncomputable def d41 : FCode := (.seq (.run (.go (.move (.con (.bool false))) (pth 6)::
[])) (.seq (.run (.go (.move (.tmp (pth 0))) (pth 7)::
.go (.move (.tmp (pth 1))) (pth 8)::
.go (.bin .geq 3 (.tmp (pth 7)) (.tmp (pth 8))) (pth 9)::
.go (.move (.tmp (pth 9))) (pth 10)::
.gd (pth 10) true (.move (.tmp (pth 0))) (pth 11)::
.gd (pth 10) true (.move (.tmp (pth 2))) (pth 12)::
.gd (pth 10) true (.bin .leq 3 (.tmp (pth 11)) (.tmp (pth 12))) (pth 13)::
.go (.pick (.tmp (pth 10)) (.tmp (pth 13)) (.con (.bool false))) (pth 14)::
.go (.move (.tmp (pth 14))) (pth 6)::
[])) .ret))
theorem de41 : @compF Try.prog (Gl.none Try.prog) Try.f41 3 = .mk d41 (mkTT 15) [(pth 0),(pth 1),(pth 2)] [.tmp (pth 6)] := by kernel_rfl
theorem dg41 : Try.prog.funcs[41]? = some Try.f41 := Try.func41
theorem do41 : okF Try.prog Try.f41 = true := by kernel_rfl
noncomputable def d45 : FCode := (.seq (.run (.go (.box 62 (.tmp (pth 0))) (pth 3)::
.go (.move (.con (.bool false))) (pth 6)::
[])) (.seq (.run (.go (.fieldAddr 0 (.tmp (pth 3))) (pth 7)::
.go (.load1 (.tmp (pth 7))) (pth 8)::
.go (.move (.tmp (pth 1))) (pth 9)::
.go (.fieldAddr 1 (.tmp (pth 3))) (pth 10)::
.go (.load1 (.tmp (pth 10))) (pth 11)::
.go (.call (.con (.func (.func 41) ⟨[]⟩ ⟨[]⟩)) [(.tmp (pth 8)),(.tmp (pth 9)),(.tmp (pth 11))]) (pth 12)::
.go (.move (.tmp (pth 12))) (pth 13)::
.gd (pth 13) true (.fieldAddr 1 (.tmp (pth 3))) (pth 14)::
.gd (pth 13) true (.load1 (.tmp (pth 14))) (pth 15)::
.gd (pth 13) true (.move (.tmp (pth 2))) (pth 16)::
.gd (pth 13) true (.bin .leq 3 (.tmp (pth 15)) (.tmp (pth 16))) (pth 17)::
.go (.pick (.tmp (pth 13)) (.tmp (pth 17)) (.con (.bool false))) (pth 18)::
.go (.move (.tmp (pth 18))) (pth 6)::
[])) .ret))
theorem de45 : @compF Try.prog (Gl.none Try.prog) Try.f45 3 = .mk d45 (mkTT 19) [(pth 0),(pth 1),(pth 2)] [.tmp (pth 6)] := by kernel_rfl
theorem dg45 : Try.prog.funcs[45]? = some Try.f45 := Try.func45
theorem do45 : okF Try.prog Try.f45 = true := by kernel_rfl
noncomputable def d34 : FCode := (.seq (.run (.go (.box 25 (.tmp (pth 0))) (pth 1)::
.go (.move (.con (.int .i64 (.ofNat 0)))) (pth 2)::
[])) (.seq (.seq (.run (.go (.fieldAddr 0 (.tmp (pth 1))) (pth 3)::
.go (.load1 (.tmp (pth 3))) (pth 4)::
.go (.len 0 (.tmp (pth 4))) (pth 5)::
.go (.bin .eql 3 (.tmp (pth 5)) (.con (.int .i64 (.ofNat 0)))) (pth 6)::
[])) (.cond (.tmp (pth 6)) (.seq (.run (.go (.move (.con (.int .i64 (.ofNat 0)))) (pth 2)::
[])) .ret) .skip)) (.seq (.run (.go (.fieldAddr 0 (.tmp (pth 1))) (pth 7)::
.go (.load1 (.tmp (pth 7))) (pth 8)::
.go (.indexAddr none 1 (.tmp (pth 8)) (.con (.int .i64 (.ofNat 0)))) (pth 9)::
.go (.load1 (.tmp (pth 9))) (pth 10)::
.go (.len 0 (.tmp (pth 10))) (pth 11)::
.go (.move (.tmp (pth 11))) (pth 2)::
[])) .ret)))
theorem de34 : @compF Try.prog (Gl.none Try.prog) Try.f34 1 = .mk d34 (mkTT 12) [(pth 0)] [.tmp (pth 2)] := by kernel_rfl
theorem dg34 : Try.prog.funcs[34]? = some Try.f34 := Try.func34
theorem do34 : okF Try.prog Try.f34 = true := by kernel_rfl
noncomputable def d101 : FCode := (.seq (.run (.go (.box 38 (.tmp (pth 0))) (pth 1)::
.go (.move (.con (.int .i64 (.ofNat 0)))) (pth 2)::
[])) (.seq (.seq (.run (.go (.fieldAddr 0 (.tmp (pth 1))) (pth 3)::
.go (.load1 (.tmp (pth 3))) (pth 4)::
.go (.len 0 (.tmp (pth 4))) (pth 5)::
.go (.bin .eql 3 (.tmp (pth 5)) (.con (.int .i64 (.ofNat 0)))) (pth 6)::
[])) (.cond (.tmp (pth 6)) (.seq (.run (.go (.move (.con (.int .i64 (.ofNat 0)))) (pth 2)::
[])) .ret) .skip)) (.seq (.run (.go (.fieldAddr 0 (.tmp (pth 1))) (pth 7)::
.go (.load1 (.tmp (pth 7))) (pth 8)::
.go (.indexAddr none 1 (.tmp (pth 8)) (.con (.int .i64 (.ofNat 0)))) (pth 9)::
.go (.load1 (.tmp (pth 9))) (pth 10)::
.go (.len 0 (.tmp (pth 10))) (pth 11)::
.go (.move (.tmp (pth 11))) (pth 2)::
[])) .ret)))
theorem de101 : @compF Try.prog (Gl.none Try.prog) Try.f101 1 = .mk d101 (mkTT 12) [(pth 0)] [.tmp (pth 2)] := by kernel_rfl
theorem dg101 : Try.prog.funcs[101]? = some Try.f101 := Try.func101
theorem do101 : okF Try.prog Try.f101 = true := by kernel_rfl
noncomputable def d39 : FCode := (.seq (.run (.go (.box 62 (.tmp (pth 0))) (pth 1)::
.go (.alloc 69 [(.int .i64 (.ofNat 0)),(.int .i64 (.ofNat 0))]) (pth 2)::
[])) (.seq (.run (.go (.fieldAddr 0 (.tmp (pth 1))) (pth 3)::
.go (.load1 (.tmp (pth 3))) (pth 4)::
.go (.fieldAddr 1 (.tmp (pth 1))) (pth 5)::
.go (.load1 (.tmp (pth 5))) (pth 6)::
.go (.build [(.int .i64 (.ofNat 0)),(.int .i64 (.ofNat 0))] [(0,1,(.tmp (pth 4))),(1,1,(.tmp (pth 6)))]) (pth 7)::
.un (.store 2 (.tmp (pth 2)) (.tmp (pth 7)))::
[])) .ret))
theorem de39 : @compF Try.prog (Gl.none Try.prog) Try.f39 1 = .mk d39 (mkTT 8) [(pth 0)] [.many (pth 2) 2] := by kernel_rfl
theorem dg39 : Try.prog.funcs[39]? = some Try.f39 := Try.func39
theorem do39 : okF Try.prog Try.f39 = true := by kernel_rfl
noncomputable def d64 : FCode := (.seq (.run (.go (.move (.con (.slice none 0 0))) (pth 2)::
[])) (.seq (.run (.go (.move (.con (.slice none 0 0))) (pth 3)::
[])) (.seq (.seq (.run (.go (.move (.con (.int .i64 (.ofNat 0)))) (pth 4)::
[])) (.block 0 (.loop (.seq (.seq (.run (.go (.move (.tmp (pth 4))) (pth 5)::
.go (.move (.tmp (pth 0))) (pth 6)::
.go (.len 0 (.tmp (pth 6))) (pth 7)::
.go (.bin .lss 3 (.tmp (pth 5)) (.tmp (pth 7))) (pth 8)::
[])) (.cond (.tmp (pth 8)) .skip (.exit 0))) (.seq (.block 1 (.run (.go (.move (.tmp (pth 3))) (pth 11)::
.go (.move (.tmp (pth 0))) (pth 12)::
.go (.move (.tmp (pth 4))) (pth 13)::
.go (.indexAddr none 2 (.tmp (pth 12)) (.tmp (pth 13))) (pth 14)::
.go (.loadN 2 (.tmp (pth 14))) (pth 15)::
.go (.call (.con (.func (.func 39) ⟨[]⟩ ⟨[]⟩)) [(.tmp (pth 15))]) (pth 16)::
.go (.buildSlice 69 1 [(.int .i64 (.ofNat 0)),(.int .i64 (.ofNat 0))] [(0,2,(.tmp (pth 16)))]) (pth 17)::
.go (.append 69 2 16 (.tmp (pth 11)) (.tmp (pth 17))) (pth 18)::
.go (.move (.tmp (pth 18))) (pth 3)::
[]))) (.run (.go (.move (.tmp (pth 4))) (pth 9)::
.go (.bin .add 3 (.tmp (pth 9)) (.con (.int .i64 (.ofNat 1)))) (pth 10)::
.go (.move (.tmp (pth 10))) (pth 4)::
[]))))))) (.seq (.run (.go (.move (.tmp (pth 3))) (pth 19)::
.go (.move (.tmp (pth 19))) (pth 2)::
[])) .ret))))
theorem de64 : @compF Try.prog (Gl.none Try.prog) Try.f64 1 = .mk d64 (mkTT 20) [(pth 0)] [.tmp (pth 2)] := by kernel_rfl
theorem dg64 : Try.prog.funcs[64]? = some Try.f64 := Try.func64
theorem do64 : okF Try.prog Try.f64 = true := by kernel_rfl
noncomputable def d22 : FCode := (.seq (.run (.go (.box 25 (.tmp (pth 0))) (pth 1)::
.go (.alloc 38 [(.slice none 0 0),(.slice none 0 0),(.slice none 0 0),(.slice none 0 0)]) (pth 2)::
[])) (.seq (.draw 12 (.go (.fieldAddr 1 (.tmp (pth 1))) (pth 5)::
.go (.load1 (.tmp (pth 5))) (pth 6)::
.go (.call (.con (.func (.func 64) ⟨[]⟩ ⟨[]⟩)) [(.tmp (pth 6))]) (pth 7)::
.go (.fieldAddr 2 (.tmp (pth 1))) (pth 8)::
.go (.load1 (.tmp (pth 8))) (pth 9)::
.go (.call (.con (.func (.func 64) ⟨[]⟩ ⟨[]⟩)) [(.tmp (pth 9))]) (pth 10)::
.go (.fieldAddr 3 (.tmp (pth 1))) (pth 11)::
.go (.load1 (.tmp (pth 11))) (pth 12)::
.go (.call (.con (.func (.func 64) ⟨[]⟩ ⟨[]⟩)) [(.tmp (pth 12))]) (pth 13)::
.go (.build [(.slice none 0 0),(.slice none 0 0),(.slice none 0 0),(.slice none 0 0)] [(1,1,(.tmp (pth 7))),(2,1,(.tmp (pth 10))),(3,1,(.tmp (pth 13)))]) (pth 14)::
.go (.alloc 38 [(.slice none 0 0),(.slice none 0 0),(.slice none 0 0),(.slice none 0 0)]) (pth 3)::
.un (.store 4 (.tmp (pth 3)) (.tmp (pth 14)))::
[]) [.ok,.ok,.ok,.ok,.rd none (.load1 (.tmp (pth 8))) (some (pth 9)) [0],.ok,.ok,.rd none (.load1 (.tmp (pth 11))) (some (pth 12)) [0,3],.ok,.ok,.nw none (some (pth 3)) 10 true,.ok]) (.seq (.seq (.run (.go (.move (.con (.int .i64 (.ofNat 0)))) (pth 4)::
[])) (.block 0 (.loop (.seq (.seq (.run (.go (.move (.tmp (pth 4))) (pth 15)::
.go (.fieldAddr 0 (.tmp (pth 1))) (pth 16)::
.go (.load1 (.tmp (pth 16))) (pth 17)::
.go (.len 0 (.tmp (pth 17))) (pth 18)::
.go (.bin .lss 3 (.tmp (pth 15)) (.tmp (pth 18))) (pth 19)::
[])) (.cond (.tmp (pth 19)) .skip (.exit 0))) (.seq (.block 1 (.draw 12 (.go (.fieldAddr 0 (.tmp (pth 3))) (pth 22)::
.go (.load1 (.tmp (pth 22))) (pth 23)::
.go (.fieldAddr 0 (.tmp (pth 1))) (pth 24)::
.go (.load1 (.tmp (pth 24))) (pth 25)::
.go (.move (.tmp (pth 4))) (pth 26)::
.go (.indexAddr none 1 (.tmp (pth 25)) (.tmp (pth 26))) (pth 27)::
.go (.load1 (.tmp (pth 27))) (pth 28)::
.go (.call (.con (.func (.func 64) ⟨[]⟩ ⟨[]⟩)) [(.tmp (pth 28))]) (pth 29)::
.go (.buildSlice 36 1 [(.slice none 0 0)] [(0,1,(.tmp (pth 29)))]) (pth 30)::
.go (.append 36 1 24 (.tmp (pth 23)) (.tmp (pth 30))) (pth 31)::
.go (.fieldAddr 0 (.tmp (pth 3))) (pth 32)::
.un (.store 1 (.tmp (pth 32)) (.tmp (pth 31)))::
[]) [.ok,.rd none (.load1 (.tmp (pth 22))) (some (pth 23)) [8,9],.ok,.ok,.ok,.ok,.ok,.ok,.ok,.ok,.ok,.ok])) (.run (.go (.move (.tmp (pth 4))) (pth 20)::
.go (.bin .add 3 (.tmp (pth 20)) (.con (.int .i64 (.ofNat 1)))) (pth 21)::
.go (.move (.tmp (pth 21))) (pth 4)::
[]))))))) (.seq (.run (.go (.loadN 4 (.tmp (pth 3))) (pth 33)::
.un (.store 4 (.tmp (pth 2)) (.tmp (pth 33)))::
[])) .ret))))
theorem de22 : @compF Try.prog (Gl.none Try.prog) Try.f22 1 = .mk d22 (mkTT 34) [(pth 0)] [.many (pth 2) 4] := by kernel_rfl
theorem dg22 : Try.prog.funcs[22]? = some Try.f22 := Try.func22
theorem do22 : okF Try.prog Try.f22 = true := by kernel_rfl
@[reducible] instance gl : Gl Try.prog := Gl.none Try.prog
@[reducible] instance orc : Orc Try.prog := TFO.orc
abbrev I (n : Int) : Value := .int .i64 n
abbrev U : Value := undef
abbrev A2 (a b : Int) : List Value := [I a, I b]
abbrev r2 (r : R2) : List Value := A2 r.1 r.2
theorem f20_ok (H : Heap) : Gives Try.prog 20 [] H (.bool true) := .orc rfl
def RS (H : Heap) (x : Value) (l : List R2) : Prop := Sw 2 H x (l.map r2)
theorem rp : RP RS := RP.ofSw 2 _
theorem RS.len {H : Heap} {x : Value} {l : List R2} (h : RS H x l) (X : Heap) : ylen 0 X x = some (I l.length) := by
  have := Sw.len h
  rw [List.length_map] at this
  obtain ⟨p, n, c, rfl⟩ := rp.sl h
  exact this
theorem RS.at {H : Heap} {x : Value} {l : List R2} (h : RS H x l) {k : Nat} (hk : k < l.length) :
    ∃ i o, yindexAddr none 2 x (I k) = some (.pointer (some ⟨i, o, none⟩)) ∧ ∀ H', Grow H H' → yloadN 2 H' (.pointer (some ⟨i, o, none⟩)) = some (.agg ⟨A2 l[k].1 l[k].2⟩) ∧ yload1 H' (.pointer (some ⟨i, o, none⟩)) = some (I l[k].1) ∧ yload1 H' (.pointer (some ⟨i, o + 1, none⟩)) = some (I l[k].2) := by
  obtain ⟨i, o, h1, h2⟩ := Sw.at2 h (by decide) (k := k) (x := r2 l[k]) (by simp [hk])
  refine ⟨i, o, h1 _, fun H' g => ⟨(h2 H' g).1, ?_, ?_⟩⟩
  · have := (h2 H' g).2 0 (I l[k].1) rfl
    rwa [Nat.add_zero] at this
  · exact (h2 H' g).2 1 (I l[k].2) rfl
theorem sl1 {x : Value} (h : ∃ p n c, x = .slice p n c) : ok1 x = true ∧ (∀ off c f, yfillV x off 1 c f = if off < c.length then f (c.set off x) else none) ∧ vEq 3 x x = true ∧ (∀ (H : Heap) i o c el, ystC 1 H i o x (⟨c⟩, el, true) = if o < c.length then some (H.set i (.cells ⟨c.set o x⟩ el true)) else none) := by
  obtain ⟨p, n, c, rfl⟩ := h
  refine ⟨ok1_slice, fun off c f => yfV_slice, ?_, fun H i o c el => ystC_slice⟩
  simp [vEq, vEq0]
structure Tb where
  C : List (List R2)
  B : List R2
  Rt : List R2
  N : List R2
structure TV (H : Heap) (c b r n : Value) (T : Tb) : Prop where
  c : Nest RS H c T.C
  b : RS H b T.B
  r : RS H r T.Rt
  n : RS H n T.N
theorem TV.grow {A B : Heap} (g : Grow A B) {c b r n : Value} {T : Tb} (h : TV A c b r n T) : TV B c b r n T := ⟨h.c.grow rp g, rp.grow g h.b, rp.grow g h.r, rp.grow g h.n⟩
def grp (T : Tb) : Nat := (T.C.headD []).length
theorem grp_0 {T : Tb} (hk : 0 < T.C.length) : (T.C[0]'hk).length = grp T := by
  have : T.C.headD [] = T.C[0] := by rw [List.headD_eq_head?_getD, List.head?_eq_getElem?]; simp [hk]
  rw [grp, this]
def wi (a b : Int) (r : R2) : Prop := a ≤ r.1 ∧ r.1 ≤ r.2 ∧ r.2 ≤ b
instance (a b : Int) (r : R2) : Decidable (wi a b r) := by unfold wi; infer_instance
theorem f41_ok (n a b : Int) (H : Heap) : Gives Try.prog 41 [I n, I a, I b] H (.bool (decide (a ≤ n ∧ n ≤ b))) := by
  refine F.entryL rfl dg41 do41 de41 rfl (by kernel_rfl) ?_
  simp only [sets]
  refine V.re [(0, I n), (1, I a), (2, I b)] (N := 15) (by intro i; simp only [full_st, Full.mk]) (by simp only [Kn, gt_st, full_st, Full.mk, ↓reduceIte, qD, qE, decide_true, and_self]) ?_
  intro t hF hA
  simp only [Kn, and_true] at hA
  (repeat first|apply V.seq|apply V.block|apply V.scope|apply V.skip|apply V.close)
  refine V.line' (by simp +contextual (disch := first|omega|simp only [nx];omega) only [D4,qF,qG,qA,qB,qC,D5,hF,hA,↓reduceIte,qD,qE]; with_reducible rfl) ?_
  (repeat first|apply V.seq|apply V.block|apply V.scope|apply V.skip|apply V.close)
  refine V.line' (by simp +contextual (disch := first|omega|simp only [nx];omega) only [D4,qF,qG,qA,qB,qC,D5,hF,hA,↓reduceIte,qD,qE]; with_reducible rfl) ?_
  (repeat first|apply V.seq|apply V.block|apply V.scope|apply V.skip|apply V.close)
  refine V.ret (V.rets rfl (Lv.retG (by simp +contextual (disch := first|omega|simp only [nx];omega) only [D1, cells_alloc_at, cells_alloc_ne, cells_set_at, cells_set_ne, yres, yres1, yresL, qA, qB, qC, D5,hF,hA,↓reduceIte,qD,qE]; rfl) ?_ ?_))
  · (repeat first | assumption | exact Grow.refl _ | refine Grow.alloc ?_ _ | refine Grow.set ?_ (by first|omega|simp only [nx];omega) _)
  · rfl
theorem f45_ok (r : R2) (a b : Int) (H : Heap) : Gives Try.prog 45 [.agg ⟨r2 r⟩, I a, I b] H (.bool (decide (wi a b r))) := by
  obtain ⟨x, y⟩ := r
  refine F.entryL rfl dg45 do45 de45 rfl (by kernel_rfl) ?_
  simp only [sets]
  refine V.re [(0, .agg ⟨A2 x y⟩), (1, I a), (2, I b)] (N := 19) (by intro i; simp only [full_st, Full.mk]) (by simp only [Kn, gt_st, full_st, Full.mk, ↓reduceIte, qD, qE, decide_true, and_self]) ?_
  intro t hF hA
  simp only [Kn, and_true] at hA
  (repeat first|apply V.seq|apply V.block|apply V.scope|apply V.skip|apply V.close)
  refine V.line' (by simp +contextual (disch := first|omega|simp only [nx];omega) only [D4,qF,qG,qA,qB,qC,D5,hF,hA,↓reduceIte,qD,qE]; with_reducible rfl) ?_
  refine V.heap (fun X => Grow H X ∧ Bx X H.next (A2 x y) 62) ⟨?_, ?_⟩ ?_
  · (repeat first | assumption | exact Grow.refl _ | refine Grow.alloc ?_ _ | refine Grow.set ?_ (by first|omega|simp only [nx];omega) _)
  · (repeat first | assumption | exact Bx.new _ _ _ | exact Bx.newAt (by first|omega|simp only [nx];omega) | refine Bx.put (by first|omega|simp only [nx];omega) _ _ | refine Bx.alloc ?_ _ | refine Bx.set ?_ (by first|omega|simp only [nx];omega) _)
  rintro H1 ⟨g1, b1⟩
  (repeat first|apply V.seq|apply V.block|apply V.scope|apply V.skip|apply V.close)
  refine V.run ?_
  refine VI.steps' 5 (by simp +contextual (disch := first|omega|simp only [nx];omega) only [D4,qF,qG,qA,qB,qC,D5,hF,hA,↓reduceIte,qD,qE, b1.2]; with_reducible rfl) ?_
  simp only [ds]
  refine VI.callA rfl (f41_ok x a y _) (by simp only [D6,D5,hF,hA,↓reduceIte,qD,qE]; try rfl) (fun H2 g2 => ?_)
  have b2 := b1.grow g2
  refine VI.line' (by simp +contextual (disch := first|omega|simp only [nx];omega) only [D4,qF,qG,qA,qB,qC,D5,hF,hA,↓reduceIte,qD,qE, b2.2]; with_reducible rfl) ?_
  (repeat first|apply V.seq|apply V.block|apply V.scope|apply V.skip|apply V.close)
  refine V.ret (V.rets rfl (Lv.retG (by simp +contextual (disch := first|omega|simp only [nx];omega) only [D1, cells_alloc_at, cells_alloc_ne, cells_set_at, cells_set_ne, yres, yres1, yresL, qA, qB, qC, D5,hF,hA,↓reduceIte,qD,qE]; rfl) ?_ ?_))
  · exact g1.trans g2
  · simp only [wi, and_assoc]
theorem f34_ok {H : Heap} {c b r n : Value} {T : Tb} (h : TV H c b r n T) : Gives Try.prog 34 [.agg ⟨[c, b, r, n]⟩] H (I (grp T)) := by
  have hl : ∀ X, ylen 0 X c = some (I T.C.length) := h.c.len
  refine F.entryL rfl dg34 do34 de34 rfl (by kernel_rfl) ?_
  simp only [sets]
  refine V.re [(0, .agg ⟨[c, b, r, n]⟩)] (N := 12) (by intro i; simp only [full_st, Full.mk]) (by simp only [Kn, gt_st, full_st, Full.mk, ↓reduceIte, qD, qE, decide_true, and_self]) ?_
  intro t hF hA
  simp only [Kn, and_true] at hA
  (repeat first|apply V.seq|apply V.block|apply V.scope|apply V.skip|apply V.close)
  refine V.line' (by simp +contextual (disch := first|omega|simp only [nx];omega) only [D4,qF,qG,qA,qB,qC,D5,hF,hA,↓reduceIte,qD,qE]; with_reducible rfl) ?_
  refine V.heap (fun X => Grow H X ∧ Bx X H.next [c, b, r, n] 25) ⟨?_, ?_⟩ ?_
  · (repeat first | assumption | exact Grow.refl _ | refine Grow.alloc ?_ _ | refine Grow.set ?_ (by first|omega|simp only [nx];omega) _)
  · (repeat first | assumption | exact Bx.new _ _ _ | exact Bx.newAt (by first|omega|simp only [nx];omega) | refine Bx.put (by first|omega|simp only [nx];omega) _ _ | refine Bx.alloc ?_ _ | refine Bx.set ?_ (by first|omega|simp only [nx];omega) _)
  rintro H1 ⟨g1, b1⟩
  (repeat first|apply V.seq|apply V.block|apply V.scope|apply V.skip|apply V.close)
  refine V.line' (by simp +contextual (disch := first|omega|simp only [nx];omega) only [D4,qF,qG,qA,qB,qC,D5,hF,hA,↓reduceIte,qD,qE, b1.2, hl]; with_reducible rfl) ?_
  (repeat first|apply V.seq|apply V.block|apply V.scope|apply V.skip|apply V.close)
  refine V.condP (by simp only [D6,D5,hF,hA,↓reduceIte,qD,qE]; rfl) (fun h1 => ?_) (fun h1 => ?_)
  · (repeat first|apply V.seq|apply V.block|apply V.scope|apply V.skip|apply V.close)
    refine V.line' (by simp +contextual (disch := first|omega|simp only [nx];omega) only [D4,qF,qG,qA,qB,qC,D5,hF,hA,↓reduceIte,qD,qE]; with_reducible rfl) ?_
    (repeat first|apply V.seq|apply V.block|apply V.scope|apply V.skip|apply V.close)
    refine V.ret (V.rets rfl (Lv.retG (by simp +contextual (disch := first|omega|simp only [nx];omega) only [D1, cells_alloc_at, cells_alloc_ne, cells_set_at, cells_set_ne, yres, yres1, yresL, qA, qB, qC, D5,hF,hA,↓reduceIte,qD,qE]; rfl) ?_ ?_))
    · exact g1
    · have : T.C = [] := List.length_eq_zero_iff.1 (by omega)
      simp [grp, this]
  · have hk : 0 < T.C.length := by omega
    obtain ⟨p, x, hp, hx⟩ := h.c.at rp hk
    obtain ⟨hx1, hx2⟩ := hx _ g1
    have hp0 : yindexAddr none 1 c (I 0) = some p := hp .i64
    have hxl := hx2.len
    (repeat first|apply V.seq|apply V.block|apply V.scope|apply V.skip|apply V.close)
    refine V.line' (by simp +contextual (disch := first|omega|simp only [nx];omega) only [D4,qF,qG,qA,qB,qC,D5,hF,hA,↓reduceIte,qD,qE, b1.2, hp0, hx1, hxl]; with_reducible rfl) ?_
    (repeat first|apply V.seq|apply V.block|apply V.scope|apply V.skip|apply V.close)
    refine V.ret (V.rets rfl (Lv.retG (by simp +contextual (disch := first|omega|simp only [nx];omega) only [D1, cells_alloc_at, cells_alloc_ne, cells_set_at, cells_set_ne, yres, yres1, yresL, qA, qB, qC, D5,hF,hA,↓reduceIte,qD,qE]; rfl) ?_ ?_))
    · exact g1
    · rw [grp_0 hk]
theorem f101_ok {H : Heap} {c b r n : Value} {T : Tb} (h : TV H c b r n T) : Gives Try.prog 101 [.agg ⟨[c, b, r, n]⟩] H (I (grp T)) := by
  have hl : ∀ X, ylen 0 X c = some (I T.C.length) := h.c.len
  refine F.entryL rfl dg101 do101 de101 rfl (by kernel_rfl) ?_
  simp only [sets]
  refine V.re [(0, .agg ⟨[c, b, r, n]⟩)] (N := 12) (by intro i; simp only [full_st, Full.mk]) (by simp only [Kn, gt_st, full_st, Full.mk, ↓reduceIte, qD, qE, decide_true, and_self]) ?_
  intro t hF hA
  simp only [Kn, and_true] at hA
  (repeat first|apply V.seq|apply V.block|apply V.scope|apply V.skip|apply V.close)
  refine V.line' (by simp +contextual (disch := first|omega|simp only [nx];omega) only [D4,qF,qG,qA,qB,qC,D5,hF,hA,↓reduceIte,qD,qE]; with_reducible rfl) ?_
  refine V.heap (fun X => Grow H X ∧ Bx X H.next [c, b, r, n] 38) ⟨?_, ?_⟩ ?_
  · (repeat first | assumption | exact Grow.refl _ | refine Grow.alloc ?_ _ | refine Grow.set ?_ (by first|omega|simp only [nx];omega) _)
  · (repeat first | assumption | exact Bx.new _ _ _ | exact Bx.newAt (by first|omega|simp only [nx];omega) | refine Bx.put (by first|omega|simp only [nx];omega) _ _ | refine Bx.alloc ?_ _ | refine Bx.set ?_ (by first|omega|simp only [nx];omega) _)
  rintro H1 ⟨g1, b1⟩
  (repeat first|apply V.seq|apply V.block|apply V.scope|apply V.skip|apply V.close)
  refine V.line' (by simp +contextual (disch := first|omega|simp only [nx];omega) only [D4,qF,qG,qA,qB,qC,D5,hF,hA,↓reduceIte,qD,qE, b1.2, hl]; with_reducible rfl) ?_
  (repeat first|apply V.seq|apply V.block|apply V.scope|apply V.skip|apply V.close)
  refine V.condP (by simp only [D6,D5,hF,hA,↓reduceIte,qD,qE]; rfl) (fun h1 => ?_) (fun h1 => ?_)
  · (repeat first|apply V.seq|apply V.block|apply V.scope|apply V.skip|apply V.close)
    refine V.line' (by simp +contextual (disch := first|omega|simp only [nx];omega) only [D4,qF,qG,qA,qB,qC,D5,hF,hA,↓reduceIte,qD,qE]; with_reducible rfl) ?_
    (repeat first|apply V.seq|apply V.block|apply V.scope|apply V.skip|apply V.close)
    refine V.ret (V.rets rfl (Lv.retG (by simp +contextual (disch := first|omega|simp only [nx];omega) only [D1, cells_alloc_at, cells_alloc_ne, cells_set_at, cells_set_ne, yres, yres1, yresL, qA, qB, qC, D5,hF,hA,↓reduceIte,qD,qE]; rfl) ?_ ?_))
    · exact g1
    · have : T.C = [] := List.length_eq_zero_iff.1 (by omega)
      simp [grp, this]
  · have hk : 0 < T.C.length := by omega
    obtain ⟨p, x, hp, hx⟩ := h.c.at rp hk
    obtain ⟨hx1, hx2⟩ := hx _ g1
    have hp0 : yindexAddr none 1 c (I 0) = some p := hp .i64
    have hxl := hx2.len
    (repeat first|apply V.seq|apply V.block|apply V.scope|apply V.skip|apply V.close)
    refine V.line' (by simp +contextual (disch := first|omega|simp only [nx];omega) only [D4,qF,qG,qA,qB,qC,D5,hF,hA,↓reduceIte,qD,qE, b1.2, hp0, hx1, hxl]; with_reducible rfl) ?_
    (repeat first|apply V.seq|apply V.block|apply V.scope|apply V.skip|apply V.close)
    refine V.ret (V.rets rfl (Lv.retG (by simp +contextual (disch := first|omega|simp only [nx];omega) only [D1, cells_alloc_at, cells_alloc_ne, cells_set_at, cells_set_ne, yres, yres1, yresL, qA, qB, qC, D5,hF,hA,↓reduceIte,qD,qE]; rfl) ?_ ?_))
    · exact g1
    · rw [grp_0 hk]
theorem f39_ok (r : R2) (H : Heap) : Gives Try.prog 39 [.agg ⟨r2 r⟩] H (.agg ⟨r2 r⟩) := by
  obtain ⟨x, y⟩ := r
  refine F.entryL rfl dg39 do39 de39 rfl (by kernel_rfl) ?_
  simp only [sets]
  refine V.re [(0, .agg ⟨A2 x y⟩)] (N := 8) (by intro i; simp only [full_st, Full.mk]) (by simp only [Kn, gt_st, full_st, Full.mk, ↓reduceIte, qD, qE, decide_true, and_self]) ?_
  intro t hF hA
  simp only [Kn, and_true] at hA
  (repeat first|apply V.seq|apply V.block|apply V.scope|apply V.skip|apply V.close)
  refine V.line' (by simp +contextual (disch := first|omega|simp only [nx];omega) only [D4,qF,qG,qA,qB,qC,D5,hF,hA,↓reduceIte,qD,qE]; with_reducible rfl) ?_
  (repeat first|apply V.seq|apply V.block|apply V.scope|apply V.skip|apply V.close)
  refine V.line' (by simp +contextual (disch := first|omega|simp only [nx];omega) only [D4,qF,qG,qA,qB,qC,D5,hF,hA,↓reduceIte,qD,qE]; with_reducible rfl) ?_
  (repeat first|apply V.seq|apply V.block|apply V.scope|apply V.skip|apply V.close)
  refine V.ret (V.rets rfl (Lv.retG (by simp +contextual (disch := first|omega|simp only [nx];omega) only [D1, cells_alloc_at, cells_alloc_ne, cells_set_at, cells_set_ne, yres, yres1, yresL, qA, qB, qC, D5,hF,hA,↓reduceIte,qD,qE]; rfl) ?_ ?_))
  · (repeat first | assumption | exact Grow.refl _ | refine Grow.alloc ?_ _ | refine Grow.set ?_ (by first|omega|simp only [nx];omega) _)
  · rfl
theorem RS_len (l : List R2) : ∀ x ∈ l.map r2, x.length = 2 := by
  intro x hx
  obtain ⟨r, _, rfl⟩ := List.mem_map.1 hx
  rfl
theorem f64_ok {H : Heap} {v : Value} {L : List R2} (h : RS H v L) (hn : L.length ≤ 1048576) : F Try.prog 64 ⟨[v]⟩ H (fun w X => Grow H X ∧ OwW 2 H X 69 w (L.map r2)) := by
  have hl := h.len
  refine F.entryL rfl dg64 do64 de64 rfl (by kernel_rfl) ?_
  simp only [sets]
  refine V.re [(0, v)] (N := 20) (by intro i; simp only [full_st, Full.mk]) (by simp only [Kn, gt_st, full_st, Full.mk, ↓reduceIte, qD, qE, decide_true, and_self]) ?_
  intro t hF hA
  simp only [Kn, and_true] at hA
  (repeat first|apply V.seq|apply V.block|apply V.scope|apply V.skip|apply V.close)
  refine V.line' (by simp +contextual (disch := first|omega|simp only [nx];omega) only [D4,qF,qG,qA,qB,qC,D5,hF,hA,↓reduceIte,qD,qE]; with_reducible rfl) ?_
  (repeat first|apply V.seq|apply V.block|apply V.scope|apply V.skip|apply V.close)
  refine V.line' (by simp +contextual (disch := first|omega|simp only [nx];omega) only [D4,qF,qG,qA,qB,qC,D5,hF,hA,↓reduceIte,qD,qE]; with_reducible rfl) ?_
  (repeat first|apply V.seq|apply V.block|apply V.scope|apply V.skip|apply V.close)
  refine V.line' (by simp +contextual (disch := first|omega|simp only [nx];omega) only [D4,qF,qG,qA,qB,qC,D5,hF,hA,↓reduceIte,qD,qE]; with_reducible rfl) ?_
  (repeat first|apply V.seq|apply V.block|apply V.scope|apply V.skip|apply V.close)
  refine V.loop (fun z t m X => ∃ (k : Nat) (s : Value), k ≤ L.length ∧ z = L.length - k ∧ m = [] ∧ Grow H X ∧ OwW 2 H X 69 s ((L.take k).map r2) ∧ Full 20 t ∧ Kn [(0, v), (3, s), (4, I k)] t) L.length ?_ ?_
  · exact ⟨0, _, by omega, by omega, rfl, .refl _, by rw [List.take_zero]; exact .nil, (by intro i; simp only [full_st, hF]), (by simp only [Kn, D5,hF,hA,↓reduceIte,qD,qE, and_self, and_true, true_and]; try (repeat' constructor))⟩
  clear hF hA
  rintro z t m X ⟨k, s, hk, rfl, rfl, hg, os, hF, hA⟩
  simp only [Kn, and_true] at hA
  (repeat first|apply V.seq|apply V.block|apply V.scope|apply V.skip|apply V.close)
  refine V.line' (by simp +contextual (disch := first|omega|simp only [nx];omega) only [D4,qF,qG,qA,qB,qC,D5,hF,hA,↓reduceIte,qD,qE, hl]; with_reducible rfl) ?_
  (repeat first|apply V.seq|apply V.block|apply V.scope|apply V.skip|apply V.close)
  refine V.condP (by simp only [D6,D5,hF,hA,↓reduceIte,qD,qE]; rfl) (fun hlt => ?_) (fun hlt => ?_)
  · have hlt' : k < L.length := by omega
    obtain ⟨i, o, hp, hx⟩ := h.at hlt'
    obtain ⟨hx1, _, _⟩ := hx _ hg
    (repeat first|apply V.seq|apply V.block|apply V.scope|apply V.skip|apply V.close)
    refine V.run ?_
    refine VI.steps' 5 (by simp +contextual (disch := first|omega|simp only [nx];omega) only [D4,qF,qG,qA,qB,qC,D5,hF,hA,↓reduceIte,qD,qE, hp, hx1]; with_reducible rfl) ?_
    simp only [ds]
    refine VI.callA rfl (f39_ok L[k] X) (by simp only [D6,D5,hF,hA,↓reduceIte,qD,qE]; try rfl) (fun X1 g1 => ?_)
    have os1 := os.keep g1
    obtain ⟨w, X2, k1, k2, k3, k4, k5, k6⟩ := OwW.push (x := r2 L[k]) (bytes := 16) (by decide) (hg.trans g1) os1 (RS_len _) rfl rfl (by rw [List.length_map, List.length_take]; omega) (by rw [List.length_map, List.length_take]; omega)
    refine VI.line' (by simp +contextual (disch := first|omega|simp only [nx];omega) only [D4,qF,qG,qA,qB,qC,D5,hF,hA,↓reduceIte,qD,qE, k1]; with_reducible rfl) ?_
    (repeat first|apply V.seq|apply V.block|apply V.scope|apply V.skip|apply V.close)
    refine V.line' (by simp +contextual (disch := first|omega|simp only [nx];omega) only [D4,qF,qG,qA,qB,qC,D5,hF,hA,↓reduceIte,qD,qE]; with_reducible rfl) ?_
    refine V.nil (Or.inl ⟨rfl, L.length - (k + 1), by omega, ?_⟩)
    refine ⟨k + 1, w, by omega, rfl, rfl, k3, ?_, (by intro i; simp only [full_st, hF]), (by simp only [Kn, D5,hF,hA,↓reduceIte,qD,qE, and_self, and_true, true_and]; try (repeat' constructor))⟩
    rw [List.take_succ_eq_append_getElem hlt', List.map_append]
    exact k2
  · refine V.exit ?_
    (repeat first | refine V.pass ?_ | refine V.here ?_ | refine V.out (by decide) ?_)
    refine V.nil (Or.inr ⟨by simp, ?_⟩)
    (repeat first | refine V.pass ?_ | refine V.here ?_ | refine V.out (by decide) ?_)
    (repeat first|apply V.seq|apply V.block|apply V.scope|apply V.skip|apply V.close)
    refine V.line' (by simp +contextual (disch := first|omega|simp only [nx];omega) only [D4,qF,qG,qA,qB,qC,D5,hF,hA,↓reduceIte,qD,qE]; with_reducible rfl) ?_
    (repeat first|apply V.seq|apply V.block|apply V.scope|apply V.skip|apply V.close)
    refine V.ret (V.rets rfl (Lv.retF (by simp +contextual (disch := first|omega|simp only [nx];omega) only [D1, cells_alloc_at, cells_alloc_ne, cells_set_at, cells_set_ne, yres, yres1, yresL, qA, qB, qC, D5,hF,hA,↓reduceIte,qD,qE]; rfl) ?_))
    have e : L.take k = L := List.take_of_length_le (by omega)
    rw [e] at os
    exact ⟨hg, os⟩
def sh (T : Tb) : Prop := T.C.length ≤ 1048576 ∧ (∀ row ∈ T.C, row.length ≤ 1048576) ∧ T.B.length ≤ 1048576 ∧ T.Rt.length ≤ 1048576 ∧ T.N.length ≤ 1048576
theorem f22_ok {H : Heap} {c b r n : Value} {T : Tb} (h : TV H c b r n T) (hs : sh T) : F Try.prog 22 ⟨[.agg ⟨[c, b, r, n]⟩]⟩ H (fun w X => Grow H X ∧ ∃ c' b' r' n', w = .agg ⟨[c', b', r', n']⟩ ∧ TV X c' b' r' n' T) := by
  obtain ⟨s1, s2, s3, s4, s5⟩ := hs
  have hl : ∀ X, ylen 0 X c = some (I T.C.length) := h.c.len
  refine F.entryL rfl dg22 do22 de22 rfl (by kernel_rfl) ?_
  simp only [sets]
  refine V.re [(0, .agg ⟨[c, b, r, n]⟩)] (N := 34) (by intro i; simp only [full_st, Full.mk]) (by simp only [Kn, gt_st, full_st, Full.mk, ↓reduceIte, qD, qE, decide_true, and_self]) ?_
  intro t hF hA
  simp only [Kn, and_true] at hA
  (repeat first|apply V.seq|apply V.block|apply V.scope|apply V.skip|apply V.close)
  refine V.line' (by simp +contextual (disch := first|omega|simp only [nx];omega) only [D4,qF,qG,qA,qB,qC,D5,hF,hA,↓reduceIte,qD,qE]; with_reducible rfl) ?_
  refine V.heap (fun X => Grow H X ∧ Bx X H.next [c, b, r, n] 25 ∧ Bx X (H.next + 1) [.slice none 0 0, .slice none 0 0, .slice none 0 0, .slice none 0 0] 38 ∧ H.next + 2 ≤ X.next) ⟨?_, ?_, ?_, ?_⟩ ?_
  · (repeat first | assumption | exact Grow.refl _ | refine Grow.alloc ?_ _ | refine Grow.set ?_ (by first|omega|simp only [nx];omega) _)
  · (repeat first | assumption | exact Bx.new _ _ _ | exact Bx.newAt (by first|omega|simp only [nx];omega) | refine Bx.put (by first|omega|simp only [nx];omega) _ _ | refine Bx.alloc ?_ _ | refine Bx.set ?_ (by first|omega|simp only [nx];omega) _)
  · (repeat first | assumption | exact Bx.new _ _ _ | exact Bx.newAt (by first|omega|simp only [nx];omega) | refine Bx.put (by first|omega|simp only [nx];omega) _ _ | refine Bx.alloc ?_ _ | refine Bx.set ?_ (by first|omega|simp only [nx];omega) _)
  · simp only [nx]; omega
  rintro H1 ⟨g1, b1, c1, n1⟩
  have h1 := h.grow g1
  (repeat first|apply V.seq|apply V.block|apply V.scope|apply V.skip|apply V.close)
  refine V.draw ?_
  refine VD.dins 2 (by simp +contextual (disch := first|omega|simp only [nx];omega) only [D4,qF,qG,qA,qB,qC,D5,hF,hA,↓reduceIte,qD,qE, b1.2]; with_reducible rfl) ?_
  simp only [ds]
  refine VD.callR (by simp only [D6,D5,hF,hA,↓reduceIte,qD,qE]; try rfl) (f64_ok h1.b s3) (by simp only [D6,D5,hF,hA,↓reduceIte,qD,qE]; try rfl) (fun v2 H2 ⟨g2, o2⟩ => ?_)
  have b2 := b1.grow g2
  have c2 := c1.grow g2
  refine VD.dins 2 (by simp +contextual (disch := first|omega|simp only [nx];omega) only [D4,qF,qG,qA,qB,qC,D5,hF,hA,↓reduceIte,qD,qE, b2.2]; with_reducible rfl) ?_
  simp only [ds]
  refine VD.callR (by simp only [D6,D5,hF,hA,↓reduceIte,qD,qE]; try rfl) (f64_ok (h1.grow g2).r s4) (by simp only [D6,D5,hF,hA,↓reduceIte,qD,qE]; try rfl) (fun v3 H3 ⟨g3, o3⟩ => ?_)
  have b3 := b2.grow g3
  have c3 := c2.grow g3
  refine VD.dins 2 (by simp +contextual (disch := first|omega|simp only [nx];omega) only [D4,qF,qG,qA,qB,qC,D5,hF,hA,↓reduceIte,qD,qE, b3.2]; with_reducible rfl) ?_
  simp only [ds]
  refine VD.callR (by simp only [D6,D5,hF,hA,↓reduceIte,qD,qE]; try rfl) (f64_ok ((h1.grow g2).grow g3).n s5) (by simp only [D6,D5,hF,hA,↓reduceIte,qD,qE]; try rfl) (fun v4 H4 ⟨g4, o4⟩ => ?_)
  have b4 := b3.grow g4
  have c4 := c3.grow g4
  have k2 := o2.sw (RS_len _)
  have k3 := o3.sw (RS_len _)
  have k4 := o4.sw (RS_len _)
  obtain ⟨p2, q2, _, _⟩ := sl1 k2.isS
  obtain ⟨p3, q3, _, _⟩ := sl1 k3.isS
  obtain ⟨p4, q4, _, _⟩ := sl1 k4.isS
  refine VD.lineD' (by simp +contextual (disch := first|omega|simp only [nx];omega) only [D4,qF,qG,qA,qB,qC,D5,hF,hA,↓reduceIte,qD,qE, p2, p3, p4, q2, q3, q4]; with_reducible rfl) ?_ ?_ rfl ?_
  · have m2 := g2.1
    have m3 := g3.1
    have m4 := g4.1
    simp only [monoG, List.cons_append, List.nil_append, Heap.next_set, Heap.next_alloc, Nat.le_refl, true_and, and_true] <;> omega
  · simp only [dcAll, dcOk, wantD, List.cons_append, List.nil_append, true_and, and_true]
    have v1 := (sl1 h.r.isS).2.2.1
    have v2 := (sl1 h.n.isS).2.2.1
    exact ⟨fun _ q hq => by simp only [List.mem_cons, List.not_mem_nil, or_false] at hq; (repeat (rcases hq with rfl | hq; exact ⟨_, _, _, rfl, (by simp +contextual (disch := first|omega|simp only [nx];omega) only [D4,qF,qG,qA,qB,qC,D5,hF,hA,↓reduceIte,qD,qE, b1.2, b2.2, b3.2]; with_reducible rfl), fun p hp => by cases hp; simp only [D5,hF,hA,↓reduceIte,qD,qE]; first | exact vEq_An | (simp [vEq, vEq0, all2]; done) | assumption⟩)); (try (subst hq; exact ⟨_, _, _, rfl, (by simp +contextual (disch := first|omega|simp only [nx];omega) only [D4,qF,qG,qA,qB,qC,D5,hF,hA,↓reduceIte,qD,qE, b1.2, b2.2, b3.2]; with_reducible rfl), fun p hp => by cases hp; simp only [D5,hF,hA,↓reduceIte,qD,qE]; first | exact vEq_An | (simp [vEq, vEq0, all2]; done) | assumption⟩)), fun _ q hq => by simp only [List.mem_cons, List.not_mem_nil, or_false] at hq; (repeat (rcases hq with rfl | hq; exact ⟨_, _, _, rfl, (by simp +contextual (disch := first|omega|simp only [nx];omega) only [D4,qF,qG,qA,qB,qC,D5,hF,hA,↓reduceIte,qD,qE, b1.2, b2.2, b3.2]; with_reducible rfl), fun p hp => by cases hp; simp only [D5,hF,hA,↓reduceIte,qD,qE]; first | exact vEq_An | (simp [vEq, vEq0, all2]; done) | assumption⟩)); (try (subst hq; exact ⟨_, _, _, rfl, (by simp +contextual (disch := first|omega|simp only [nx];omega) only [D4,qF,qG,qA,qB,qC,D5,hF,hA,↓reduceIte,qD,qE, b1.2, b2.2, b3.2]; with_reducible rfl), fun p hp => by cases hp; simp only [D5,hF,hA,↓reduceIte,qD,qE]; first | exact vEq_An | (simp [vEq, vEq0, all2]; done) | assumption⟩)), fun _ => ⟨_, _, _, rfl, rfl, rfl, (by simp only [D5,hF,hA,↓reduceIte,qD,qE]; simp [inBound]), fun _ => ⟨_, _, _, cells_alloc _ _ _ _, (by first | exact An_inb | rfl)⟩⟩⟩
  have k2' : RS H4 v2 T.B := (k2.grow g3).grow g4
  have k3' : RS H4 v3 T.Rt := k3.grow g4
  have k4' : RS H4 v4 T.N := k4
  have h4 := (((h1.grow g2).grow g3).grow g4)
  have n4 := Nat.le_trans (Nat.le_trans (Nat.le_trans n1 g2.1) g3.1) g4.1
  have hg4 := (((g1.trans g2).trans g3).trans g4)
  have f2 : ∀ i, blkN v2 = some i → H.next + 2 ≤ i := fun i hi => Nat.le_trans n1 (o2.from i hi)
  have f3 : ∀ i, blkN v3 = some i → H.next + 2 ≤ i := fun i hi => Nat.le_trans n1 (Nat.le_trans g2.1 (o3.from i hi))
  have f4 : ∀ i, blkN v4 = some i → H.next + 2 ≤ i := fun i hi => Nat.le_trans n1 (Nat.le_trans g2.1 (Nat.le_trans g3.1 (o4.from i hi)))
  clear k2 k3 k4 o2 o3 o4 b1 b2 b3 c1 c2 c3 g1 g2 g3 g4 h1
  (repeat first|apply V.seq|apply V.block|apply V.scope|apply V.skip|apply V.close)
  refine V.line' (by simp +contextual (disch := first|omega|simp only [nx];omega) only [D4,qF,qG,qA,qB,qC,D5,hF,hA,↓reduceIte,qD,qE]; with_reducible rfl) ?_
  (repeat first|apply V.seq|apply V.block|apply V.scope|apply V.skip|apply V.close)
  refine V.heap (fun X => Grow H4 X ∧ Bx X H4.next [.slice none 0 0, v2, v3, v4] 38) ⟨?_, ?_⟩ ?_
  · (repeat first | assumption | exact Grow.refl _ | refine Grow.alloc ?_ _ | refine Grow.set ?_ (by first|omega|simp only [nx];omega) _)
  · (repeat first | assumption | exact Bx.new _ _ _ | exact Bx.newAt (by first|omega|simp only [nx];omega) | refine Bx.put (by first|omega|simp only [nx];omega) _ _ | refine Bx.alloc ?_ _ | refine Bx.set ?_ (by first|omega|simp only [nx];omega) _)
  rintro H5 ⟨g5, d5⟩
  have l5 := d5.1
  refine V.re [(1, .pointer (some ⟨H.next, 0, none⟩)), (2, .pointer (some ⟨H.next + 1, 0, none⟩)), (3, .pointer (some ⟨H4.next, 0, none⟩)), (4, I 0)] (N := 34) (by intro i; simp only [full_st, hF]) (by simp only [Kn, D5,hF,hA,↓reduceIte,qD,qE, and_self, and_true, true_and]; try (repeat' constructor)) ?_
  clear hF hA
  intro t hF hA
  simp only [Kn, and_true] at hA
  refine V.loop (fun z t m X => ∃ (k : Nat) (s : Value), k ≤ T.C.length ∧ z = T.C.length - k ∧ m = [] ∧ Grow H4 X ∧ H5.next ≤ X.next ∧ Bx X H4.next [s, v2, v3, v4] 38 ∧ OwN (From RS H5.next) H5 X 36 s (T.C.take k) ∧ Full 34 t ∧ Kn [(1, .pointer (some ⟨H.next, 0, none⟩)), (2, .pointer (some ⟨H.next + 1, 0, none⟩)), (3, .pointer (some ⟨H4.next, 0, none⟩)), (4, I k)] t) T.C.length ?_ ?_
  · exact ⟨0, _, by omega, by omega, rfl, g5, Nat.le_refl _, d5, by rw [List.take_zero]; exact .nil, (by intro i; simp only [full_st, hF]), (by simp only [Kn, D5,hF,hA,↓reduceIte,qD,qE, and_self, and_true, true_and]; try (repeat' constructor))⟩
  clear hF hA
  rintro z t m X ⟨k, s, hk, rfl, rfl, hg, hgn, dx, os, hF, hA⟩
  simp only [Kn, and_true] at hA
  have bx := b4.grow hg
  have cx := c4.grow hg
  have hx := h4.grow hg
  (repeat first|apply V.seq|apply V.block|apply V.scope|apply V.skip|apply V.close)
  refine V.line' (by simp +contextual (disch := first|omega|simp only [nx];omega) only [D4,qF,qG,qA,qB,qC,D5,hF,hA,↓reduceIte,qD,qE, bx.2, hl]; with_reducible rfl) ?_
  (repeat first|apply V.seq|apply V.block|apply V.scope|apply V.skip|apply V.close)
  refine V.condP (by simp only [D6,D5,hF,hA,↓reduceIte,qD,qE]; rfl) (fun hlt => ?_) (fun hlt => ?_)
  · have hlt' : k < T.C.length := by omega
    obtain ⟨p, x, hp, hxx⟩ := hx.c.at rp hlt'
    obtain ⟨hx1, hx2⟩ := hxx _ (.refl _)
    have hpk := hp .i64
    (repeat first|apply V.seq|apply V.block|apply V.scope|apply V.skip|apply V.close)
    refine V.draw ?_
    refine VD.dins 7 (by simp +contextual (disch := first|omega|simp only [nx];omega) only [D4,qF,qG,qA,qB,qC,D5,hF,hA,↓reduceIte,qD,qE, bx.2, dx.2, hpk, hx1]; with_reducible rfl) ?_
    simp only [ds]
    refine VD.callR (by simp only [D6,D5,hF,hA,↓reduceIte,qD,qE]; try rfl) (f64_ok hx2 (s2 _ (List.getElem_mem hlt'))) (by simp only [D6,D5,hF,hA,↓reduceIte,qD,qE]; try rfl) (fun y X1 ⟨g1, o1⟩ => ?_)
    have dx1 := dx.grow g1
    have dl1 := dx1.1
    have os1 := os.keep (rp.from _) g1
    have hy : From RS H5.next X1 y T.C[k] := ⟨o1.sw (RS_len _), fun i hi => Nat.le_trans hgn (o1.from i hi)⟩
    obtain ⟨p1, q1, _, _⟩ := sl1 (rp.sl hy.1)
    obtain ⟨w, X2, e1, e2, e3, e4, e5, e6⟩ := OwN.pushB (rp.from _) (bytes := 24) (Nat.le_trans hgn g1.1) os1 hy (os.sepNew (Nat.le_refl _) o1.from) (by rw [List.length_take]; omega) (by rw [List.length_take]; omega)
    have dx2 := e3.bx dx1 l5
    obtain ⟨p2', q2', _, _⟩ := sl1 (rp.sl k2')
    have hw := sl1 e2.nest.isS
    refine VD.lineD' (by simp +contextual (disch := first|omega|simp only [nx];omega) only [D4,qF,qG,qA,qB,qC,D5,hF,hA,↓reduceIte,qD,qE, p1, q1, e1, dx1.2, dx2.2, hw.1, hw.2.1, hw.2.2.2, p2, p3, p4]; with_reducible rfl) ?_ ?_ rfl ?_
    · have m1 := g1.1
      simp only [monoG, List.cons_append, List.nil_append, Heap.next_set, Heap.next_alloc, Nat.le_refl, true_and, and_true] <;> omega
    · simp only [dcAll, dcOk, wantD, List.cons_append, List.nil_append, true_and, and_true]
      have v1 := (sl1 os.nest.isS).2.2.1
      exact fun _ q hq => by simp only [List.mem_cons, List.not_mem_nil, or_false] at hq; (repeat (rcases hq with rfl | hq; exact ⟨_, _, _, rfl, (by simp +contextual (disch := first|omega|simp only [nx];omega) only [D4,qF,qG,qA,qB,qC,D5,hF,hA,↓reduceIte,qD,qE, dx.2, dx1.2]; with_reducible rfl), fun p hp => by cases hp; simp only [D5,hF,hA,↓reduceIte,qD,qE]; first | exact vEq_An | (simp [vEq, vEq0, all2]; done) | assumption⟩)); (try (subst hq; exact ⟨_, _, _, rfl, (by simp +contextual (disch := first|omega|simp only [nx];omega) only [D4,qF,qG,qA,qB,qC,D5,hF,hA,↓reduceIte,qD,qE, dx.2, dx1.2]; with_reducible rfl), fun p hp => by cases hp; simp only [D5,hF,hA,↓reduceIte,qD,qE]; first | exact vEq_An | (simp [vEq, vEq0, all2]; done) | assumption⟩))
    refine V.heap (fun Y => Y.next = X2.next ∧ Bx Y H4.next [w, v2, v3, v4] 38 ∧ ∀ i, i ≠ H4.next → Y.get i = X2.get i) ⟨?_, ?_, ?_⟩ ?_
    · simp only [nx]
    · (repeat first | assumption | exact Bx.new _ _ _ | exact Bx.newAt (by first|omega|simp only [nx];omega) | refine Bx.put (by first|omega|simp only [nx];omega) _ _ | refine Bx.alloc ?_ _ | refine Bx.set ?_ (by first|omega|simp only [nx];omega) _)
    · intro i hi
      rw [Heap.get_set, if_neg hi]
    rintro X3 ⟨n3, d3, t3⟩
    (repeat first|apply V.seq|apply V.block|apply V.scope|apply V.skip|apply V.close)
    refine V.line' (by simp +contextual (disch := first|omega|simp only [nx];omega) only [D4,qF,qG,qA,qB,qC,D5,hF,hA,↓reduceIte,qD,qE]; with_reducible rfl) ?_
    refine V.nil (Or.inl ⟨rfl, T.C.length - (k + 1), by omega, ?_⟩)
    have hgX : Grow H4 X2 := e3.grow (hg.trans g1) (by omega)
    refine ⟨k + 1, w, by omega, rfl, rfl, ⟨by rw [n3]; exact hgX.1, fun i hi => by rw [t3 i (by omega)]; exact hgX.2 i hi⟩, by have := e5; have := g1.1; omega, d3, ?_, (by intro i; simp only [full_st, hF]), (by simp only [Kn, D5,hF,hA,↓reduceIte,qD,qE, and_self, and_true, true_and]; try (repeat' constructor))⟩
    rw [List.take_succ_eq_append_getElem hlt']
    exact e2.loc rp (by omega) (fun i hi => t3 i (by omega))
  · refine V.exit ?_
    (repeat first | refine V.pass ?_ | refine V.here ?_ | refine V.out (by decide) ?_)
    refine V.nil (Or.inr ⟨by simp, ?_⟩)
    (repeat first | refine V.pass ?_ | refine V.here ?_ | refine V.out (by decide) ?_)
    have e : T.C.take k = T.C := List.take_of_length_le (by omega)
    rw [e] at os
    have hw := sl1 os.nest.isS
    (repeat first|apply V.seq|apply V.block|apply V.scope|apply V.skip|apply V.close)
    refine V.line' (by simp +contextual (disch := first|omega|simp only [nx];omega) only [D4,qF,qG,qA,qB,qC,D5,hF,hA,↓reduceIte,qD,qE, dx.2, cx.2, hw.1, hw.2.2.2, p2, p3, p4]; with_reducible rfl) ?_
    (repeat first|apply V.seq|apply V.block|apply V.scope|apply V.skip|apply V.close)
    refine V.heap (fun Y => Bx Y (H.next + 1) [s, v2, v3, v4] 38 ∧ Y.next = X.next ∧ ∀ i, i ≠ H.next + 1 → Y.get i = X.get i) ⟨?_, ?_, ?_⟩ ?_
    · (repeat first | assumption | exact Bx.new _ _ _ | exact Bx.newAt (by first|omega|simp only [nx];omega) | refine Bx.put (by first|omega|simp only [nx];omega) _ _ | refine Bx.alloc ?_ _ | refine Bx.set ?_ (by first|omega|simp only [nx];omega) _)
    · simp only [nx]
    · intro i hi
      rw [Heap.get_set, if_neg hi]
    rintro Y ⟨y1, y2, y3⟩
    refine V.ret (V.rets rfl (Lv.retF (by simp +contextual (disch := first|omega|simp only [nx];omega) only [D1, cells_alloc_at, cells_alloc_ne, cells_set_at, cells_set_ne, yres, yres1, yresL, qA, qB, qC, D5,hF,hA,↓reduceIte,qD,qE, y1.2]; rfl) ?_))
    refine ⟨⟨by rw [y2]; exact (hg4.trans hg).1, fun i hi => by rw [y3 i (by omega)]; exact (hg4.trans hg).2 i hi⟩, _, _, _, _, rfl, ?_, ?_, ?_, ?_⟩
    · exact (os.loc rp (by omega) (fun i hi => y3 i (by omega))).nest.weak (fun x r h => h.1)
    · exact rp.loc (rp.grow hg k2') (by omega) (fun i hi => y3 i (by have := f2 i hi; omega))
    · exact rp.loc (rp.grow hg k3') (by omega) (fun i hi => y3 i (by have := f3 i hi; omega))
    · exact rp.loc (rp.grow hg k4') (by omega) (fun i hi => y3 i (by have := f4 i hi; omega))
end Go.Xe.TFX
