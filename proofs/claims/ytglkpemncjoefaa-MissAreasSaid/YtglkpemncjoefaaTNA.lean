/- What the functions of the layer miss come to: chances. Conditions: none. -/
import Derived.Test.YtglkpemncjoefaaTMQ
-- MOD TM
namespace Go.Xe.TMX
open Go Go.Xe Go.Proofs Go.Xe.Mth
open Nat renaming reduceLeDiff → qA, reduceSub → qB, reduceAdd → qC, reduceEqDiff → qD, reduceLT → qE
open Int renaming reduceNegSucc → qF, reduceEq → qG
set_option maxRecDepth 100000
set_option maxHeartbeats 3200000
set_option linter.unusedSimpArgs false
noncomputable def d79 : FCode := (.seq (.run (.go (.box 92 (.tmp (pth 0))) (pth 1)::
.go (.alloc 53 [(.int .i64 (.ofNat 0)),(.int .i64 (.ofNat 0))]) (pth 2)::
[])) (.seq (.run (.go (.fieldAddr 0 (.tmp (pth 1))) (pth 3)::
.go (.fieldAddr 1 (.tmp (pth 3))) (pth 4)::
.go (.load1 (.tmp (pth 4))) (pth 5)::
.go (.build [(.int .i64 (.ofNat 0)),(.int .i64 (.ofNat 0))] [(0,1,(.con (.int .i64 (.ofNat 0)))),(1,1,(.tmp (pth 5)))]) (pth 6)::
.un (.store 2 (.tmp (pth 2)) (.tmp (pth 6)))::
[])) .ret))
theorem de79 : @compF Try.prog (Gl.none Try.prog) Try.f79 1 = .mk d79 (mkTT 7) [(pth 0)] [.many (pth 2) 2] := by kernel_rfl
theorem dg79 : Try.prog.funcs[79]? = some Try.f79 := Try.func79
theorem do79 : okF Try.prog Try.f79 = true := by kernel_rfl
noncomputable def d81 : FCode := (.seq (.run (.go (.move (.con (.int .i64 (.ofNat 0)))) (pth 2)::
[])) (.seq (.draw 17 (.go (.move (.tmp (pth 0))) (pth 3)::
.go (.nilCheck (.tmp (pth 3))) (pth 4)::
.go (.fieldAddr 4 (.tmp (pth 4))) (pth 5)::
.go (.move (.tmp (pth 0))) (pth 6)::
.go (.nilCheck (.tmp (pth 6))) (pth 7)::
.go (.fieldAddr 0 (.tmp (pth 7))) (pth 8)::
.go (.fieldAddr 3 (.tmp (pth 8))) (pth 9)::
.go (.load1 (.tmp (pth 9))) (pth 10)::
.go (.move (.tmp (pth 0))) (pth 11)::
.go (.nilCheck (.tmp (pth 11))) (pth 12)::
.go (.fieldAddr 0 (.tmp (pth 12))) (pth 13)::
.go (.fieldAddr 2 (.tmp (pth 13))) (pth 14)::
.go (.load1 (.tmp (pth 14))) (pth 15)::
.go (.bin .add 3 (.tmp (pth 15)) (.con (.int .i64 (.ofNat 1)))) (pth 16)::
.go (.sliceSlow 125 (.tmp (pth 5)) (some (.tmp (pth 10))) (some (.tmp (pth 16)))) (pth 17)::
.go (.call (.con (.func (.func 86) ⟨[]⟩ ⟨[]⟩)) [(.tmp (pth 17))]) (pth 18)::
.go (.move (.tmp (pth 18))) (pth 2)::
[]) [.ok,.ok,.ok,.ok,.ok,.ok,.ok,.ok,.ok,.ok,.ok,.ok,.ok,.ok,.ok,.ok,.ok]) .ret))
theorem de81 : @compF Try.prog (Gl.none Try.prog) Try.f81 1 = .mk d81 (mkTT 19) [(pth 0)] [.tmp (pth 2)] := by kernel_rfl
theorem dg81 : Try.prog.funcs[81]? = some Try.f81 := Try.func81
theorem do81 : okF Try.prog Try.f81 = true := by kernel_rfl
noncomputable def d82 : FCode := (.seq (.run (.go (.move (.con (.int .i64 (.ofNat 0)))) (pth 2)::
[])) (.seq (.draw 12 (.go (.move (.tmp (pth 0))) (pth 3)::
.go (.nilCheck (.tmp (pth 3))) (pth 4)::
.go (.fieldAddr 4 (.tmp (pth 4))) (pth 5)::
.go (.move (.tmp (pth 0))) (pth 6)::
.go (.nilCheck (.tmp (pth 6))) (pth 7)::
.go (.fieldAddr 0 (.tmp (pth 7))) (pth 8)::
.go (.fieldAddr 3 (.tmp (pth 8))) (pth 9)::
.go (.load1 (.tmp (pth 9))) (pth 10)::
.go (.bin .add 3 (.tmp (pth 10)) (.con (.int .i64 (.ofNat 1)))) (pth 11)::
.go (.sliceSlow 125 (.tmp (pth 5)) none (some (.tmp (pth 11)))) (pth 12)::
.go (.call (.con (.func (.func 86) ⟨[]⟩ ⟨[]⟩)) [(.tmp (pth 12))]) (pth 13)::
.go (.move (.tmp (pth 13))) (pth 2)::
[]) [.ok,.ok,.ok,.ok,.ok,.ok,.ok,.ok,.ok,.ok,.ok,.ok]) .ret))
theorem de82 : @compF Try.prog (Gl.none Try.prog) Try.f82 1 = .mk d82 (mkTT 14) [(pth 0)] [.tmp (pth 2)] := by kernel_rfl
theorem dg82 : Try.prog.funcs[82]? = some Try.f82 := Try.func82
theorem do82 : okF Try.prog Try.f82 = true := by kernel_rfl
noncomputable def d58 : FCode := (.seq (.run (.go (.alloc 98 [.nilFunc]) (pth 0)::
[])) (.seq (.run (.go (.build [.nilFunc] [(0,1,(.con (.func (.func 81) ⟨[]⟩ ⟨[]⟩)))]) (pth 1)::
.un (.store 1 (.tmp (pth 0)) (.tmp (pth 1)))::
[])) .ret))
theorem de58 : @compF Try.prog (Gl.none Try.prog) Try.f58 0 = .mk d58 (mkTT 2) [] [.many (pth 0) 1] := by kernel_rfl
theorem dg58 : Try.prog.funcs[58]? = some Try.f58 := Try.func58
theorem do58 : okF Try.prog Try.f58 = true := by kernel_rfl
noncomputable def d59 : FCode := (.seq (.run (.go (.alloc 98 [.nilFunc]) (pth 0)::
[])) (.seq (.run (.go (.build [.nilFunc] [(0,1,(.con (.func (.func 82) ⟨[]⟩ ⟨[]⟩)))]) (pth 1)::
.un (.store 1 (.tmp (pth 0)) (.tmp (pth 1)))::
[])) .ret))
theorem de59 : @compF Try.prog (Gl.none Try.prog) Try.f59 0 = .mk d59 (mkTT 2) [] [.many (pth 0) 1] := by kernel_rfl
theorem dg59 : Try.prog.funcs[59]? = some Try.f59 := Try.func59
theorem do59 : okF Try.prog Try.f59 = true := by kernel_rfl
noncomputable def d60 : FCode := (.seq (.run (.go (.box 98 (.tmp (pth 0))) (pth 2)::
.go (.alloc 36 [(.int .i64 (.ofNat 0)),(.int .i64 (.ofNat 0))]) (pth 4)::
[])) (.seq (.draw 10 (.go (.fieldAddr 0 (.tmp (pth 2))) (pth 5)::
.go (.load1 (.tmp (pth 5))) (pth 6)::
.go (.move (.tmp (pth 1))) (pth 7)::
.go (.call (.tmp (pth 6)) [(.tmp (pth 7))]) (pth 8)::
.go (.move (.tmp (pth 1))) (pth 9)::
.go (.nilCheck (.tmp (pth 9))) (pth 10)::
.go (.fieldAddr 55 (.tmp (pth 10))) (pth 11)::
.go (.load1 (.tmp (pth 11))) (pth 12)::
.go (.call (.con (.func (.func 80) ⟨[]⟩ ⟨[]⟩)) [(.tmp (pth 8)),(.tmp (pth 12))]) (pth 13)::
.un (.store 2 (.tmp (pth 4)) (.tmp (pth 13)))::
[]) [.ok,.ok,.ok,.ok,.ok,.ok,.ok,.rd none (.load1 (.tmp (pth 11))) (some (pth 12)) [0],.ok,.ok]) .ret))
theorem de60 : @compF Try.prog (Gl.none Try.prog) Try.f60 2 = .mk d60 (mkTT 14) [(pth 0),(pth 1)] [.many (pth 4) 2] := by kernel_rfl
theorem dg60 : Try.prog.funcs[60]? = some Try.f60 := Try.func60
theorem do60 : okF Try.prog Try.f60 = true := by kernel_rfl
theorem sm_shift (p : Nat → Nat) (f : Nat) : ∀ n, sm p (f + n) = sm p f + sm (fun k => p (f + k)) n
  | 0 => rfl
  | n + 1 => by
    rw [show f + (n + 1) = f + n + 1 by omega, sm_s, sm_shift p f n, sm_s]; omega
def psum (a u c f n : Nat) : Nat := sm (fun k => part a u c (f + k)) n
theorem psum_le {a u c f n : Nat} (h : f + n ≤ c + 1) : psum a u c f n ≤ ch (a + u) c := by
  have h1 : sm (fun f => ch a f * ch u (c - f)) (f + n) = sm (fun f => ch a f * ch u (c - f)) f + psum a u c f n := sm_shift (fun f => ch a f * ch u (c - f)) f n
  have h2 := vander a u c
  have h3 := sm_le (p := fun f => ch a f * ch u (c - f)) h
  rw [h2] at h3
  omega
theorem psum_s (a u c f n : Nat) : psum a u c f (n + 1) = psum a u c f n + part a u c (f + n) := rfl
theorem f79_ok (a b c d : Int) (w : Value) (H : Heap) : Gives Try.prog 79 [.agg ⟨[I a, I b, I c, I d, w]⟩] H (.agg ⟨A2 0 b⟩) := by
  refine F.entryL rfl dg79 do79 de79 rfl (by kernel_rfl) ?_
  simp only [sets]
  refine V.re [(0, .agg ⟨[I a, I b, I c, I d, w]⟩)] (N := 7) (by intro i; simp only [full_st, Full.mk]) (by simp only [Kn, gt_st, full_st, Full.mk, ↓reduceIte, qD, qE, decide_true, and_self]) ?_
  intro t hF hA
  simp only [Kn, and_true] at hA
  (repeat first|apply V.seq|apply V.block|apply V.scope|apply V.skip|apply V.close)
  refine V.line' (by simp +contextual (disch := first|omega|simp only [nx];omega) only [D4,qF,qG,qA,qB,qC,D5,hF,hA,↓reduceIte,qD,qE]; with_reducible rfl) ?_
  (repeat first|apply V.seq|apply V.block|apply V.scope|apply V.skip|apply V.close)
  refine V.line' (by simp +contextual (disch := first|omega|simp only [nx];omega) only [D4,qF,qG,qA,qB,qC,D5,hF,hA,↓reduceIte,qD,qE]; with_reducible rfl) ?_
  (repeat first|apply V.seq|apply V.block|apply V.scope|apply V.skip|apply V.close)
  refine V.ret (V.rets rfl (Lv.retG (by simp +contextual (disch := first|omega|simp only [nx];omega) only [D1, cells_alloc_at, cells_alloc_ne, cells_set_at, cells_set_ne, yres, yres1, yresL, qA, qB, qC, D5,hF,hA,↓reduceIte,qD,qE]; rfl) ?_ ?_))
  · (repeat first | assumption | exact Grow.refl _ | refine Grow.alloc ?_ _ | refine Grow.set ?_ (by first|omega|simp only [nx];omega) _)
  · rfl
def rd (a b c d u : Int) : Int := if ¬ ar a b c d then 1 else if ¬ (0 ≤ u ∧ u ≤ b) then 2 else 0
theorem xb {n y : Nat} (h : n ≤ y) (d : Nat) : xbound (some (I n)) d y = some n := by
  unfold xbound
  simp only
  rw [if_pos ⟨by omega, by omega⟩, Int.toNat_natCast]
theorem info3 : ∃ inf, Try.prog.info? 3 = some inf ∧ inf.size = 1 := by
  have c3 : Try.prog.cellsOf 3 = 1 := by kernel_rfl
  cases h3 : Try.prog.info? 3 with
  | none => simp [Program.cellsOf, h3] at c3
  | some inf => exact ⟨inf, rfl, by simpa [Program.cellsOf, h3] using c3⟩
theorem slice_arr {p o l h : Nat} (hl : l ≤ h) (hh : h ≤ 51) (hl2 : l < 51) : xslice Try.prog 125 (.pointer (some ⟨p, o, none⟩)) (some (I l)) (some (I h)) none = some (.slice (some ⟨p, o + l, none⟩) (h - l) (51 - l)) := by
  obtain ⟨inf, h3, hs⟩ := info3
  unfold xslice
  simp only [Try.underlying125, h3, xb hh, xb hl]
  rw [if_neg (by omega), hs, Nat.mul_one]
theorem slice_arr0 {p o h : Nat} (hh : h ≤ 51) : xslice Try.prog 125 (.pointer (some ⟨p, o, none⟩)) none (some (I h)) none = some (.slice (some ⟨p, o, none⟩) h 51) := by
  obtain ⟨inf, h3, hs⟩ := info3
  have e : ∀ y : Nat, xbound none 0 y = some 0 := fun _ => rfl
  unfold xslice
  simp only [Try.underlying125, h3, xb hh, e]
  rw [if_neg (by omega), Nat.zero_mul, Nat.add_zero, Nat.sub_zero, Nat.sub_zero]
abbrev SP (a b c d u : Nat) : List Value := SPk a b c d (ch (a + u) c : Nat) (fun f => I (if f < c + 1 then ((part a u c f : Nat) : Int) else 0))
def psL (a u c f n : Nat) : List Int := (List.range n).map fun k => ((part a u c (f + k) : Nat) : Int)
theorem psL_sum (a u c f : Nat) : ∀ n, (psL a u c f n).sum = ((psum a u c f n : Nat) : Int)
  | 0 => rfl
  | n + 1 => by
    have ih := psL_sum a u c f n
    unfold psL at ih ⊢
    rw [List.range_succ, List.map_append, List.sum_append, ih, psum_s]
    simp
theorem SP_sl {H : Heap} {p a b c d u f n : Nat} (h : Bx H p (SP a b c d u) 127) (hc : c ≤ 50) (hf : f + n ≤ c + 1) : Sl H (.slice (some ⟨p, 4 + f, none⟩) n (51 - f)) ((psL a u c f n).map I) := by
  refine .at h.1 h.2 (by omega) (by simp [psL]) (by rw [arr_size, SPk_len]; omega) ?_
  intro k x hx
  have hk : k < n := by
    have := (List.getElem?_eq_some_iff.1 hx).1
    simpa [psL] using this
  rw [arr_get, show 4 + f + k = 4 + (f + k) by omega, SPk_s (by omega), ← hx, if_pos (by omega)]
  simp [psL, hk]
theorem f81_ok {a b c d u p : Nat} (hau : a + u ≤ 60) (hc : c ≤ 50) (hd : d ≤ c) {H : Heap} (hb : Bx H p (SP a b c d u) 127) : Gives Try.prog 81 [PT p] H (I (psum a u c d (c + 1 - d) : Nat)) := by
  have hs := slice_arr (p := p) (o := 4) (l := d) (h := c + 1) (by omega) (by omega) (by omega)
  have e1 : (c : Int) + 1 = ((c + 1 : Nat) : Int) := rfl
  have hq := psum_le (a := a) (u := u) (c := c) (f := d) (n := c + 1 - d) (by omega)
  have hcb := ch_bound (n := a + u) c hau
  refine F.entryL rfl dg81 do81 de81 rfl (by kernel_rfl) ?_
  simp only [sets]
  refine V.re [(0, PT p)] (N := 19) (by intro i; simp only [full_st, Full.mk]) (by simp only [Kn, gt_st, full_st, Full.mk, ↓reduceIte, qD, qE, decide_true, and_self]) ?_
  intro t hF hA
  simp only [Kn, and_true] at hA
  (repeat first|apply V.seq|apply V.block|apply V.scope|apply V.skip|apply V.close)
  refine V.line' (by simp +contextual (disch := first|omega|simp only [nx];omega) only [D4,qF,qG,qA,qB,qC,D5,hF,hA,↓reduceIte,qD,qE]; with_reducible rfl) ?_
  (repeat first|apply V.seq|apply V.block|apply V.scope|apply V.skip|apply V.close)
  refine V.draw ?_
  refine VD.dins 9 (by simp +contextual (disch := first|omega|simp only [nx];omega) only [D4,qF,qG,qA,qB,qC,D5,hF,hA,↓reduceIte,qD,qE, hb.2, SPk_2, SPk_3, e1, hs]; with_reducible rfl) ?_
  simp only [ds]
  refine VD.dins 6 (by simp +contextual (disch := first|omega|simp only [nx];omega) only [D4,qF,qG,qA,qB,qC,D5,hF,hA,↓reduceIte,qD,qE, hb.2, SPk_2, SPk_3, e1, hs]; with_reducible rfl) ?_
  simp only [ds]
  refine VD.callA (by simp only [D6,D5,hF,hA,↓reduceIte,qD,qE]; try rfl) (f86_ok (SP_sl hb hc (n := c + 1 - d) (f := d) (by omega)) (by simp [psL]; omega) (fun x hx => by obtain ⟨q, _, rfl⟩ := List.mem_map.1 hx; exact Int.natCast_nonneg _) (by rw [psL_sum]; omega)) (by simp only [D6,D5,hF,hA,↓reduceIte,qD,qE]; try rfl) (fun H2 g2 => ?_)
  rw [psL_sum]
  refine VD.lineD' (by simp +contextual (disch := first|omega|simp only [nx];omega) only [D4,qF,qG,qA,qB,qC,D5,hF,hA,↓reduceIte,qD,qE]; with_reducible rfl) ?_ ?_ rfl ?_
  · have n2 := g2.1
    simp only [monoG, List.cons_append, List.nil_append, Heap.next_set, Heap.next_alloc, Nat.le_refl, true_and, and_true] <;> omega
  · simp only [dcAll, dcOk, wantD, List.cons_append, List.nil_append, true_and, and_true]
  (repeat first|apply V.seq|apply V.block|apply V.scope|apply V.skip|apply V.close)
  refine V.ret (V.rets rfl (Lv.retG (by simp +contextual (disch := first|omega|simp only [nx];omega) only [D1, cells_alloc_at, cells_alloc_ne, cells_set_at, cells_set_ne, yres, yres1, yresL, qA, qB, qC, D5,hF,hA,↓reduceIte,qD,qE]; rfl) ?_ ?_))
  · exact g2
  · rfl
theorem f82_ok {a b c d u p : Nat} (hau : a + u ≤ 60) (hc : c ≤ 50) (hd : d ≤ c) {H : Heap} (hb : Bx H p (SP a b c d u) 127) : Gives Try.prog 82 [PT p] H (I (psum a u c 0 (d + 1) : Nat)) := by
  have hs := slice_arr0 (p := p) (o := 4) (h := d + 1) (by omega)
  have e1 : (d : Int) + 1 = ((d + 1 : Nat) : Int) := rfl
  have hq := psum_le (a := a) (u := u) (c := c) (f := 0) (n := d + 1) (by omega)
  have hcb := ch_bound (n := a + u) c hau
  refine F.entryL rfl dg82 do82 de82 rfl (by kernel_rfl) ?_
  simp only [sets]
  refine V.re [(0, PT p)] (N := 14) (by intro i; simp only [full_st, Full.mk]) (by simp only [Kn, gt_st, full_st, Full.mk, ↓reduceIte, qD, qE, decide_true, and_self]) ?_
  intro t hF hA
  simp only [Kn, and_true] at hA
  (repeat first|apply V.seq|apply V.block|apply V.scope|apply V.skip|apply V.close)
  refine V.line' (by simp +contextual (disch := first|omega|simp only [nx];omega) only [D4,qF,qG,qA,qB,qC,D5,hF,hA,↓reduceIte,qD,qE]; with_reducible rfl) ?_
  (repeat first|apply V.seq|apply V.block|apply V.scope|apply V.skip|apply V.close)
  refine V.draw ?_
  refine VD.dins 9 (by simp +contextual (disch := first|omega|simp only [nx];omega) only [D4,qF,qG,qA,qB,qC,D5,hF,hA,↓reduceIte,qD,qE, hb.2, SPk_3, e1, hs]; with_reducible rfl) ?_
  simp only [ds]
  refine VD.dins 1 (by simp +contextual (disch := first|omega|simp only [nx];omega) only [D4,qF,qG,qA,qB,qC,D5,hF,hA,↓reduceIte,qD,qE, hb.2, SPk_3, e1, hs]; with_reducible rfl) ?_
  simp only [ds]
  refine VD.callA (by simp only [D6,D5,hF,hA,↓reduceIte,qD,qE]; try rfl) (f86_ok (SP_sl hb hc (n := d + 1) (f := 0) (by omega)) (by simp [psL]; omega) (fun x hx => by obtain ⟨q, _, rfl⟩ := List.mem_map.1 hx; exact Int.natCast_nonneg _) (by rw [psL_sum]; omega)) (by simp only [D6,D5,hF,hA,↓reduceIte,qD,qE]; try rfl) (fun H2 g2 => ?_)
  rw [psL_sum]
  refine VD.lineD' (by simp +contextual (disch := first|omega|simp only [nx];omega) only [D4,qF,qG,qA,qB,qC,D5,hF,hA,↓reduceIte,qD,qE]; with_reducible rfl) ?_ ?_ rfl ?_
  · have n2 := g2.1
    simp only [monoG, List.cons_append, List.nil_append, Heap.next_set, Heap.next_alloc, Nat.le_refl, true_and, and_true] <;> omega
  · simp only [dcAll, dcOk, wantD, List.cons_append, List.nil_append, true_and, and_true]
  (repeat first|apply V.seq|apply V.block|apply V.scope|apply V.skip|apply V.close)
  refine V.ret (V.rets rfl (Lv.retG (by simp +contextual (disch := first|omega|simp only [nx];omega) only [D1, cells_alloc_at, cells_alloc_ne, cells_set_at, cells_set_ne, yres, yres1, yresL, qA, qB, qC, D5,hF,hA,↓reduceIte,qD,qE]; rfl) ?_ ?_))
  · exact g2
  · rfl
theorem f58_ok (H : Heap) : Gives Try.prog 58 [] H (.agg ⟨[.func (.func 81) ⟨[]⟩ ⟨[]⟩]⟩) := by
  refine F.entryL rfl dg58 do58 de58 rfl (by kernel_rfl) ?_
  simp only [sets]
  refine V.re [] (N := 2) (by intro i; simp only [full_st, Full.mk]) (by simp only [Kn, gt_st, full_st, Full.mk, ↓reduceIte, qD, qE, decide_true, and_self]) ?_
  intro t hF hA
  (repeat first|apply V.seq|apply V.block|apply V.scope|apply V.skip|apply V.close)
  refine V.line' (by simp +contextual (disch := first|omega|simp only [nx];omega) only [D4,qF,qG,qA,qB,qC,D5,hF,hA,↓reduceIte,qD,qE]; with_reducible rfl) ?_
  (repeat first|apply V.seq|apply V.block|apply V.scope|apply V.skip|apply V.close)
  refine V.line' (by simp +contextual (disch := first|omega|simp only [nx];omega) only [D4,qF,qG,qA,qB,qC,D5,hF,hA,↓reduceIte,qD,qE]; with_reducible rfl) ?_
  (repeat first|apply V.seq|apply V.block|apply V.scope|apply V.skip|apply V.close)
  refine V.ret (V.rets rfl (Lv.retG (by simp +contextual (disch := first|omega|simp only [nx];omega) only [D1, cells_alloc_at, cells_alloc_ne, cells_set_at, cells_set_ne, yres, yres1, yresL, qA, qB, qC, D5,hF,hA,↓reduceIte,qD,qE]; rfl) ?_ ?_))
  · (repeat first | assumption | exact Grow.refl _ | refine Grow.alloc ?_ _ | refine Grow.set ?_ (by first|omega|simp only [nx];omega) _)
  · rfl
theorem f59_ok (H : Heap) : Gives Try.prog 59 [] H (.agg ⟨[.func (.func 82) ⟨[]⟩ ⟨[]⟩]⟩) := by
  refine F.entryL rfl dg59 do59 de59 rfl (by kernel_rfl) ?_
  simp only [sets]
  refine V.re [] (N := 2) (by intro i; simp only [full_st, Full.mk]) (by simp only [Kn, gt_st, full_st, Full.mk, ↓reduceIte, qD, qE, decide_true, and_self]) ?_
  intro t hF hA
  (repeat first|apply V.seq|apply V.block|apply V.scope|apply V.skip|apply V.close)
  refine V.line' (by simp +contextual (disch := first|omega|simp only [nx];omega) only [D4,qF,qG,qA,qB,qC,D5,hF,hA,↓reduceIte,qD,qE]; with_reducible rfl) ?_
  (repeat first|apply V.seq|apply V.block|apply V.scope|apply V.skip|apply V.close)
  refine V.line' (by simp +contextual (disch := first|omega|simp only [nx];omega) only [D4,qF,qG,qA,qB,qC,D5,hF,hA,↓reduceIte,qD,qE]; with_reducible rfl) ?_
  (repeat first|apply V.seq|apply V.block|apply V.scope|apply V.skip|apply V.close)
  refine V.ret (V.rets rfl (Lv.retG (by simp +contextual (disch := first|omega|simp only [nx];omega) only [D1, cells_alloc_at, cells_alloc_ne, cells_set_at, cells_set_ne, yres, yres1, yresL, qA, qB, qC, D5,hF,hA,↓reduceIte,qD,qE]; rfl) ?_ ?_))
  · (repeat first | assumption | exact Grow.refl _ | refine Grow.alloc ?_ _ | refine Grow.set ?_ (by first|omega|simp only [nx];omega) _)
  · rfl
theorem f60_ok {a b c d u p n : Nat} {g : FuncId} (hau : a + u ≤ 60) (hc : c ≤ a) {H : Heap} (hb : Bx H p (SP a b c d u) 127) (hn : n ≤ ch (a + u) c) (hg : ∀ H', Grow H H' → Gives Try.prog g [PT p] H' (I n)) :
    Gives Try.prog 60 [.agg ⟨[.func (.func g) ⟨[]⟩ ⟨[]⟩]⟩, PT p] H (.agg ⟨fr n (ch (a + u) c)⟩) := by
  have hcb := ch_bound (n := a + u) c hau
  have hp := ch_pos (n := a + u) (k := c) (by omega)
  have hpn := hb.1
  refine F.entryL rfl dg60 do60 de60 rfl (by kernel_rfl) ?_
  simp only [sets]
  refine V.re [(0, .agg ⟨[.func (.func g) ⟨[]⟩ ⟨[]⟩]⟩), (1, PT p)] (N := 14) (by intro i; simp only [full_st, Full.mk]) (by simp only [Kn, gt_st, full_st, Full.mk, ↓reduceIte, qD, qE, decide_true, and_self]) ?_
  intro t hF hA
  simp only [Kn, and_true] at hA
  (repeat first|apply V.seq|apply V.block|apply V.scope|apply V.skip|apply V.close)
  refine V.line' (by simp +contextual (disch := first|omega|simp only [nx];omega) only [D4,qF,qG,qA,qB,qC,D5,hF,hA,↓reduceIte,qD,qE]; with_reducible rfl) ?_
  refine V.heap (fun X => Grow H X ∧ Bx X H.next [.func (.func g) ⟨[]⟩ ⟨[]⟩] 98 ∧ Bx X (H.next + 1) (A2 0 0) 36) ⟨?_, ?_, ?_⟩ ?_
  · (repeat first | assumption | exact Grow.refl _ | refine Grow.alloc ?_ _ | refine Grow.set ?_ (by first|omega|simp only [nx];omega) _)
  · (repeat first | assumption | exact Bx.new _ _ _ | exact Bx.newAt (by first|omega|simp only [nx];omega) | refine Bx.put (by first|omega|simp only [nx];omega) _ _ | refine Bx.alloc ?_ _ | refine Bx.set ?_ (by first|omega|simp only [nx];omega) _)
  · (repeat first | assumption | exact Bx.new _ _ _ | exact Bx.newAt (by first|omega|simp only [nx];omega) | refine Bx.put (by first|omega|simp only [nx];omega) _ _ | refine Bx.alloc ?_ _ | refine Bx.set ?_ (by first|omega|simp only [nx];omega) _)
  rintro H1 ⟨g1, b1, c1⟩
  have s1 := hb.grow g1
  (repeat first|apply V.seq|apply V.block|apply V.scope|apply V.skip|apply V.close)
  refine V.draw ?_
  refine VD.dins 3 (by simp +contextual (disch := first|omega|simp only [nx];omega) only [D4,qF,qG,qA,qB,qC,D5,hF,hA,↓reduceIte,qD,qE, b1.2]; with_reducible rfl) ?_
  simp only [ds]
  refine VD.callA (by simp only [D6,D5,hF,hA,↓reduceIte,qD,qE]; try rfl) (hg _ g1) (by simp only [D6,D5,hF,hA,↓reduceIte,qD,qE]; try rfl) (fun H2 g2 => ?_)
  have s2 := s1.grow g2
  have c2 := c1.grow g2
  refine VD.dins 4 (by simp +contextual (disch := first|omega|simp only [nx];omega) only [D4,qF,qG,qA,qB,qC,D5,hF,hA,↓reduceIte,qD,qE, s2.2, SPk_all]; with_reducible rfl) ?_
  simp only [ds]
  refine VD.callA (by simp only [D6,D5,hF,hA,↓reduceIte,qD,qE]; try rfl) (f80_ok n (ch (a + u) c) (by omega) hp (by omega) _) (by simp only [D6,D5,hF,hA,↓reduceIte,qD,qE]; try rfl) (fun H3 g3 => ?_)
  have s3 := s2.grow g3
  have c3 := c2.grow g3
  have hc3 := c3.1
  refine VD.lineD' (by simp +contextual (disch := first|omega|simp only [nx];omega) only [D4,qF,qG,qA,qB,qC,D5,hF,hA,↓reduceIte,qD,qE, c3.2]; with_reducible rfl) ?_ ?_ rfl ?_
  · have n2 := g2.1
    have n3 := g3.1
    simp only [monoG, List.cons_append, List.nil_append, Heap.next_set, Heap.next_alloc, Nat.le_refl, true_and, and_true] <;> omega
  · simp only [dcAll, dcOk, wantD, List.cons_append, List.nil_append, true_and, and_true]
    exact fun _ q hq => by simp only [List.mem_cons, List.not_mem_nil, or_false] at hq; (repeat (rcases hq with rfl | hq; exact ⟨_, _, _, rfl, (by simp +contextual (disch := first|omega|simp only [nx];omega) only [D4,qF,qG,qA,qB,qC,D5,hF,hA,↓reduceIte,qD,qE, s1.2, s2.2, s3.2, SPk_all]; with_reducible rfl), fun p hp => by cases hp; simp only [D5,hF,hA,↓reduceIte,qD,qE]; first | exact vEq_An | (simp [vEq, vEq0, all2]; done) | assumption⟩)); (try (subst hq; exact ⟨_, _, _, rfl, (by simp +contextual (disch := first|omega|simp only [nx];omega) only [D4,qF,qG,qA,qB,qC,D5,hF,hA,↓reduceIte,qD,qE, s1.2, s2.2, s3.2, SPk_all]; with_reducible rfl), fun p hp => by cases hp; simp only [D5,hF,hA,↓reduceIte,qD,qE]; first | exact vEq_An | (simp [vEq, vEq0, all2]; done) | assumption⟩))
  (repeat first|apply V.seq|apply V.block|apply V.scope|apply V.skip|apply V.close)
  refine V.ret (V.rets rfl (Lv.retG (by simp +contextual (disch := first|omega|simp only [nx];omega) only [D1, cells_alloc_at, cells_alloc_ne, cells_set_at, cells_set_ne, yres, yres1, yresL, qA, qB, qC, D5,hF,hA,↓reduceIte,qD,qE, cells_set]; rfl) ?_ ?_))
  · have gg := (g1.trans g2).trans g3
    (repeat first | assumption | exact Grow.refl _ | refine Grow.alloc ?_ _ | refine Grow.set ?_ (by first|omega|simp only [nx];omega) _)
  · rfl
end Go.Xe.TMX
/- What the statement MissChances comes to. Conditions: none. -/
-- MOD TM
namespace Go.Xe.TMX
open Go Go.Xe Go.Proofs Go.Xe.Mth
open Nat renaming reduceLeDiff → qA, reduceSub → qB, reduceAdd → qC, reduceEqDiff → qD, reduceLT → qE
open Int renaming reduceNegSucc → qF, reduceEq → qG
set_option maxRecDepth 100000
set_option maxHeartbeats 3200000
set_option linter.unusedSimpArgs false
noncomputable def d4 : FCode := (.seq (.run (.go (.box 23 (.tmp (pth 0))) (pth 2)::
.go (.move (.con (.bool false))) (pth 4)::
[])) (.seq (.run (.go (.loadN 4 (.tmp (pth 2))) (pth 13)::
.go (.call (.con (.func (.func 21) ⟨[]⟩ ⟨[]⟩)) [(.tmp (pth 13))]) (pth 14)::
.go (.move (.tmp (pth 1))) (pth 15)::
.go (.call (.con (.func (.func 26) ⟨[]⟩ ⟨[]⟩)) [(.tmp (pth 14)),(.tmp (pth 15))]) (pth 16)::
.go (.move (.tmp (pth 16))) (pth 12)::
.go (.extract (.tmp (pth 12)) 0) (pth 17)::
.go (.extract (.tmp (pth 12)) 1) (pth 18)::
.go (.alloc 36 [(.int .i64 (.ofNat 0)),(.int .i64 (.ofNat 0))]) (pth 5)::
.un (.store 2 (.tmp (pth 5)) (.tmp (pth 17)))::
.go (.move (.tmp (pth 18))) (pth 6)::
[])) (.seq (.run (.go (.loadN 4 (.tmp (pth 2))) (pth 20)::
.go (.call (.con (.func (.func 21) ⟨[]⟩ ⟨[]⟩)) [(.tmp (pth 20))]) (pth 21)::
.go (.move (.tmp (pth 1))) (pth 22)::
.go (.call (.con (.func (.func 27) ⟨[]⟩ ⟨[]⟩)) [(.tmp (pth 21)),(.tmp (pth 22)),(.con (.bool true))]) (pth 23)::
.go (.move (.tmp (pth 23))) (pth 19)::
.go (.extract (.tmp (pth 19)) 0) (pth 24)::
.go (.extract (.tmp (pth 19)) 1) (pth 25)::
.go (.alloc 36 [(.int .i64 (.ofNat 0)),(.int .i64 (.ofNat 0))]) (pth 7)::
.un (.store 2 (.tmp (pth 7)) (.tmp (pth 24)))::
.go (.move (.tmp (pth 25))) (pth 8)::
[])) (.seq (.run (.go (.loadN 4 (.tmp (pth 2))) (pth 27)::
.go (.call (.con (.func (.func 21) ⟨[]⟩ ⟨[]⟩)) [(.tmp (pth 27))]) (pth 28)::
.go (.move (.tmp (pth 1))) (pth 29)::
.go (.call (.con (.func (.func 27) ⟨[]⟩ ⟨[]⟩)) [(.tmp (pth 28)),(.tmp (pth 29)),(.con (.bool false))]) (pth 30)::
.go (.move (.tmp (pth 30))) (pth 26)::
.go (.extract (.tmp (pth 26)) 0) (pth 31)::
.go (.extract (.tmp (pth 26)) 1) (pth 32)::
.go (.alloc 36 [(.int .i64 (.ofNat 0)),(.int .i64 (.ofNat 0))]) (pth 9)::
.un (.store 2 (.tmp (pth 9)) (.tmp (pth 31)))::
.go (.move (.tmp (pth 32))) (pth 10)::
[])) (.seq (.run (.go (.loadN 4 (.tmp (pth 2))) (pth 33)::
.go (.call (.con (.func (.func 22) ⟨[]⟩ ⟨[]⟩)) [(.tmp (pth 33))]) (pth 34)::
.go (.move (.tmp (pth 34))) (pth 11)::
[])) (.seq (.seq (.run (.go (.move (.tmp (pth 11))) (pth 35)::
.go (.bin .eql 24 (.tmp (pth 35)) (.con (.int .i64 (.ofNat 0)))) (pth 36)::
.go (.move (.tmp (pth 36))) (pth 37)::
.gd (pth 37) true (.move (.tmp (pth 1))) (pth 38)::
.gd (pth 37) true (.fieldAddr 1 (.tmp (pth 2))) (pth 39)::
.gd (pth 37) true (.load1 (.tmp (pth 39))) (pth 40)::
.gd (pth 37) true (.call (.con (.func (.func 23) ⟨[]⟩ ⟨[]⟩)) [(.tmp (pth 38)),(.con (.int .i64 (.ofNat 0))),(.tmp (pth 40))]) (pth 41)::
.gd (pth 37) true (.un .not (.tmp (pth 41))) (pth 42)::
.go (.pick (.tmp (pth 37)) (.tmp (pth 42)) (.con (.bool false))) (pth 43)::
[])) (.cond (.tmp (pth 43)) (.run (.go (.move (.con (.int .i64 (.ofNat 2)))) (pth 11)::
[])) .skip)) (.seq (.seq (.run (.go (.move (.tmp (pth 6))) (pth 44)::
.go (.move (.tmp (pth 11))) (pth 45)::
.go (.bin .neq 24 (.tmp (pth 44)) (.tmp (pth 45))) (pth 46)::
.go (.move (.tmp (pth 46))) (pth 47)::
.gd (pth 47) false (.move (.tmp (pth 8))) (pth 48)::
.gd (pth 47) false (.move (.tmp (pth 11))) (pth 49)::
.gd (pth 47) false (.bin .neq 24 (.tmp (pth 48)) (.tmp (pth 49))) (pth 50)::
.go (.pick (.tmp (pth 47)) (.con (.bool true)) (.tmp (pth 50))) (pth 51)::
.go (.move (.tmp (pth 51))) (pth 52)::
.gd (pth 52) false (.move (.tmp (pth 10))) (pth 53)::
.gd (pth 52) false (.move (.tmp (pth 11))) (pth 54)::
.gd (pth 52) false (.bin .neq 24 (.tmp (pth 53)) (.tmp (pth 54))) (pth 55)::
.go (.pick (.tmp (pth 52)) (.con (.bool true)) (.tmp (pth 55))) (pth 56)::
[])) (.cond (.tmp (pth 56)) (.seq (.run (.go (.move (.con (.bool false))) (pth 4)::
[])) .ret) .skip)) (.seq (.seq (.run (.go (.move (.tmp (pth 11))) (pth 57)::
.go (.bin .neq 24 (.tmp (pth 57)) (.con (.int .i64 (.ofNat 0)))) (pth 58)::
[])) (.cond (.tmp (pth 58)) (.seq (.run (.go (.loadN 2 (.tmp (pth 5))) (pth 59)::
.go (.build [(.int .i64 (.ofNat 0)),(.int .i64 (.ofNat 0))] []) (pth 60)::
.go (.bin .eql 36 (.tmp (pth 59)) (.tmp (pth 60))) (pth 61)::
.go (.move (.tmp (pth 61))) (pth 62)::
.gd (pth 62) true (.loadN 2 (.tmp (pth 7))) (pth 63)::
.gd (pth 62) true (.build [(.int .i64 (.ofNat 0)),(.int .i64 (.ofNat 0))] []) (pth 64)::
.gd (pth 62) true (.bin .eql 36 (.tmp (pth 63)) (.tmp (pth 64))) (pth 65)::
.go (.pick (.tmp (pth 62)) (.tmp (pth 65)) (.con (.bool false))) (pth 66)::
.go (.move (.tmp (pth 66))) (pth 67)::
.gd (pth 67) true (.loadN 2 (.tmp (pth 9))) (pth 68)::
.gd (pth 67) true (.build [(.int .i64 (.ofNat 0)),(.int .i64 (.ofNat 0))] []) (pth 69)::
.gd (pth 67) true (.bin .eql 36 (.tmp (pth 68)) (.tmp (pth 69))) (pth 70)::
.go (.pick (.tmp (pth 67)) (.tmp (pth 70)) (.con (.bool false))) (pth 71)::
.go (.move (.tmp (pth 71))) (pth 72)::
.gd (pth 72) true (.call (.con (.func (.func 24) ⟨[]⟩ ⟨[]⟩)) []) (pth 73)::
.go (.pick (.tmp (pth 72)) (.tmp (pth 73)) (.con (.bool false))) (pth 74)::
.go (.move (.tmp (pth 74))) (pth 4)::
[])) .ret) .skip)) (.seq (.draw 39 (.go (.loadN 2 (.tmp (pth 5))) (pth 75)::
.go (.loadN 4 (.tmp (pth 2))) (pth 76)::
.go (.move (.tmp (pth 1))) (pth 77)::
.go (.fieldAddr 3 (.tmp (pth 2))) (pth 78)::
.go (.load1 (.tmp (pth 78))) (pth 79)::
.go (.fieldAddr 3 (.tmp (pth 2))) (pth 80)::
.go (.load1 (.tmp (pth 80))) (pth 81)::
.go (.call (.con (.func (.func 30) ⟨[]⟩ ⟨[]⟩)) [(.tmp (pth 76)),(.tmp (pth 77)),(.tmp (pth 79)),(.tmp (pth 81))]) (pth 82)::
.go (.call (.con (.func (.func 29) ⟨[]⟩ ⟨[]⟩)) [(.tmp (pth 82))]) (pth 83)::
.go (.call (.con (.func (.func 28) ⟨[]⟩ ⟨[]⟩)) [(.tmp (pth 83))]) (pth 84)::
.go (.bin .eql 36 (.tmp (pth 75)) (.tmp (pth 84))) (pth 85)::
.go (.move (.tmp (pth 85))) (pth 86)::
.gd (pth 86) true (.loadN 2 (.tmp (pth 7))) (pth 87)::
.gd (pth 86) true (.loadN 4 (.tmp (pth 2))) (pth 88)::
.gd (pth 86) true (.move (.tmp (pth 1))) (pth 89)::
.gd (pth 86) true (.fieldAddr 3 (.tmp (pth 2))) (pth 90)::
.gd (pth 86) true (.load1 (.tmp (pth 90))) (pth 91)::
.gd (pth 86) true (.call (.con (.func (.func 30) ⟨[]⟩ ⟨[]⟩)) [(.tmp (pth 88)),(.tmp (pth 89)),(.con (.int .i64 (.ofNat 0))),(.tmp (pth 91))]) (pth 92)::
.gd (pth 86) true (.call (.con (.func (.func 29) ⟨[]⟩ ⟨[]⟩)) [(.tmp (pth 92))]) (pth 93)::
.gd (pth 86) true (.call (.con (.func (.func 28) ⟨[]⟩ ⟨[]⟩)) [(.tmp (pth 93))]) (pth 94)::
.gd (pth 86) true (.bin .eql 36 (.tmp (pth 87)) (.tmp (pth 94))) (pth 95)::
.go (.pick (.tmp (pth 86)) (.tmp (pth 95)) (.con (.bool false))) (pth 96)::
.go (.move (.tmp (pth 96))) (pth 97)::
.gd (pth 97) true (.loadN 2 (.tmp (pth 9))) (pth 98)::
.gd (pth 97) true (.loadN 4 (.tmp (pth 2))) (pth 99)::
.gd (pth 97) true (.move (.tmp (pth 1))) (pth 100)::
.gd (pth 97) true (.fieldAddr 3 (.tmp (pth 2))) (pth 101)::
.gd (pth 97) true (.load1 (.tmp (pth 101))) (pth 102)::
.gd (pth 97) true (.fieldAddr 2 (.tmp (pth 2))) (pth 103)::
.gd (pth 97) true (.load1 (.tmp (pth 103))) (pth 104)::
.gd (pth 97) true (.call (.con (.func (.func 30) ⟨[]⟩ ⟨[]⟩)) [(.tmp (pth 99)),(.tmp (pth 100)),(.tmp (pth 102)),(.tmp (pth 104))]) (pth 105)::
.gd (pth 97) true (.call (.con (.func (.func 29) ⟨[]⟩ ⟨[]⟩)) [(.tmp (pth 105))]) (pth 106)::
.gd (pth 97) true (.call (.con (.func (.func 28) ⟨[]⟩ ⟨[]⟩)) [(.tmp (pth 106))]) (pth 107)::
.gd (pth 97) true (.bin .eql 36 (.tmp (pth 98)) (.tmp (pth 107))) (pth 108)::
.go (.pick (.tmp (pth 97)) (.tmp (pth 108)) (.con (.bool false))) (pth 109)::
.go (.move (.tmp (pth 109))) (pth 110)::
.gd (pth 110) true (.call (.con (.func (.func 24) ⟨[]⟩ ⟨[]⟩)) []) (pth 111)::
.go (.pick (.tmp (pth 110)) (.tmp (pth 111)) (.con (.bool false))) (pth 112)::
.go (.move (.tmp (pth 112))) (pth 4)::
[]) [.rd none (.loadN 2 (.tmp (pth 5))) (some (pth 75)) [8,9,10],.ok,.ok,.ok,.ok,.ok,.ok,.ok,.ok,.ok,.ok,.ok,.rd (some ((pth 86),true)) (.loadN 2 (.tmp (pth 7))) (some (pth 87)) [18,19,20],.ok,.ok,.ok,.ok,.ok,.ok,.ok,.ok,.ok,.ok,.rd (some ((pth 97),true)) (.loadN 2 (.tmp (pth 9))) (some (pth 98)) [31,32,33],.ok,.ok,.ok,.ok,.ok,.ok,.ok,.ok,.ok,.ok,.ok,.ok,.ok,.ok,.ok]) .ret)))))))))
theorem wf_big {n : Nat} (h : n ≤ 4611686018427387904) : (Lit.int .i64 (n : Int)).wf = true := by
  simp only [Lit.wf, Bool.and_eq_true, decide_eq_true_eq]
  show (-9223372036854775808 : Int) ≤ n ∧ (n : Int) ≤ 9223372036854775807
  omega
end Go.Xe.TMX
/- What the statement MissAll comes to. Conditions: none. -/
-- MOD TM
namespace Go.Xe.TMX
open Go Go.Xe Go.Proofs Go.Xe.Mth
open Nat renaming reduceLeDiff → qA, reduceSub → qB, reduceAdd → qC, reduceEqDiff → qD, reduceLT → qE
open Int renaming reduceNegSucc → qF, reduceEq → qG
set_option maxRecDepth 100000
set_option maxHeartbeats 3200000
set_option linter.unusedSimpArgs false
theorem ar_nat {a b c d : Int} (h : ar a b c d) : ∃ a' b' c' d' : Nat, a = a' ∧ b = b' ∧ c = c' ∧ d = d' ∧ a' + b' ≤ 50 ∧ c' ≤ a' ∧ d' ≤ c' := by
  obtain ⟨⟨⟨h1, h2⟩, ⟨h3, h4⟩, h5⟩, ⟨h6, h7⟩, h8, h9⟩ := h
  exact ⟨a.toNat, b.toNat, c.toNat, d.toNat, by omega, by omega, by omega, by omega, by omega, by omega, by omega⟩
end Go.Xe.TMX
