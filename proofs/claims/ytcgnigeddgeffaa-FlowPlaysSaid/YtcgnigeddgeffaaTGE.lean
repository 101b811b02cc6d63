/- What the functions of the layer flow come to: Play and ProveTruth. Conditions: none. -/
import Derived.Test.YtcgnigeddgeffaaTGD
-- MOD TF
namespace Go.Xe.TFX
open Go Go.Xe Go.Proofs
open Nat renaming reduceLeDiff → qA, reduceSub → qB, reduceAdd → qC, reduceEqDiff → qD, reduceLT → qE
open Int renaming reduceNegSucc → qF, reduceEq → qG
open Go.Xe.Flw
set_option maxRecDepth 100000
set_option maxHeartbeats 3200000
set_option linter.unusedSimpArgs false
noncomputable def d69 : FCode := (.seq (.run (.go (.box 38 (.tmp (pth 0))) (pth 2)::
.go (.move (.con (.bool false))) (pth 4)::
[])) (.seq (.seq (.run (.go (.fieldAddr 0 (.tmp (pth 2))) (pth 7)::
.go (.load1 (.tmp (pth 7))) (pth 8)::
.go (.len 0 (.tmp (pth 8))) (pth 9)::
.go (.move (.con (.int .i64 (.ofNat 0)))) (pth 10)::
[])) (.block 0 (.loop (.seq (.run (.go (.bin .lss 3 (.tmp (pth 10)) (.tmp (pth 9))) (pth 11)::
[])) (.seq (.cond (.tmp (pth 11)) .skip (.exit 0)) (.seq (.block 1 (.seq (.run (.go (.move (.tmp (pth 10))) (pth 12)::
.go (.indexAddr none 1 (.tmp (pth 8)) (.tmp (pth 10))) (pth 13)::
.go (.load1 (.tmp (pth 13))) (pth 14)::
.go (.move (.tmp (pth 12))) (pth 5)::
.go (.move (.tmp (pth 14))) (pth 6)::
[])) (.seq (.run (.go (.move (.tmp (pth 6))) (pth 15)::
.go (.move (.tmp (pth 1))) (pth 16)::
.go (.move (.tmp (pth 5))) (pth 17)::
.go (.indexAddr none 1 (.tmp (pth 16)) (.tmp (pth 17))) (pth 18)::
.go (.load1 (.tmp (pth 18))) (pth 19)::
.go (.call (.con (.func (.func 107) ⟨[]⟩ ⟨[]⟩)) [(.tmp (pth 15)),(.tmp (pth 19))]) (pth 20)::
.go (.un .not (.tmp (pth 20))) (pth 21)::
[])) (.cond (.tmp (pth 21)) (.seq (.run (.go (.move (.con (.bool false))) (pth 4)::
[])) .ret) .skip)))) (.run (.go (.bin .add 3 (.tmp (pth 10)) (.con (.int .i64 (.ofNat 1)))) (pth 22)::
.go (.move (.tmp (pth 22))) (pth 10)::
[])))))))) (.seq (.run (.go (.move (.con (.bool true))) (pth 4)::
[])) .ret)))
theorem de69 : @compF Try.prog (Gl.none Try.prog) Try.f69 2 = .mk d69 (mkTT 23) [(pth 0),(pth 1)] [.tmp (pth 4)] := by kernel_rfl
theorem dg69 : Try.prog.funcs[69]? = some Try.f69 := Try.func69
theorem do69 : okF Try.prog Try.f69 = true := by kernel_rfl
noncomputable def d23 : FCode := (.seq (.run (.go (.box 38 (.tmp (pth 0))) (pth 2)::
.go (.box 42 (.tmp (pth 1))) (pth 3)::
.go (.move (.con (.slice none 0 0))) (pth 4)::
.go (.move (.con (.bool false))) (pth 5)::
.go (.move (.con (.int .i64 (.ofNat 0)))) (pth 6)::
[])) (.seq (.seq (.run (.go (.loadN 4 (.tmp (pth 2))) (pth 8)::
.go (.call (.con (.func (.func 21) ⟨[]⟩ ⟨[]⟩)) [(.tmp (pth 8))]) (pth 9)::
.go (.move (.tmp (pth 9))) (pth 7)::
[])) (.seq (.run (.go (.move (.tmp (pth 7))) (pth 10)::
.go (.bin .neq 33 (.tmp (pth 10)) (.con (.int .i64 (.ofNat 0)))) (pth 11)::
[])) (.cond (.tmp (pth 11)) (.seq (.run (.go (.move (.tmp (pth 7))) (pth 12)::
.go (.move (.con (.slice none 0 0))) (pth 4)::
.go (.move (.con (.bool false))) (pth 5)::
.go (.move (.tmp (pth 12))) (pth 6)::
[])) .ret) .skip))) (.seq (.seq (.run (.go (.loadN 4 (.tmp (pth 2))) (pth 13)::
.go (.loadN 4 (.tmp (pth 3))) (pth 14)::
.go (.call (.con (.func (.func 65) ⟨[]⟩ ⟨[]⟩)) [(.tmp (pth 13)),(.tmp (pth 14))]) (pth 15)::
.go (.un .not (.tmp (pth 15))) (pth 16)::
[])) (.cond (.tmp (pth 16)) (.seq (.run (.go (.move (.con (.slice none 0 0))) (pth 4)::
.go (.move (.con (.bool false))) (pth 5)::
.go (.move (.con (.int .i64 (.ofNat 2)))) (pth 6)::
[])) .ret) .skip)) (.seq (.run (.go (.loadN 4 (.tmp (pth 2))) (pth 18)::
.go (.loadN 4 (.tmp (pth 3))) (pth 19)::
.go (.call (.con (.func (.func 66) ⟨[]⟩ ⟨[]⟩)) [(.tmp (pth 18)),(.tmp (pth 19))]) (pth 20)::
.go (.move (.tmp (pth 20))) (pth 17)::
.go (.extract (.tmp (pth 17)) 0) (pth 21)::
.go (.extract (.tmp (pth 17)) 1) (pth 22)::
.go (.move (.tmp (pth 21))) (pth 4)::
.go (.move (.tmp (pth 22))) (pth 5)::
[])) (.seq (.run (.go (.move (.tmp (pth 4))) (pth 23)::
.go (.move (.tmp (pth 5))) (pth 24)::
.go (.move (.tmp (pth 23))) (pth 4)::
.go (.move (.tmp (pth 24))) (pth 5)::
.go (.move (.con (.int .i64 (.ofNat 0)))) (pth 6)::
[])) .ret)))))
theorem de23 : @compF Try.prog (Gl.none Try.prog) Try.f23 2 = .mk d23 (mkTT 25) [(pth 0),(pth 1)] [.tmp (pth 4),.tmp (pth 5),.tmp (pth 6)] := by kernel_rfl
theorem dg23 : Try.prog.funcs[23]? = some Try.f23 := Try.func23
theorem do23 : okF Try.prog Try.f23 = true := by kernel_rfl
noncomputable def d25 : FCode := (.seq (.run (.go (.box 38 (.tmp (pth 0))) (pth 2)::
.go (.box 42 (.tmp (pth 1))) (pth 3)::
.go (.move (.con (.bool false))) (pth 4)::
[])) (.seq (.run (.go (.loadN 4 (.tmp (pth 2))) (pth 9)::
.go (.loadN 4 (.tmp (pth 3))) (pth 10)::
.go (.call (.con (.func (.func 23) ⟨[]⟩ ⟨[]⟩)) [(.tmp (pth 9)),(.tmp (pth 10))]) (pth 11)::
.go (.move (.tmp (pth 11))) (pth 8)::
.go (.extract (.tmp (pth 8)) 0) (pth 12)::
.go (.extract (.tmp (pth 8)) 1) (pth 13)::
.go (.extract (.tmp (pth 8)) 2) (pth 14)::
.go (.move (.tmp (pth 12))) (pth 5)::
.go (.move (.tmp (pth 13))) (pth 6)::
.go (.move (.tmp (pth 14))) (pth 7)::
[])) (.seq (.run (.go (.move (.tmp (pth 7))) (pth 15)::
.go (.bin .eql 33 (.tmp (pth 15)) (.con (.int .i64 (.ofNat 0)))) (pth 16)::
.go (.move (.tmp (pth 16))) (pth 17)::
.gd (pth 17) true (.move (.tmp (pth 6))) (pth 18)::
.go (.pick (.tmp (pth 17)) (.tmp (pth 18)) (.con (.bool false))) (pth 19)::
.go (.move (.tmp (pth 19))) (pth 20)::
.gd (pth 20) true (.loadN 4 (.tmp (pth 2))) (pth 21)::
.gd (pth 20) true (.move (.tmp (pth 5))) (pth 22)::
.gd (pth 20) true (.call (.con (.func (.func 69) ⟨[]⟩ ⟨[]⟩)) [(.tmp (pth 21)),(.tmp (pth 22))]) (pth 23)::
.go (.pick (.tmp (pth 20)) (.tmp (pth 23)) (.con (.bool false))) (pth 24)::
.go (.move (.tmp (pth 24))) (pth 4)::
[])) .ret)))
theorem de25 : @compF Try.prog (Gl.none Try.prog) Try.f25 2 = .mk d25 (mkTT 25) [(pth 0),(pth 1)] [.tmp (pth 4)] := by kernel_rfl
theorem dg25 : Try.prog.funcs[25]? = some Try.f25 := Try.func25
theorem do25 : okF Try.prog Try.f25 = true := by kernel_rfl
def ags (C : List (List R2)) (S : List (List Int)) : Prop := ∀ p ∈ C.zip S, alI p.1 p.2
instance (C : List (List R2)) (S : List (List Int)) : Decidable (ags C S) := by unfold ags; infer_instance
theorem f69_ok {H : Heap} {c b r n v : Value} {T : Tb} {S : List (List Int)} (h : TV H c b r n T) (hS : Nest RI H v S) (hl2 : T.C.length ≤ S.length) (hs : sh T) : Gives Try.prog 69 [.agg ⟨[c, b, r, n]⟩, v] H (.bool (decide (ags T.C S))) := by
  have hl := h.c.len
  have s1 := hs.1
  have s2 := hs.2.1
  refine F.entryL rfl dg69 do69 de69 rfl (by kernel_rfl) ?_
  simp only [sets]
  refine V.re [(0, .agg ⟨[c, b, r, n]⟩), (1, v)] (N := 23) (by intro i; simp only [full_st, Full.mk]) (by simp only [Kn, gt_st, full_st, Full.mk, ↓reduceIte, qD, qE, decide_true, and_self]) ?_
  intro t hF hA
  simp only [Kn, and_true] at hA
  (repeat first|apply V.seq|apply V.block|apply V.scope|apply V.skip|apply V.close)
  refine V.line' (by simp +contextual (disch := first|omega|simp only [nx];omega) only [D4,qF,qG,qA,qB,qC,D5,hF,hA,↓reduceIte,qD,qE]; with_reducible rfl) ?_
  refine V.heap (fun X => Grow H X ∧ Bx X H.next [c, b, r, n] 38) ⟨?_, ?_⟩ ?_
  · (repeat first | assumption | exact Grow.refl _ | refine Grow.alloc ?_ _ | refine Grow.set ?_ (by first|omega|simp only [nx];omega) _)
  · (repeat first | assumption | exact Bx.new _ _ _ | exact Bx.newAt (by first|omega|simp only [nx];omega) | refine Bx.put (by first|omega|simp only [nx];omega) _ _ | refine Bx.alloc ?_ _ | refine Bx.set ?_ (by first|omega|simp only [nx];omega) _)
  rintro H1 ⟨g1, b1⟩
  (repeat first|apply V.seq|apply V.block|apply V.scope|apply V.skip|apply V.close)
  refine V.line' (by simp +contextual (disch := first|omega|simp only [nx];omega) only [D4,qF,qG,qA,qB,qC,D5,hF,hA,↓reduceIte,qD,qE, b1.2, hl]; with_reducible rfl) ?_
  (repeat first|apply V.seq|apply V.block|apply V.scope|apply V.skip|apply V.close)
  refine V.loop (fun z t m X => ∃ (k : Nat), k ≤ T.C.length ∧ z = T.C.length - k ∧ m = [] ∧ Grow H X ∧ (∀ p ∈ (T.C.zip S).take k, alI p.1 p.2) ∧ Full 23 t ∧ Kn [(1, v), (8, c), (9, I T.C.length), (10, I k)] t) T.C.length ?_ ?_
  · exact ⟨0, by omega, by omega, rfl, g1, by simp, (by intro i; simp only [full_st, hF]), (by simp only [Kn, D5,hF,hA,↓reduceIte,qD,qE, and_self, and_true, true_and]; try (repeat' constructor))⟩
  clear hF hA
  rintro z t m X ⟨k, hk, rfl, rfl, hg, hall, hF, hA⟩
  simp only [Kn, and_true] at hA
  (repeat first|apply V.seq|apply V.block|apply V.scope|apply V.skip|apply V.close)
  refine V.line' (by simp +contextual (disch := first|omega|simp only [nx];omega) only [D4,qF,qG,qA,qB,qC,D5,hF,hA,↓reduceIte,qD,qE]; with_reducible rfl) ?_
  (repeat first|apply V.seq|apply V.block|apply V.scope|apply V.skip|apply V.close)
  refine V.condP (by simp only [D6,D5,hF,hA,↓reduceIte,qD,qE]; rfl) (fun hlt => ?_) (fun hlt => ?_)
  · have hlt' : k < T.C.length := by omega
    have hlt2 : k < S.length := by omega
    have hlz : k < (T.C.zip S).length := by rw [List.length_zip]; omega
    have hz : (T.C.zip S)[k] = (T.C[k], S[k]) := List.getElem_zip ..
    obtain ⟨p, x, hp, hx⟩ := h.c.at rp hlt'
    obtain ⟨hx1, hx2⟩ := hx _ hg
    have hpk := hp .i64
    obtain ⟨q, y, hq, hy⟩ := hS.at ri hlt2
    obtain ⟨hy1, hy2⟩ := hy _ hg
    have hqk := hq .i64
    (repeat first|apply V.seq|apply V.block|apply V.scope|apply V.skip|apply V.close)
    refine V.line' (by simp +contextual (disch := first|omega|simp only [nx];omega) only [D4,qF,qG,qA,qB,qC,D5,hF,hA,↓reduceIte,qD,qE, hpk, hx1]; with_reducible rfl) ?_
    (repeat first|apply V.seq|apply V.block|apply V.scope|apply V.skip|apply V.close)
    refine V.run ?_
    refine VI.steps' 5 (by simp +contextual (disch := first|omega|simp only [nx];omega) only [D4,qF,qG,qA,qB,qC,D5,hF,hA,↓reduceIte,qD,qE, hqk, hy1]; with_reducible rfl) ?_
    simp only [ds]
    refine VI.callA rfl (f107_ok hx2 hy2 (s2 _ (List.getElem_mem hlt'))) (by simp only [D6,D5,hF,hA,↓reduceIte,qD,qE]; try rfl) (fun X2 gy => ?_)
    refine VI.line' (by simp +contextual (disch := first|omega|simp only [nx];omega) only [D4,qF,qG,qA,qB,qC,D5,hF,hA,↓reduceIte,qD,qE]; with_reducible rfl) ?_
    (repeat first|apply V.seq|apply V.block|apply V.scope|apply V.skip|apply V.close)
    refine V.condP (by simp only [D6,D5,hF,hA,↓reduceIte,qD,qE]; rfl) (fun hw => ?_) (fun hw => ?_)
    · (repeat first|apply V.seq|apply V.block|apply V.scope|apply V.skip|apply V.close)
      refine V.line' (by simp +contextual (disch := first|omega|simp only [nx];omega) only [D4,qF,qG,qA,qB,qC,D5,hF,hA,↓reduceIte,qD,qE]; with_reducible rfl) ?_
      (repeat first|apply V.seq|apply V.block|apply V.scope|apply V.skip|apply V.close)
      refine V.ret (V.rets rfl (Or.inr ⟨by simp, V.rets rfl (Lv.retG (by simp +contextual (disch := first|omega|simp only [nx];omega) only [D1, cells_alloc_at, cells_alloc_ne, cells_set_at, cells_set_ne, yres, yres1, yresL, qA, qB, qC, D5,hF,hA,↓reduceIte,qD,qE]; rfl) ?_ ?_)⟩))
      · exact hg.trans gy
      · congr 1
        exact (decide_eq_false (fun hh => hw (by have := hh _ (List.getElem_mem hlz); rw [hz] at this; exact this))).symm
    · (repeat first|apply V.seq|apply V.block|apply V.scope|apply V.skip|apply V.close)
      refine V.line' (by simp +contextual (disch := first|omega|simp only [nx];omega) only [D4,qF,qG,qA,qB,qC,D5,hF,hA,↓reduceIte,qD,qE]; with_reducible rfl) ?_
      refine V.nil (Or.inl ⟨rfl, T.C.length - (k + 1), by omega, ?_⟩)
      refine ⟨k + 1, by omega, rfl, rfl, hg.trans gy, ?_, (by intro i; simp only [full_st, hF]), (by simp only [Kn, D5,hF,hA,↓reduceIte,qD,qE, and_self, and_true, true_and]; try (repeat' constructor))⟩
      intro p hp
      rw [tk1 hlz] at hp
      rcases List.mem_append.1 hp with hp | hp
      · exact hall p hp
      · rw [List.mem_singleton.1 hp, hz]; exact Decidable.not_not.1 hw
  · refine V.exit ?_
    (repeat first | refine V.pass ?_ | refine V.here ?_ | refine V.out (by decide) ?_)
    refine V.nil (Or.inr ⟨by simp, ?_⟩)
    (repeat first | refine V.pass ?_ | refine V.here ?_ | refine V.out (by decide) ?_)
    have e : (T.C.zip S).take k = T.C.zip S := List.take_of_length_le (by rw [List.length_zip]; omega)
    rw [e] at hall
    (repeat first|apply V.seq|apply V.block|apply V.scope|apply V.skip|apply V.close)
    refine V.line' (by simp +contextual (disch := first|omega|simp only [nx];omega) only [D4,qF,qG,qA,qB,qC,D5,hF,hA,↓reduceIte,qD,qE]; with_reducible rfl) ?_
    (repeat first|apply V.seq|apply V.block|apply V.scope|apply V.skip|apply V.close)
    refine V.ret (V.rets rfl (Lv.retG (by simp +contextual (disch := first|omega|simp only [nx];omega) only [D1, cells_alloc_at, cells_alloc_ne, cells_set_at, cells_set_ne, yres, yres1, yresL, qA, qB, qC, D5,hF,hA,↓reduceIte,qD,qE]; rfl) ?_ ?_))
    · exact hg
    · rw [decide_eq_true (show ags T.C S from hall)]
theorem flt_0 {T : Tb} : flt T = 0 ↔ fit T ∧ val T := by
  unfold flt
  by_cases h : fit T
  · rw [if_neg (not_not_intro h)]
    by_cases hv : val T
    · rw [if_neg (not_not_intro hv)]; simp [h, hv]
    · rw [if_pos hv]; simp [hv]
  · rw [if_pos h]; simp [h]
theorem f23_ok {H : Heap} {c b r n f e d o : Value} {T : Tb} {X : Tr} (h : TV H c b r n T) (hx : XV H f e d o X) (hs : sh T) (hsx : shX X) : F Try.prog 23 ⟨[.agg ⟨[c, b, r, n]⟩, .agg ⟨[f, e, d, o]⟩]⟩ H (fun w Y => Grow H Y ∧ ((flt T ≠ 0 ∧ w = .tuple ⟨[.slice none 0 0, .bool false, I (flt T)]⟩) ∨ (flt T = 0 ∧ ¬ hld T X ∧ w = .tuple ⟨[.slice none 0 0, .bool false, I 2]⟩) ∨ (flt T = 0 ∧ hld T X ∧ ∃ s, w = .tuple ⟨[s, .bool (decide (cn T X T.B.length)), I 0]⟩ ∧ Nest RI Y s (szs X (T.B.length + 1))))) := by
  refine F.entryL rfl dg23 do23 de23 rfl (by kernel_rfl) ?_
  simp only [sets]
  refine V.re [(0, .agg ⟨[c, b, r, n]⟩), (1, .agg ⟨[f, e, d, o]⟩)] (N := 25) (by intro i; simp only [full_st, Full.mk]) (by simp only [Kn, gt_st, full_st, Full.mk, ↓reduceIte, qD, qE, decide_true, and_self]) ?_
  intro t hF hA
  simp only [Kn, and_true] at hA
  (repeat first|apply V.seq|apply V.block|apply V.scope|apply V.skip|apply V.close)
  refine V.line' (by simp +contextual (disch := first|omega|simp only [nx];omega) only [D4,qF,qG,qA,qB,qC,D5,hF,hA,↓reduceIte,qD,qE]; with_reducible rfl) ?_
  refine V.heap (fun X => Grow H X ∧ Bx X H.next [c, b, r, n] 38 ∧ Bx X (H.next + 1) [f, e, d, o] 42) ⟨?_, ?_, ?_⟩ ?_
  · (repeat first | assumption | exact Grow.refl _ | refine Grow.alloc ?_ _ | refine Grow.set ?_ (by first|omega|simp only [nx];omega) _)
  · (repeat first | assumption | exact Bx.new _ _ _ | exact Bx.newAt (by first|omega|simp only [nx];omega) | refine Bx.put (by first|omega|simp only [nx];omega) _ _ | refine Bx.alloc ?_ _ | refine Bx.set ?_ (by first|omega|simp only [nx];omega) _)
  · (repeat first | assumption | exact Bx.new _ _ _ | exact Bx.newAt (by first|omega|simp only [nx];omega) | refine Bx.put (by first|omega|simp only [nx];omega) _ _ | refine Bx.alloc ?_ _ | refine Bx.set ?_ (by first|omega|simp only [nx];omega) _)
  rintro H1 ⟨g1, b1, c1⟩
  (repeat first|apply V.seq|apply V.block|apply V.scope|apply V.skip|apply V.close)
  refine V.run ?_
  refine VI.steps' 1 (by simp +contextual (disch := first|omega|simp only [nx];omega) only [D4,qF,qG,qA,qB,qC,D5,hF,hA,↓reduceIte,qD,qE, b1.2]; with_reducible rfl) ?_
  simp only [ds]
  refine VI.callA rfl (f21_ok (h.grow g1) hs) (by simp only [D6,D5,hF,hA,↓reduceIte,qD,qE]; try rfl) (fun H2 g2 => ?_)
  have b2 := b1.grow g2
  have c2 := c1.grow g2
  have g12 := g1.trans g2
  refine VI.line' (by simp +contextual (disch := first|omega|simp only [nx];omega) only [D4,qF,qG,qA,qB,qC,D5,hF,hA,↓reduceIte,qD,qE]; with_reducible rfl) ?_
  (repeat first|apply V.seq|apply V.block|apply V.scope|apply V.skip|apply V.close)
  refine V.line' (by simp +contextual (disch := first|omega|simp only [nx];omega) only [D4,qF,qG,qA,qB,qC,D5,hF,hA,↓reduceIte,qD,qE]; with_reducible rfl) ?_
  (repeat first|apply V.seq|apply V.block|apply V.scope|apply V.skip|apply V.close)
  refine V.condP (by simp only [D6,D5,hF,hA,↓reduceIte,qD,qE]; rfl) (fun he => ?_) (fun he => ?_)
  · (repeat first|apply V.seq|apply V.block|apply V.scope|apply V.skip|apply V.close)
    refine V.line' (by simp +contextual (disch := first|omega|simp only [nx];omega) only [D4,qF,qG,qA,qB,qC,D5,hF,hA,↓reduceIte,qD,qE]; with_reducible rfl) ?_
    (repeat first|apply V.seq|apply V.block|apply V.scope|apply V.skip|apply V.close)
    refine V.ret (V.rets rfl (Lv.retF (by simp +contextual (disch := first|omega|simp only [nx];omega) only [D1, cells_alloc_at, cells_alloc_ne, cells_set_at, cells_set_ne, yres, yres1, yresL, qA, qB, qC, D5,hF,hA,↓reduceIte,qD,qE]; rfl) ?_))
    exact ⟨g12, .inl ⟨he, rfl⟩⟩
  have hf := Decidable.not_not.1 he
  obtain ⟨hft, hv⟩ := flt_0.1 hf
  (repeat first|apply V.seq|apply V.block|apply V.scope|apply V.skip|apply V.close)
  refine V.run ?_
  refine VI.steps' 2 (by simp +contextual (disch := first|omega|simp only [nx];omega) only [D4,qF,qG,qA,qB,qC,D5,hF,hA,↓reduceIte,qD,qE, b2.2, c2.2]; with_reducible rfl) ?_
  simp only [ds]
  refine VI.callA rfl (f65_ok (h.grow g12) (hx.grow g12) hs hsx) (by simp only [D6,D5,hF,hA,↓reduceIte,qD,qE]; try rfl) (fun H3 g3 => ?_)
  have b3 := b2.grow g3
  have c3 := c2.grow g3
  have g13 := g12.trans g3
  refine VI.line' (by simp +contextual (disch := first|omega|simp only [nx];omega) only [D4,qF,qG,qA,qB,qC,D5,hF,hA,↓reduceIte,qD,qE]; with_reducible rfl) ?_
  (repeat first|apply V.seq|apply V.block|apply V.scope|apply V.skip|apply V.close)
  refine V.condP (by simp only [D6,D5,hF,hA,↓reduceIte,qD,qE]; rfl) (fun hh => ?_) (fun hh => ?_)
  · (repeat first|apply V.seq|apply V.block|apply V.scope|apply V.skip|apply V.close)
    refine V.line' (by simp +contextual (disch := first|omega|simp only [nx];omega) only [D4,qF,qG,qA,qB,qC,D5,hF,hA,↓reduceIte,qD,qE]; with_reducible rfl) ?_
    (repeat first|apply V.seq|apply V.block|apply V.scope|apply V.skip|apply V.close)
    refine V.ret (V.rets rfl (Lv.retF (by simp +contextual (disch := first|omega|simp only [nx];omega) only [D1, cells_alloc_at, cells_alloc_ne, cells_set_at, cells_set_ne, yres, yres1, yresL, qA, qB, qC, D5,hF,hA,↓reduceIte,qD,qE]; rfl) ?_))
    exact ⟨g13, .inr (.inl ⟨hf, hh, rfl⟩)⟩
  have hh' := Decidable.not_not.1 hh
  (repeat first|apply V.seq|apply V.block|apply V.scope|apply V.skip|apply V.close)
  refine V.run ?_
  refine VI.steps' 2 (by simp +contextual (disch := first|omega|simp only [nx];omega) only [D4,qF,qG,qA,qB,qC,D5,hF,hA,↓reduceIte,qD,qE, b3.2, c3.2]; with_reducible rfl) ?_
  simp only [ds]
  refine VI.callR (by simp only [D6,D5,hF,hA,↓reduceIte,qD,qE]; try rfl) (f66_ok (h.grow g13) (hx.grow g13) hft hv hh') (by simp only [D6,D5,hF,hA,↓reduceIte,qD,qE]; try rfl) (fun w H4 ⟨g4, s, hw, hn⟩ => ?_)
  subst hw
  refine VI.line' (by simp +contextual (disch := first|omega|simp only [nx];omega) only [D4,qF,qG,qA,qB,qC,D5,hF,hA,↓reduceIte,qD,qE]; with_reducible rfl) ?_
  (repeat first|apply V.seq|apply V.block|apply V.scope|apply V.skip|apply V.close)
  refine V.line' (by simp +contextual (disch := first|omega|simp only [nx];omega) only [D4,qF,qG,qA,qB,qC,D5,hF,hA,↓reduceIte,qD,qE]; with_reducible rfl) ?_
  (repeat first|apply V.seq|apply V.block|apply V.scope|apply V.skip|apply V.close)
  refine V.ret (V.rets rfl (Lv.retF (by simp +contextual (disch := first|omega|simp only [nx];omega) only [D1, cells_alloc_at, cells_alloc_ne, cells_set_at, cells_set_ne, yres, yres1, yresL, qA, qB, qC, D5,hF,hA,↓reduceIte,qD,qE]; rfl) ?_))
  exact ⟨g13.trans g4, .inr (.inr ⟨hf, hh', s, rfl, hn⟩)⟩
def prv (T : Tb) (X : Tr) : Prop := flt T = 0 ∧ hld T X ∧ cn T X T.B.length ∧ ags T.C (szs X (T.B.length + 1))
instance (T : Tb) (X : Tr) : Decidable (prv T X) := by unfold prv; infer_instance
theorem f25_ok {H : Heap} {c b r n f e d o : Value} {T : Tb} {X : Tr} (h : TV H c b r n T) (hx : XV H f e d o X) (hs : sh T) (hsx : shX X) : Gives Try.prog 25 [.agg ⟨[c, b, r, n]⟩, .agg ⟨[f, e, d, o]⟩] H (.bool (decide (prv T X))) := by
  refine F.entryL rfl dg25 do25 de25 rfl (by kernel_rfl) ?_
  simp only [sets]
  refine V.re [(0, .agg ⟨[c, b, r, n]⟩), (1, .agg ⟨[f, e, d, o]⟩)] (N := 25) (by intro i; simp only [full_st, Full.mk]) (by simp only [Kn, gt_st, full_st, Full.mk, ↓reduceIte, qD, qE, decide_true, and_self]) ?_
  intro t hF hA
  simp only [Kn, and_true] at hA
  (repeat first|apply V.seq|apply V.block|apply V.scope|apply V.skip|apply V.close)
  refine V.line' (by simp +contextual (disch := first|omega|simp only [nx];omega) only [D4,qF,qG,qA,qB,qC,D5,hF,hA,↓reduceIte,qD,qE]; with_reducible rfl) ?_
  refine V.heap (fun X => Grow H X ∧ Bx X H.next [c, b, r, n] 38 ∧ Bx X (H.next + 1) [f, e, d, o] 42) ⟨?_, ?_, ?_⟩ ?_
  · (repeat first | assumption | exact Grow.refl _ | refine Grow.alloc ?_ _ | refine Grow.set ?_ (by first|omega|simp only [nx];omega) _)
  · (repeat first | assumption | exact Bx.new _ _ _ | exact Bx.newAt (by first|omega|simp only [nx];omega) | refine Bx.put (by first|omega|simp only [nx];omega) _ _ | refine Bx.alloc ?_ _ | refine Bx.set ?_ (by first|omega|simp only [nx];omega) _)
  · (repeat first | assumption | exact Bx.new _ _ _ | exact Bx.newAt (by first|omega|simp only [nx];omega) | refine Bx.put (by first|omega|simp only [nx];omega) _ _ | refine Bx.alloc ?_ _ | refine Bx.set ?_ (by first|omega|simp only [nx];omega) _)
  rintro H1 ⟨g1, b1, c1⟩
  (repeat first|apply V.seq|apply V.block|apply V.scope|apply V.skip|apply V.close)
  refine V.run ?_
  refine VI.steps' 2 (by simp +contextual (disch := first|omega|simp only [nx];omega) only [D4,qF,qG,qA,qB,qC,D5,hF,hA,↓reduceIte,qD,qE, b1.2, c1.2]; with_reducible rfl) ?_
  simp only [ds]
  refine VI.callR (by simp only [D6,D5,hF,hA,↓reduceIte,qD,qE]; try rfl) (f23_ok (h.grow g1) (hx.grow g1) hs hsx) (by simp only [D6,D5,hF,hA,↓reduceIte,qD,qE]; try rfl) (fun w H2 ⟨g2, o2⟩ => ?_)
  have b2 := b1.grow g2
  have g12 := g1.trans g2
  rcases o2 with ⟨he, rfl⟩ | ⟨hf, hh, rfl⟩ | ⟨hf, hh, s, rfl, hn⟩
  · refine VI.line' (by simp +contextual (disch := first|omega|simp only [nx];omega) only [D4,qF,qG,qA,qB,qC,D5,hF,hA,↓reduceIte,qD,qE]; with_reducible rfl) ?_
    (repeat first|apply V.seq|apply V.block|apply V.scope|apply V.skip|apply V.close)
    refine V.run ?_
    refine VI.steps' 8 (by simp +contextual (disch := first|omega|simp only [nx];omega) only [D4,qF,qG,qA,qB,qC,D5,hF,hA,↓reduceIte,qD,qE, he]; with_reducible rfl) ?_
    simp only [ds]
    refine VI.gdF (by simp only [D5,hF,hA,↓reduceIte,qD,qE]; rfl) ?_
    refine VI.line' (by simp +contextual (disch := first|omega|simp only [nx];omega) only [D4,qF,qG,qA,qB,qC,D5,hF,hA,↓reduceIte,qD,qE]; with_reducible rfl) ?_
    (repeat first|apply V.seq|apply V.block|apply V.scope|apply V.skip|apply V.close)
    refine V.ret (V.rets rfl (Lv.retG (by simp +contextual (disch := first|omega|simp only [nx];omega) only [D1, cells_alloc_at, cells_alloc_ne, cells_set_at, cells_set_ne, yres, yres1, yresL, qA, qB, qC, D5,hF,hA,↓reduceIte,qD,qE]; rfl) ?_ ?_))
    · exact g12
    · congr 1
      exact (decide_eq_false (fun q => he q.1)).symm
  · refine VI.line' (by simp +contextual (disch := first|omega|simp only [nx];omega) only [D4,qF,qG,qA,qB,qC,D5,hF,hA,↓reduceIte,qD,qE]; with_reducible rfl) ?_
    (repeat first|apply V.seq|apply V.block|apply V.scope|apply V.skip|apply V.close)
    refine V.run ?_
    refine VI.steps' 8 (by simp +contextual (disch := first|omega|simp only [nx];omega) only [D4,qF,qG,qA,qB,qC,D5,hF,hA,↓reduceIte,qD,qE]; with_reducible rfl) ?_
    simp only [ds]
    refine VI.gdF (by simp only [D5,hF,hA,↓reduceIte,qD,qE]; rfl) ?_
    refine VI.line' (by simp +contextual (disch := first|omega|simp only [nx];omega) only [D4,qF,qG,qA,qB,qC,D5,hF,hA,↓reduceIte,qD,qE]; with_reducible rfl) ?_
    (repeat first|apply V.seq|apply V.block|apply V.scope|apply V.skip|apply V.close)
    refine V.ret (V.rets rfl (Lv.retG (by simp +contextual (disch := first|omega|simp only [nx];omega) only [D1, cells_alloc_at, cells_alloc_ne, cells_set_at, cells_set_ne, yres, yres1, yresL, qA, qB, qC, D5,hF,hA,↓reduceIte,qD,qE]; rfl) ?_ ?_))
    · exact g12
    · congr 1
      exact (decide_eq_false (fun q => hh q.2.1)).symm
  · obtain ⟨hft, hv⟩ := flt_0.1 hf
    have hlen : T.C.length ≤ (szs X (T.B.length + 1)).length := by rw [szs_len]; have := hv.2.1; omega
    refine VI.line' (by simp +contextual (disch := first|omega|simp only [nx];omega) only [D4,qF,qG,qA,qB,qC,D5,hF,hA,↓reduceIte,qD,qE]; with_reducible rfl) ?_
    (repeat first|apply V.seq|apply V.block|apply V.scope|apply V.skip|apply V.close)
    refine V.run ?_
    refine VI.steps' 8 (by simp +contextual (disch := first|omega|simp only [nx];omega) only [D4,qF,qG,qA,qB,qC,D5,hF,hA,↓reduceIte,qD,qE, b2.2]; with_reducible rfl) ?_
    simp only [ds]
    first | refine VI.callGt (by simp only [D5,hF,hA,↓reduceIte,qD,qE]; try rfl) (fun hc => by simp only [D6,D5,hF,hA,↓reduceIte,qD,qE, hc, and_self, and_true, true_and, not_false_eq_true]; try rfl) (fun hc => f69_ok (h.grow g12) hn hlen hs) (fun hc => by simp only [D6,D5,hF,hA,↓reduceIte,qD,qE, hc, and_self, and_true, true_and, not_false_eq_true]; try rfl) (fun H3 g3 => ?_) | refine VI.callGf (by simp only [D5,hF,hA,↓reduceIte,qD,qE]; try rfl) (fun hc => by simp only [D6,D5,hF,hA,↓reduceIte,qD,qE, hc, and_self, and_true, true_and, not_false_eq_true]; try rfl) (fun hc => f69_ok (h.grow g12) hn hlen hs) (fun hc => by simp only [D6,D5,hF,hA,↓reduceIte,qD,qE, hc, and_self, and_true, true_and, not_false_eq_true]; try rfl) (fun H3 g3 => ?_)
    refine VI.line' (by simp +contextual (disch := first|omega|simp only [nx];omega) only [D4,qF,qG,qA,qB,qC,D5,hF,hA,↓reduceIte,qD,qE]; with_reducible rfl) ?_
    (repeat first|apply V.seq|apply V.block|apply V.scope|apply V.skip|apply V.close)
    refine V.ret (V.rets rfl (Lv.retG (by simp +contextual (disch := first|omega|simp only [nx];omega) only [D1, cells_alloc_at, cells_alloc_ne, cells_set_at, cells_set_ne, yres, yres1, yresL, qA, qB, qC, D5,hF,hA,↓reduceIte,qD,qE]; rfl) ?_ ?_))
    · exact g12.trans g3
    · congr 1
      rw [decide_eq_decide]
      exact ⟨fun q => ⟨hf, hh, q.1, q.2⟩, fun q => ⟨q.2.2.1, q.2.2.2⟩⟩
end Go.Xe.TFX
