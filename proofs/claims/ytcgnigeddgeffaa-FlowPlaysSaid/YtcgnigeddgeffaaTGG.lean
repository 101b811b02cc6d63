/- What the functions of the layer flow come to: truths and counts, as the statements have them. Conditions: none. -/
import Derived.Test.YtcgnigeddgeffaaTGF
-- MOD TF
namespace Go.Xe.TFX
open Go Go.Xe Go.Proofs
open Nat renaming reduceLeDiff → qA, reduceSub → qB, reduceAdd → qC, reduceEqDiff → qD, reduceLT → qE
open Int renaming reduceNegSucc → qF, reduceEq → qG
open Go.Xe.Flw
set_option maxRecDepth 100000
set_option maxHeartbeats 6400000
set_option linter.unusedSimpArgs false
noncomputable def d30 : FCode := (.seq (.run (.go (.box 25 (.tmp (pth 0))) (pth 3)::
.go (.box 53 (.tmp (pth 2))) (pth 5)::
.go (.move (.con (.bool false))) (pth 6)::
[])) (.seq (.seq (.run (.go (.move (.con (.int .i64 (.ofNat 0)))) (pth 7)::
[])) (.block 0 (.loop (.seq (.seq (.run (.go (.move (.tmp (pth 7))) (pth 10)::
.go (.fieldAddr 0 (.tmp (pth 3))) (pth 11)::
.go (.load1 (.tmp (pth 11))) (pth 12)::
.go (.len 0 (.tmp (pth 12))) (pth 13)::
.go (.bin .lss 3 (.tmp (pth 10)) (.tmp (pth 13))) (pth 14)::
[])) (.cond (.tmp (pth 14)) .skip (.exit 0))) (.seq (.block 1 (.seq (.run (.go (.move (.con (.int .i64 (.ofNat 0)))) (pth 8)::
[])) (.block 2 (.loop (.seq (.seq (.run (.go (.move (.tmp (pth 8))) (pth 17)::
.go (.loadN 4 (.tmp (pth 3))) (pth 18)::
.go (.call (.con (.func (.func 34) ⟨[]⟩ ⟨[]⟩)) [(.tmp (pth 18))]) (pth 19)::
.go (.bin .lss 3 (.tmp (pth 17)) (.tmp (pth 19))) (pth 20)::
[])) (.cond (.tmp (pth 20)) .skip (.exit 2))) (.seq (.block 3 (.seq (.run (.go (.fieldAddr 0 (.tmp (pth 3))) (pth 23)::
.go (.load1 (.tmp (pth 23))) (pth 24)::
.go (.move (.tmp (pth 7))) (pth 25)::
.go (.indexAddr none 1 (.tmp (pth 24)) (.tmp (pth 25))) (pth 26)::
.go (.load1 (.tmp (pth 26))) (pth 27)::
.go (.move (.tmp (pth 8))) (pth 28)::
.go (.indexAddr none 2 (.tmp (pth 27)) (.tmp (pth 28))) (pth 29)::
.go (.loadN 2 (.tmp (pth 29))) (pth 30)::
.go (.alloc 62 [(.int .i64 (.ofNat 0)),(.int .i64 (.ofNat 0))]) (pth 9)::
.un (.store 2 (.tmp (pth 9)) (.tmp (pth 30)))::
[])) (.seq (.draw 21 (.go (.move (.tmp (pth 7))) (pth 31)::
.go (.move (.tmp (pth 8))) (pth 32)::
.go (.indexAddr (some 4) 4 (.tmp (pth 5)) (.tmp (pth 31))) (pth 33)::
.go (.indexAddr (some 4) 1 (.tmp (pth 33)) (.tmp (pth 32))) (pth 34)::
.go (.load1 (.tmp (pth 34))) (pth 35)::
.go (.un .not (.tmp (pth 35))) (pth 36)::
.go (.move (.tmp (pth 36))) (pth 37)::
.gd (pth 37) true (.move (.tmp (pth 1))) (pth 38)::
.gd (pth 37) true (.move (.tmp (pth 7))) (pth 39)::
.gd (pth 37) true (.indexAddr none 1 (.tmp (pth 38)) (.tmp (pth 39))) (pth 40)::
.gd (pth 37) true (.load1 (.tmp (pth 40))) (pth 41)::
.gd (pth 37) true (.move (.tmp (pth 8))) (pth 42)::
.gd (pth 37) true (.indexAddr none 1 (.tmp (pth 41)) (.tmp (pth 42))) (pth 43)::
.gd (pth 37) true (.load1 (.tmp (pth 43))) (pth 44)::
.gd (pth 37) true (.fieldAddr 0 (.tmp (pth 9))) (pth 45)::
.gd (pth 37) true (.load1 (.tmp (pth 45))) (pth 46)::
.gd (pth 37) true (.fieldAddr 1 (.tmp (pth 9))) (pth 47)::
.gd (pth 37) true (.load1 (.tmp (pth 47))) (pth 48)::
.gd (pth 37) true (.call (.con (.func (.func 41) ⟨[]⟩ ⟨[]⟩)) [(.tmp (pth 44)),(.tmp (pth 46)),(.tmp (pth 48))]) (pth 49)::
.gd (pth 37) true (.un .not (.tmp (pth 49))) (pth 50)::
.go (.pick (.tmp (pth 37)) (.tmp (pth 50)) (.con (.bool false))) (pth 51)::
[]) [.ok,.ok,.ok,.ok,.ok,.ok,.ok,.ok,.ok,.ok,.ok,.ok,.ok,.ok,.ok,.ok,.ok,.ok,.ok,.ok,.ok]) (.cond (.tmp (pth 51)) (.seq (.run (.go (.move (.con (.bool false))) (pth 6)::
[])) .ret) .skip)))) (.run (.go (.move (.tmp (pth 8))) (pth 21)::
.go (.bin .add 3 (.tmp (pth 21)) (.con (.int .i64 (.ofNat 1)))) (pth 22)::
.go (.move (.tmp (pth 22))) (pth 8)::
[])))))))) (.run (.go (.move (.tmp (pth 7))) (pth 15)::
.go (.bin .add 3 (.tmp (pth 15)) (.con (.int .i64 (.ofNat 1)))) (pth 16)::
.go (.move (.tmp (pth 16))) (pth 7)::
[]))))))) (.seq (.run (.go (.move (.con (.bool true))) (pth 6)::
[])) .ret)))
theorem de30 : @compF Try.prog (Gl.none Try.prog) Try.f30 3 = .mk d30 (mkTT 52) [(pth 0),(pth 1),(pth 2)] [.tmp (pth 6)] := by kernel_rfl
theorem dg30 : Try.prog.funcs[30]? = some Try.f30 := Try.func30
theorem do30 : okF Try.prog Try.f30 = true := by kernel_rfl
def off16 : List Value := [.bool false, .bool false, .bool false, .bool false, .bool false, .bool false, .bool false, .bool false, .bool false, .bool false, .bool false, .bool false, .bool false, .bool false, .bool false, .bool false]
theorem off_get {j : Nat} (h : j < 16) : off16[j]? = some (.bool false) := by
  have e : off16 = List.replicate 16 (.bool false) := rfl
  rw [e, List.getElem?_replicate, if_pos h]
theorem idx_arr4 {len o i k : Nat} {kd : IntKind} (h : k < len) : yindexAddr (some len) 4 (.pointer (some ⟨i, o, none⟩)) (.int kd (k : Int)) = some (.pointer (some ⟨i, o + k * 4, none⟩)) := by
  simp only [yindexAddr]
  rw [if_pos ⟨by omega, by omega⟩]
  simp
theorem f30_ok {H : Heap} {c b r n v : Value} {T : Tb} {S : List (List Int)} (h : TV H c b r n T) (hS : Nest RI H v S) (hft : fit T) (hv : val T) (hl2 : S.length = T.C.length) (hr : ∀ row ∈ S, row.length = grp T) : Gives Try.prog 30 [.agg ⟨[c, b, r, n]⟩, v, .agg ⟨off16⟩] H (.bool (decide (ags T.C S))) := by
  have hlc := h.c.len
  obtain ⟨t1, t2⟩ := hft
  refine F.entryL rfl dg30 do30 de30 rfl (by kernel_rfl) ?_
  simp only [sets]
  refine V.re [(0, .agg ⟨[c, b, r, n]⟩), (1, v), (2, .agg ⟨off16⟩)] (N := 52) (by intro i; simp only [full_st, Full.mk]) (by simp only [Kn, gt_st, full_st, Full.mk, ↓reduceIte, qD, qE, decide_true, and_self]) ?_
  intro t hF hA
  simp only [Kn, and_true] at hA
  (repeat first|apply V.seq|apply V.block|apply V.scope|apply V.skip|apply V.close)
  refine V.line' (by simp +contextual (disch := first|omega|simp only [nx];omega) only [D4,qF,qG,qA,qB,qC,D5,hF,hA,↓reduceIte,qD,qE]; with_reducible rfl) ?_
  refine V.heap (fun X => Grow H X ∧ Bx X H.next [c, b, r, n] 25 ∧ Bx X (H.next + 1) off16 53) ⟨?_, ?_, ?_⟩ ?_
  · (repeat first | assumption | exact Grow.refl _ | refine Grow.alloc ?_ _ | refine Grow.set ?_ (by first|omega|simp only [nx];omega) _)
  · (repeat first | assumption | exact Bx.new _ _ _ | exact Bx.newAt (by first|omega|simp only [nx];omega) | refine Bx.put (by first|omega|simp only [nx];omega) _ _ | refine Bx.alloc ?_ _ | refine Bx.set ?_ (by first|omega|simp only [nx];omega) _)
  · (repeat first | assumption | exact Bx.new _ _ _ | exact Bx.newAt (by first|omega|simp only [nx];omega) | refine Bx.put (by first|omega|simp only [nx];omega) _ _ | refine Bx.alloc ?_ _ | refine Bx.set ?_ (by first|omega|simp only [nx];omega) _)
  rintro H1 ⟨g1, b1, c1⟩
  (repeat first|apply V.seq|apply V.block|apply V.scope|apply V.skip|apply V.close)
  refine V.line' (by simp +contextual (disch := first|omega|simp only [nx];omega) only [D4,qF,qG,qA,qB,qC,D5,hF,hA,↓reduceIte,qD,qE]; with_reducible rfl) ?_
  (repeat first|apply V.seq|apply V.block|apply V.scope|apply V.skip|apply V.close)
  refine V.loop (fun z t m X => ∃ (k : Nat), k ≤ T.C.length ∧ z = T.C.length - k ∧ m = [] ∧ Grow H1 X ∧ (∀ p ∈ (T.C.zip S).take k, alI p.1 p.2) ∧ Full 52 t ∧ Kn [(1, v), (3, .pointer (some ⟨H.next, 0, none⟩)), (5, .pointer (some ⟨H.next + 1, 0, none⟩)), (7, I k)] t) T.C.length ?_ ?_
  · exact ⟨0, by omega, by omega, rfl, .refl _, by simp, (by intro i; simp only [full_st, hF]), (by simp only [Kn, D5,hF,hA,↓reduceIte,qD,qE, and_self, and_true, true_and]; try (repeat' constructor))⟩
  clear hF hA
  rintro z t m X ⟨k, hk, rfl, rfl, hg, hall, hF, hA⟩
  simp only [Kn, and_true] at hA
  have bx := b1.grow hg
  have cx := c1.grow hg
  have gX := g1.trans hg
  (repeat first|apply V.seq|apply V.block|apply V.scope|apply V.skip|apply V.close)
  refine V.line' (by simp +contextual (disch := first|omega|simp only [nx];omega) only [D4,qF,qG,qA,qB,qC,D5,hF,hA,↓reduceIte,qD,qE, bx.2, hlc]; with_reducible rfl) ?_
  (repeat first|apply V.seq|apply V.block|apply V.scope|apply V.skip|apply V.close)
  refine V.condP (by simp only [D6,D5,hF,hA,↓reduceIte,qD,qE]; rfl) (fun hlt => ?_) (fun hlt => ?_)
  · have hlt' : k < T.C.length := by omega
    have hlt2 : k < S.length := by omega
    have hlz : k < (T.C.zip S).length := by rw [List.length_zip]; omega
    have hz : (T.C.zip S)[k] = (T.C[k], S[k]) := List.getElem_zip ..
    obtain ⟨p, x, hp, hx⟩ := h.c.at rp hlt'
    have hpk := hp .i64
    obtain ⟨q, y, hq, hy⟩ := hS.at ri hlt2
    have hqk := hq .i64
    have e1 : (T.C[k]).length = grp T := (hv.2.2.2.2.1 _ (List.getElem_mem hlt')).1
    have e2 : (S[k]).length = grp T := hr _ (List.getElem_mem hlt2)
    (repeat first|apply V.seq|apply V.block|apply V.scope|apply V.skip|apply V.close)
    refine V.line' (by simp +contextual (disch := first|omega|simp only [nx];omega) only [D4,qF,qG,qA,qB,qC,D5,hF,hA,↓reduceIte,qD,qE]; with_reducible rfl) ?_
    (repeat first|apply V.seq|apply V.block|apply V.scope|apply V.skip|apply V.close)
    refine V.re [(1, v), (3, .pointer (some ⟨H.next, 0, none⟩)), (5, .pointer (some ⟨H.next + 1, 0, none⟩)), (7, I k), (8, I 0)] (N := 52) (by intro i; simp only [full_st, hF]) (by simp only [Kn, D5,hF,hA,↓reduceIte,qD,qE, and_self, and_true, true_and]; try (repeat' constructor)) ?_
    clear hF hA
    intro t hF hA
    simp only [Kn, and_true] at hA
    refine V.loop (fun z t m Y => ∃ (g : Nat), g ≤ grp T ∧ z = grp T - g ∧ m = [] ∧ Grow H1 Y ∧ (∀ p ∈ ((T.C[k]).zip S[k]).take g, p.1.1 ≤ p.2 ∧ p.2 ≤ p.1.2) ∧ Full 52 t ∧ Kn [(1, v), (3, .pointer (some ⟨H.next, 0, none⟩)), (5, .pointer (some ⟨H.next + 1, 0, none⟩)), (7, I k), (8, I g)] t) (grp T) ?_ ?_
    · exact ⟨0, by omega, by omega, rfl, hg, by simp, (by intro i; simp only [full_st, hF]), (by simp only [Kn, D5,hF,hA,↓reduceIte,qD,qE, and_self, and_true, true_and]; try (repeat' constructor))⟩
    clear hF hA
    rintro z t m Y ⟨g, hgg, rfl, rfl, hgy, hally, hF, hA⟩
    simp only [Kn, and_true] at hA
    have by' := b1.grow hgy
    have cy := c1.grow hgy
    have gY := g1.trans hgy
    (repeat first|apply V.seq|apply V.block|apply V.scope|apply V.skip|apply V.close)
    refine V.run ?_
    refine VI.steps' 2 (by simp +contextual (disch := first|omega|simp only [nx];omega) only [D4,qF,qG,qA,qB,qC,D5,hF,hA,↓reduceIte,qD,qE, by'.2]; with_reducible rfl) ?_
    simp only [ds]
    refine VI.callA rfl (f34_ok (h.grow gY)) (by simp only [D6,D5,hF,hA,↓reduceIte,qD,qE]; try rfl) (fun Y1 gy1 => ?_)
    have by1 := by'.grow gy1
    have cy1 := cy.grow gy1
    have gY1 := gY.trans gy1
    refine VI.line' (by simp +contextual (disch := first|omega|simp only [nx];omega) only [D4,qF,qG,qA,qB,qC,D5,hF,hA,↓reduceIte,qD,qE]; with_reducible rfl) ?_
    (repeat first|apply V.seq|apply V.block|apply V.scope|apply V.skip|apply V.close)
    refine V.condP (by simp only [D6,D5,hF,hA,↓reduceIte,qD,qE]; rfl) (fun hlg => ?_) (fun hlg => ?_)
    · have hlg' : g < grp T := by omega
      have hg1 : g < (T.C[k]).length := by omega
      have hg2 : g < (S[k]).length := by omega
      have hlz2 : g < ((T.C[k]).zip S[k]).length := by rw [List.length_zip]; omega
      have hz2 : ((T.C[k]).zip S[k])[g] = ((T.C[k])[g], (S[k])[g]) := List.getElem_zip ..
      obtain ⟨hx1, hx2⟩ := hx _ gY1
      obtain ⟨hy1, hy2⟩ := hy _ gY1
      obtain ⟨i, o, hp2, hxx⟩ := hx2.at hg1
      obtain ⟨hx3, _, _⟩ := hxx Y1 (.refl _)
      obtain ⟨u, hu, huu⟩ := hy2.at hg2
      (repeat first|apply V.seq|apply V.block|apply V.scope|apply V.skip|apply V.close)
      refine V.line' (by simp +contextual (disch := first|omega|simp only [nx];omega) only [D4,qF,qG,qA,qB,qC,D5,hF,hA,↓reduceIte,qD,qE, by1.2, hpk, hx1, hp2, hx3]; with_reducible rfl) ?_
      refine V.heap (fun Z => Grow Y1 Z ∧ Bx Z Y1.next (A2 (T.C[k])[g].1 (T.C[k])[g].2) 62) ⟨?_, ?_⟩ ?_
      · (repeat first | assumption | exact Grow.refl _ | refine Grow.alloc ?_ _ | refine Grow.set ?_ (by first|omega|simp only [nx];omega) _)
      · (repeat first | assumption | exact Bx.new _ _ _ | exact Bx.newAt (by first|omega|simp only [nx];omega) | refine Bx.put (by first|omega|simp only [nx];omega) _ _ | refine Bx.alloc ?_ _ | refine Bx.set ?_ (by first|omega|simp only [nx];omega) _)
      rintro Z ⟨gz, dz⟩
      have cz := cy1.grow gz
      have gZ := gY1.trans gz
      obtain ⟨hy3, _⟩ := hy _ gZ
      have hu3 := huu _ gz
      have hi1 := idx_arr4 (len := 4) (o := 0) (i := H.next + 1) (k := k) (kd := .i64) (by omega)
      have hi2 := idx_arr (len := 4) (o := 0 + k * 4) (i := H.next + 1) (k := g) (kd := .i64) (by omega)
      rw [Nat.zero_add] at hi1 hi2
      have hof := off_get (j := k * 4 + g) (by omega)
      (repeat first|apply V.seq|apply V.block|apply V.scope|apply V.skip|apply V.close)
      refine V.draw ?_
      refine VD.dins 9 (by simp +contextual (disch := first|omega|simp only [nx];omega) only [D4,qF,qG,qA,qB,qC,D5,hF,hA,↓reduceIte,qD,qE, hi1, hi2, cz.2, hof, hqk, hy3, hu, hu3, dz.2]; with_reducible rfl) ?_
      simp only [ds]
      refine VD.dins 9 (by simp +contextual (disch := first|omega|simp only [nx];omega) only [D4,qF,qG,qA,qB,qC,D5,hF,hA,↓reduceIte,qD,qE, hi1, hi2, cz.2, hof, hqk, hy3, hu, hu3, dz.2]; with_reducible rfl) ?_
      simp only [ds]
      refine VD.callAT (by simp only [D5,hF,hA,↓reduceIte,qD,qE]; try rfl) (by simp only [D6,D5,hF,hA,↓reduceIte,qD,qE]; try rfl) (f41_ok (S[k])[g] (T.C[k])[g].1 (T.C[k])[g].2 Z) (by simp only [D6,D5,hF,hA,↓reduceIte,qD,qE]; try rfl) (fun Z1 gz1 => ?_)
      refine VD.lineD' (by simp +contextual (disch := first|omega|simp only [nx];omega) only [D4,qF,qG,qA,qB,qC,D5,hF,hA,↓reduceIte,qD,qE]; with_reducible rfl) ?_ ?_ rfl ?_
      · have m1 := gz1.1
        simp only [monoG, List.cons_append, List.nil_append, Heap.next_set, Heap.next_alloc, Nat.le_refl, true_and, and_true] <;> omega
      · simp only [dcAll, dcOk, wantD, List.cons_append, List.nil_append, true_and, and_true]
      (repeat first|apply V.seq|apply V.block|apply V.scope|apply V.skip|apply V.close)
      refine V.condP (by simp only [D6,D5,hF,hA,↓reduceIte,qD,qE]; rfl) (fun hw => ?_) (fun hw => ?_)
      · (repeat first|apply V.seq|apply V.block|apply V.scope|apply V.skip|apply V.close)
        refine V.line' (by simp +contextual (disch := first|omega|simp only [nx];omega) only [D4,qF,qG,qA,qB,qC,D5,hF,hA,↓reduceIte,qD,qE]; with_reducible rfl) ?_
        (repeat first|apply V.seq|apply V.block|apply V.scope|apply V.skip|apply V.close)
        refine V.ret (V.rets rfl (Or.inr ⟨by simp, V.rets rfl (Or.inr ⟨by simp, V.rets rfl (Lv.retG (by simp +contextual (disch := first|omega|simp only [nx];omega) only [D1, cells_alloc_at, cells_alloc_ne, cells_set_at, cells_set_ne, yres, yres1, yresL, qA, qB, qC, D5,hF,hA,↓reduceIte,qD,qE]; rfl) ?_ ?_)⟩)⟩))
        · exact gZ.trans gz1
        · congr 1
          exact (decide_eq_false (fun hh => hw (by have := hh _ (List.getElem_mem hlz); rw [hz] at this; have := this.2 _ (List.getElem_mem hlz2); rw [hz2] at this; exact this))).symm
      · (repeat first|apply V.seq|apply V.block|apply V.scope|apply V.skip|apply V.close)
        refine V.line' (by simp +contextual (disch := first|omega|simp only [nx];omega) only [D4,qF,qG,qA,qB,qC,D5,hF,hA,↓reduceIte,qD,qE]; with_reducible rfl) ?_
        refine V.nil (Or.inl ⟨rfl, grp T - (g + 1), by omega, ?_⟩)
        refine ⟨g + 1, by omega, rfl, rfl, hgy.trans ((gy1.trans gz).trans gz1), ?_, (by intro i; simp only [full_st, hF]), (by simp only [Kn, D5,hF,hA,↓reduceIte,qD,qE, and_self, and_true, true_and]; try (repeat' constructor))⟩
        intro p hp
        rw [tk1 hlz2] at hp
        rcases List.mem_append.1 hp with hp | hp
        · exact hally p hp
        · rw [List.mem_singleton.1 hp, hz2]; exact Decidable.not_not.1 hw
    · refine V.exit ?_
      (repeat first | refine V.pass ?_ | refine V.here ?_ | refine V.out (by decide) ?_)
      refine V.nil (Or.inr ⟨by simp, ?_⟩)
      (repeat first | refine V.pass ?_ | refine V.here ?_ | refine V.out (by decide) ?_)
      (repeat first|apply V.seq|apply V.block|apply V.scope|apply V.skip|apply V.close)
      refine V.line' (by simp +contextual (disch := first|omega|simp only [nx];omega) only [D4,qF,qG,qA,qB,qC,D5,hF,hA,↓reduceIte,qD,qE]; with_reducible rfl) ?_
      refine V.nil (Or.inl ⟨rfl, T.C.length - (k + 1), by omega, ?_⟩)
      refine ⟨k + 1, by omega, rfl, rfl, hgy.trans gy1, ?_, (by intro i; simp only [full_st, hF]), (by simp only [Kn, D5,hF,hA,↓reduceIte,qD,qE, and_self, and_true, true_and]; try (repeat' constructor))⟩
      intro p hp
      rw [tk1 hlz] at hp
      rcases List.mem_append.1 hp with hp | hp
      · exact hall p hp
      · rw [List.mem_singleton.1 hp, hz]
        rw [List.take_of_length_le (by rw [List.length_zip]; omega)] at hally
        exact ⟨by rw [e1, e2], hally⟩
  · refine V.exit ?_
    (repeat first | refine V.pass ?_ | refine V.here ?_ | refine V.out (by decide) ?_)
    refine V.nil (Or.inr ⟨by simp, ?_⟩)
    (repeat first | refine V.pass ?_ | refine V.here ?_ | refine V.out (by decide) ?_)
    have e : (T.C.zip S).take k = T.C.zip S := List.take_of_length_le (by rw [List.length_zip]; omega)
    rw [e] at hall
    (repeat first|apply V.seq|apply V.block|apply V.scope|apply V.skip|apply V.close)
    refine V.line' (by simp +contextual (disch := first|omega|simp only [nx];omega) only [D4,qF,qG,qA,qB,qC,D5,hF,hA,↓reduceIte,qD,qE]; with_reducible rfl) ?_
    (repeat first|apply V.seq|apply V.block|apply V.scope|apply V.skip|apply V.close)
    refine V.ret (V.rets rfl (Lv.retG (by simp +contextual (disch := first|omega|simp only [nx];omega) only [D1, cells_alloc_at, cells_alloc_ne, cells_set_at, cells_set_ne, yres, yres1, yresL, qA, qB, qC, D5,hF,hA,↓reduceIte,qD,qE]; rfl) ?_ ?_))
    · exact gX
    · rw [decide_eq_true (show ags T.C S from hall)]
end Go.Xe.TFX
