/- What the functions of the layer flow come to: lists that are compared. Conditions: none. -/
import Derived.Test.YtcgnigeddgeffaaTGE
-- MOD TF
namespace Go.Xe.TFX
open Go Go.Xe Go.Proofs
open Nat renaming reduceLeDiff → qA, reduceSub → qB, reduceAdd → qC, reduceEqDiff → qD, reduceLT → qE
open Int renaming reduceNegSucc → qF, reduceEq → qG
open Go.Xe.Flw
set_option maxRecDepth 100000
set_option maxHeartbeats 3200000
set_option linter.unusedSimpArgs false
noncomputable def d19 : FCode := (.seq (.run (.go (.box 29 (.tmp (pth 0))) (pth 1)::
.go (.move (.con (.bool false))) (pth 2)::
[])) (.seq (.seq (.run (.go (.move (.con (.int .i64 (.ofNat 0)))) (pth 3)::
[])) (.block 0 (.loop (.seq (.seq (.run (.go (.move (.tmp (pth 3))) (pth 5)::
.go (.fieldAddr 2 (.tmp (pth 1))) (pth 6)::
.go (.load1 (.tmp (pth 6))) (pth 7)::
.go (.len 0 (.tmp (pth 7))) (pth 8)::
.go (.bin .lss 3 (.tmp (pth 5)) (.tmp (pth 8))) (pth 9)::
.go (.move (.tmp (pth 9))) (pth 10)::
.gd (pth 10) true (.move (.tmp (pth 3))) (pth 11)::
.gd (pth 10) true (.bin .lss 3 (.tmp (pth 11)) (.con (.int .i64 (.ofNat 8)))) (pth 12)::
.go (.pick (.tmp (pth 10)) (.tmp (pth 12)) (.con (.bool false))) (pth 13)::
[])) (.cond (.tmp (pth 13)) .skip (.exit 0))) (.seq (.block 1 (.seq (.run (.go (.fieldAddr 2 (.tmp (pth 1))) (pth 16)::
.go (.load1 (.tmp (pth 16))) (pth 17)::
.go (.move (.tmp (pth 3))) (pth 18)::
.go (.indexAddr none 1 (.tmp (pth 17)) (.tmp (pth 18))) (pth 19)::
.go (.load1 (.tmp (pth 19))) (pth 20)::
.go (.len 0 (.tmp (pth 20))) (pth 21)::
.go (.bin .gtr 3 (.tmp (pth 21)) (.con (.int .i64 (.ofNat 7)))) (pth 22)::
[])) (.cond (.tmp (pth 22)) (.seq (.run (.go (.move (.con (.bool false))) (pth 2)::
[])) .ret) .skip))) (.run (.go (.move (.tmp (pth 3))) (pth 14)::
.go (.bin .add 3 (.tmp (pth 14)) (.con (.int .i64 (.ofNat 1)))) (pth 15)::
.go (.move (.tmp (pth 15))) (pth 3)::
[]))))))) (.seq (.seq (.run (.go (.move (.con (.int .i64 (.ofNat 0)))) (pth 4)::
[])) (.block 2 (.loop (.seq (.seq (.run (.go (.move (.tmp (pth 4))) (pth 23)::
.go (.fieldAddr 3 (.tmp (pth 1))) (pth 24)::
.go (.load1 (.tmp (pth 24))) (pth 25)::
.go (.len 0 (.tmp (pth 25))) (pth 26)::
.go (.bin .lss 3 (.tmp (pth 23)) (.tmp (pth 26))) (pth 27)::
.go (.move (.tmp (pth 27))) (pth 28)::
.gd (pth 28) true (.move (.tmp (pth 4))) (pth 29)::
.gd (pth 28) true (.bin .lss 3 (.tmp (pth 29)) (.con (.int .i64 (.ofNat 8)))) (pth 30)::
.go (.pick (.tmp (pth 28)) (.tmp (pth 30)) (.con (.bool false))) (pth 31)::
[])) (.cond (.tmp (pth 31)) .skip (.exit 2))) (.seq (.block 3 (.seq (.run (.go (.fieldAddr 3 (.tmp (pth 1))) (pth 34)::
.go (.load1 (.tmp (pth 34))) (pth 35)::
.go (.move (.tmp (pth 4))) (pth 36)::
.go (.indexAddr none 1 (.tmp (pth 35)) (.tmp (pth 36))) (pth 37)::
.go (.load1 (.tmp (pth 37))) (pth 38)::
.go (.len 0 (.tmp (pth 38))) (pth 39)::
.go (.bin .gtr 3 (.tmp (pth 39)) (.con (.int .i64 (.ofNat 7)))) (pth 40)::
[])) (.cond (.tmp (pth 40)) (.seq (.run (.go (.move (.con (.bool false))) (pth 2)::
[])) .ret) .skip))) (.run (.go (.move (.tmp (pth 4))) (pth 32)::
.go (.bin .add 3 (.tmp (pth 32)) (.con (.int .i64 (.ofNat 1)))) (pth 33)::
.go (.move (.tmp (pth 33))) (pth 4)::
[]))))))) (.seq (.run (.go (.fieldAddr 0 (.tmp (pth 1))) (pth 41)::
.go (.load1 (.tmp (pth 41))) (pth 42)::
.go (.len 0 (.tmp (pth 42))) (pth 43)::
.go (.bin .leq 3 (.tmp (pth 43)) (.con (.int .i64 (.ofNat 7)))) (pth 44)::
.go (.move (.tmp (pth 44))) (pth 45)::
.gd (pth 45) true (.fieldAddr 1 (.tmp (pth 1))) (pth 46)::
.gd (pth 45) true (.load1 (.tmp (pth 46))) (pth 47)::
.gd (pth 45) true (.len 0 (.tmp (pth 47))) (pth 48)::
.gd (pth 45) true (.bin .leq 3 (.tmp (pth 48)) (.con (.int .i64 (.ofNat 7)))) (pth 49)::
.go (.pick (.tmp (pth 45)) (.tmp (pth 49)) (.con (.bool false))) (pth 50)::
.go (.move (.tmp (pth 50))) (pth 51)::
.gd (pth 51) true (.fieldAddr 2 (.tmp (pth 1))) (pth 52)::
.gd (pth 51) true (.load1 (.tmp (pth 52))) (pth 53)::
.gd (pth 51) true (.len 0 (.tmp (pth 53))) (pth 54)::
.gd (pth 51) true (.bin .leq 3 (.tmp (pth 54)) (.con (.int .i64 (.ofNat 7)))) (pth 55)::
.go (.pick (.tmp (pth 51)) (.tmp (pth 55)) (.con (.bool false))) (pth 56)::
.go (.move (.tmp (pth 56))) (pth 57)::
.gd (pth 57) true (.fieldAddr 3 (.tmp (pth 1))) (pth 58)::
.gd (pth 57) true (.load1 (.tmp (pth 58))) (pth 59)::
.gd (pth 57) true (.len 0 (.tmp (pth 59))) (pth 60)::
.gd (pth 57) true (.bin .leq 3 (.tmp (pth 60)) (.con (.int .i64 (.ofNat 7)))) (pth 61)::
.go (.pick (.tmp (pth 57)) (.tmp (pth 61)) (.con (.bool false))) (pth 62)::
.go (.move (.tmp (pth 62))) (pth 2)::
[])) .ret))))
theorem de19 : @compF Try.prog (Gl.none Try.prog) Try.f19 1 = .mk d19 (mkTT 63) [(pth 0)] [.tmp (pth 2)] := by kernel_rfl
theorem dg19 : Try.prog.funcs[19]? = some Try.f19 := Try.func19
theorem do19 : okF Try.prog Try.f19 = true := by kernel_rfl
noncomputable def d29 : FCode := (.seq (.run (.go (.move (.con (.bool false))) (pth 4)::
[])) (.seq (.seq (.run (.go (.move (.tmp (pth 0))) (pth 7)::
.go (.len 0 (.tmp (pth 7))) (pth 8)::
.go (.move (.tmp (pth 1))) (pth 9)::
.go (.len 0 (.tmp (pth 9))) (pth 10)::
.go (.bin .neq 3 (.tmp (pth 8)) (.tmp (pth 10))) (pth 11)::
[])) (.cond (.tmp (pth 11)) (.seq (.run (.go (.move (.con (.bool false))) (pth 4)::
[])) .ret) .skip)) (.seq (.seq (.run (.go (.move (.con (.int .i64 (.ofNat 0)))) (pth 5)::
[])) (.block 0 (.loop (.seq (.seq (.run (.go (.move (.tmp (pth 5))) (pth 12)::
.go (.move (.tmp (pth 0))) (pth 13)::
.go (.len 0 (.tmp (pth 13))) (pth 14)::
.go (.bin .lss 3 (.tmp (pth 12)) (.tmp (pth 14))) (pth 15)::
[])) (.cond (.tmp (pth 15)) .skip (.exit 0))) (.seq (.block 1 (.seq (.seq (.draw 11 (.go (.move (.tmp (pth 0))) (pth 18)::
.go (.move (.tmp (pth 5))) (pth 19)::
.go (.indexAddr none 1 (.tmp (pth 18)) (.tmp (pth 19))) (pth 20)::
.go (.load1 (.tmp (pth 20))) (pth 21)::
.go (.len 0 (.tmp (pth 21))) (pth 22)::
.go (.move (.tmp (pth 1))) (pth 23)::
.go (.move (.tmp (pth 5))) (pth 24)::
.go (.indexAddr none 1 (.tmp (pth 23)) (.tmp (pth 24))) (pth 25)::
.go (.load1 (.tmp (pth 25))) (pth 26)::
.go (.len 0 (.tmp (pth 26))) (pth 27)::
.go (.bin .neq 3 (.tmp (pth 22)) (.tmp (pth 27))) (pth 28)::
[]) [.ok,.ok,.ok,.ok,.ok,.ok,.ok,.ok,.ok,.ok,.ok]) (.cond (.tmp (pth 28)) (.seq (.run (.go (.move (.con (.bool false))) (pth 4)::
[])) .ret) .skip)) (.seq (.run (.go (.move (.con (.int .i64 (.ofNat 0)))) (pth 6)::
[])) (.block 2 (.loop (.seq (.seq (.run (.go (.move (.tmp (pth 6))) (pth 29)::
.go (.move (.tmp (pth 0))) (pth 30)::
.go (.move (.tmp (pth 5))) (pth 31)::
.go (.indexAddr none 1 (.tmp (pth 30)) (.tmp (pth 31))) (pth 32)::
.go (.load1 (.tmp (pth 32))) (pth 33)::
.go (.len 0 (.tmp (pth 33))) (pth 34)::
.go (.bin .lss 3 (.tmp (pth 29)) (.tmp (pth 34))) (pth 35)::
[])) (.cond (.tmp (pth 35)) .skip (.exit 2))) (.seq (.block 3 (.seq (.draw 15 (.go (.move (.tmp (pth 0))) (pth 38)::
.go (.move (.tmp (pth 5))) (pth 39)::
.go (.indexAddr none 1 (.tmp (pth 38)) (.tmp (pth 39))) (pth 40)::
.go (.load1 (.tmp (pth 40))) (pth 41)::
.go (.move (.tmp (pth 6))) (pth 42)::
.go (.indexAddr none 1 (.tmp (pth 41)) (.tmp (pth 42))) (pth 43)::
.go (.load1 (.tmp (pth 43))) (pth 44)::
.go (.move (.tmp (pth 1))) (pth 45)::
.go (.move (.tmp (pth 5))) (pth 46)::
.go (.indexAddr none 1 (.tmp (pth 45)) (.tmp (pth 46))) (pth 47)::
.go (.load1 (.tmp (pth 47))) (pth 48)::
.go (.move (.tmp (pth 6))) (pth 49)::
.go (.indexAddr none 1 (.tmp (pth 48)) (.tmp (pth 49))) (pth 50)::
.go (.load1 (.tmp (pth 50))) (pth 51)::
.go (.bin .neq 3 (.tmp (pth 44)) (.tmp (pth 51))) (pth 52)::
[]) [.ok,.ok,.ok,.ok,.ok,.ok,.ok,.ok,.ok,.ok,.ok,.ok,.ok,.ok,.ok]) (.cond (.tmp (pth 52)) (.seq (.run (.go (.move (.con (.bool false))) (pth 4)::
[])) .ret) .skip))) (.run (.go (.move (.tmp (pth 6))) (pth 36)::
.go (.bin .add 3 (.tmp (pth 36)) (.con (.int .i64 (.ofNat 1)))) (pth 37)::
.go (.move (.tmp (pth 37))) (pth 6)::
[]))))))))) (.run (.go (.move (.tmp (pth 5))) (pth 16)::
.go (.bin .add 3 (.tmp (pth 16)) (.con (.int .i64 (.ofNat 1)))) (pth 17)::
.go (.move (.tmp (pth 17))) (pth 5)::
[]))))))) (.seq (.run (.go (.move (.con (.bool true))) (pth 4)::
[])) .ret))))
theorem de29 : @compF Try.prog (Gl.none Try.prog) Try.f29 2 = .mk d29 (mkTT 53) [(pth 0),(pth 1)] [.tmp (pth 4)] := by kernel_rfl
theorem dg29 : Try.prog.funcs[29]? = some Try.f29 := Try.func29
theorem do29 : okF Try.prog Try.f29 = true := by kernel_rfl
def small (X : Tr) : Prop := ((∀ row ∈ X.D.take 8, row.length ≤ 7) ∧ ∀ row ∈ X.M.take 8, row.length ≤ 7) ∧ X.F.length ≤ 7 ∧ X.B.length ≤ 7 ∧ X.D.length ≤ 7 ∧ X.M.length ≤ 7
instance (X : Tr) : Decidable (small X) := by unfold small; infer_instance
theorem small_sh {X : Tr} (h : small X) : shX X := by
  obtain ⟨⟨h1, h2⟩, h3, h4, h5, h6⟩ := h
  rw [List.take_of_length_le (by omega)] at h1 h2
  exact ⟨by omega, by omega, by omega, by omega, fun row hr => by have := h1 row hr; omega, fun row hr => by have := h2 row hr; omega⟩
theorem take8 {L : List (List Int)} {k : Nat} (h : k = 8 ∨ k = L.length) (hk : k ≤ 8) : L.take 8 = L.take k := by
  rcases h with e | e
  · rw [e]
  · rw [e, List.take_length, List.take_of_length_le (by omega)]
theorem f19_ok {H : Heap} {f e d o : Value} {X : Tr} (hx : XV H f e d o X) : Gives Try.prog 19 [.agg ⟨[f, e, d, o]⟩] H (.bool (decide (small X))) := by
  have hlf : ∀ Z, ylen 0 Z f = some (I X.F.length) := hx.f.len
  have hle : ∀ Z, ylen 0 Z e = some (I X.B.length) := hx.b.len
  have hld' : ∀ Z, ylen 0 Z d = some (I X.D.length) := hx.d.len
  have hlm : ∀ Z, ylen 0 Z o = some (I X.M.length) := hx.m.len
  refine F.entryL rfl dg19 do19 de19 rfl (by kernel_rfl) ?_
  simp only [sets]
  refine V.re [(0, .agg ⟨[f, e, d, o]⟩)] (N := 63) (by intro i; simp only [full_st, Full.mk]) (by simp only [Kn, gt_st, full_st, Full.mk, ↓reduceIte, qD, qE, decide_true, and_self]) ?_
  intro t hF hA
  simp only [Kn, and_true] at hA
  (repeat first|apply V.seq|apply V.block|apply V.scope|apply V.skip|apply V.close)
  refine V.line' (by simp +contextual (disch := first|omega|simp only [nx];omega) only [D4,qF,qG,qA,qB,qC,D5,hF,hA,↓reduceIte,qD,qE]; with_reducible rfl) ?_
  refine V.heap (fun X => Grow H X ∧ Bx X H.next [f, e, d, o] 29) ⟨?_, ?_⟩ ?_
  · (repeat first | assumption | exact Grow.refl _ | refine Grow.alloc ?_ _ | refine Grow.set ?_ (by first|omega|simp only [nx];omega) _)
  · (repeat first | assumption | exact Bx.new _ _ _ | exact Bx.newAt (by first|omega|simp only [nx];omega) | refine Bx.put (by first|omega|simp only [nx];omega) _ _ | refine Bx.alloc ?_ _ | refine Bx.set ?_ (by first|omega|simp only [nx];omega) _)
  rintro H1 ⟨g1, b1⟩
  (repeat first|apply V.seq|apply V.block|apply V.scope|apply V.skip|apply V.close)
  refine V.line' (by simp +contextual (disch := first|omega|simp only [nx];omega) only [D4,qF,qG,qA,qB,qC,D5,hF,hA,↓reduceIte,qD,qE]; with_reducible rfl) ?_
  (repeat first|apply V.seq|apply V.block|apply V.scope|apply V.skip|apply V.close)
  refine V.loop (fun z t m Z => ∃ (k : Nat), k ≤ X.D.length ∧ k ≤ 8 ∧ z = 8 - k ∧ m = [] ∧ Grow H1 Z ∧ (∀ row ∈ X.D.take k, row.length ≤ 7) ∧ Full 63 t ∧ Kn [(1, .pointer (some ⟨H.next, 0, none⟩)), (3, I k)] t) 8 ?_ ?_
  · exact ⟨0, by omega, by omega, by omega, rfl, .refl _, by simp, (by intro i; simp only [full_st, hF]), (by simp only [Kn, D5,hF,hA,↓reduceIte,qD,qE, and_self, and_true, true_and]; try (repeat' constructor))⟩
  clear hF hA
  rintro z t m Z ⟨k, hk, hk8, rfl, rfl, hg, hall, hF, hA⟩
  simp only [Kn, and_true] at hA
  have bx := b1.grow hg
  (repeat first|apply V.seq|apply V.block|apply V.scope|apply V.skip|apply V.close)
  refine V.line' (by simp +contextual (disch := first|omega|simp only [nx];omega) only [D4,qF,qG,qA,qB,qC,D5,hF,hA,↓reduceIte,qD,qE, bx.2, hld']; with_reducible rfl) ?_
  (repeat first|apply V.seq|apply V.block|apply V.scope|apply V.skip|apply V.close)
  refine V.condP (by simp only [D6,D5,hF,hA,↓reduceIte,qD,qE]; rfl) (fun hlt => ?_) (fun hlt => ?_)
  · have hlt' : k < X.D.length ∧ k < 8 := by omega
    obtain ⟨p, x, hp, hx2⟩ := hx.d.at ri hlt'.1
    obtain ⟨hx1, hx2⟩ := hx2 _ (g1.trans hg)
    have hpk := hp .i64
    have hxl := hx2.len
    (repeat first|apply V.seq|apply V.block|apply V.scope|apply V.skip|apply V.close)
    refine V.line' (by simp +contextual (disch := first|omega|simp only [nx];omega) only [D4,qF,qG,qA,qB,qC,D5,hF,hA,↓reduceIte,qD,qE, bx.2, hpk, hx1, hxl]; with_reducible rfl) ?_
    (repeat first|apply V.seq|apply V.block|apply V.scope|apply V.skip|apply V.close)
    refine V.condP (by simp only [D6,D5,hF,hA,↓reduceIte,qD,qE]; rfl) (fun h7 => ?_) (fun h7 => ?_)
    · (repeat first|apply V.seq|apply V.block|apply V.scope|apply V.skip|apply V.close)
      refine V.line' (by simp +contextual (disch := first|omega|simp only [nx];omega) only [D4,qF,qG,qA,qB,qC,D5,hF,hA,↓reduceIte,qD,qE]; with_reducible rfl) ?_
      (repeat first|apply V.seq|apply V.block|apply V.scope|apply V.skip|apply V.close)
      refine V.ret (V.rets rfl (Or.inr ⟨by simp, V.rets rfl (Lv.retG (by simp +contextual (disch := first|omega|simp only [nx];omega) only [D1, cells_alloc_at, cells_alloc_ne, cells_set_at, cells_set_ne, yres, yres1, yresL, qA, qB, qC, D5,hF,hA,↓reduceIte,qD,qE]; rfl) ?_ ?_)⟩))
      · exact g1.trans hg
      · congr 1
        symm
        refine decide_eq_false (fun hh => ?_)
        have := hh.1.1 X.D[k] (List.mem_take_iff_getElem.2 ⟨k, by omega, rfl⟩)
        omega
    · (repeat first|apply V.seq|apply V.block|apply V.scope|apply V.skip|apply V.close)
      refine V.line' (by simp +contextual (disch := first|omega|simp only [nx];omega) only [D4,qF,qG,qA,qB,qC,D5,hF,hA,↓reduceIte,qD,qE]; with_reducible rfl) ?_
      refine V.nil (Or.inl ⟨rfl, 8 - (k + 1), by omega, ?_⟩)
      refine ⟨k + 1, by omega, by omega, rfl, rfl, hg, ?_, (by intro i; simp only [full_st, hF]), (by simp only [Kn, D5,hF,hA,↓reduceIte,qD,qE, and_self, and_true, true_and]; try (repeat' constructor))⟩
      intro row hr
      rw [tk1 hlt'.1] at hr
      rcases List.mem_append.1 hr with hr | hr
      · exact hall row hr
      · rw [List.mem_singleton.1 hr]; omega
  refine V.exit ?_
  (repeat first | refine V.pass ?_ | refine V.here ?_ | refine V.out (by decide) ?_)
  refine V.nil (Or.inr ⟨by simp, ?_⟩)
  (repeat first | refine V.pass ?_ | refine V.here ?_ | refine V.out (by decide) ?_)
  have hDe := take8 (L := X.D) (k := k) (by omega) hk8
  rw [← hDe] at hall
  (repeat first|apply V.seq|apply V.block|apply V.scope|apply V.skip|apply V.close)
  refine V.line' (by simp +contextual (disch := first|omega|simp only [nx];omega) only [D4,qF,qG,qA,qB,qC,D5,hF,hA,↓reduceIte,qD,qE]; with_reducible rfl) ?_
  (repeat first|apply V.seq|apply V.block|apply V.scope|apply V.skip|apply V.close)
  refine V.re [(1, .pointer (some ⟨H.next, 0, none⟩)), (4, I 0)] (N := 63) (by intro i; simp only [full_st, hF]) (by simp only [Kn, D5,hF,hA,↓reduceIte,qD,qE, and_self, and_true, true_and]; try (repeat' constructor)) ?_
  clear hF hA
  intro t hF hA
  simp only [Kn, and_true] at hA
  refine V.loop (fun z t m Z => ∃ (k : Nat), k ≤ X.M.length ∧ k ≤ 8 ∧ z = 8 - k ∧ m = [] ∧ Grow H1 Z ∧ (∀ row ∈ X.M.take k, row.length ≤ 7) ∧ Full 63 t ∧ Kn [(1, .pointer (some ⟨H.next, 0, none⟩)), (4, I k)] t) 8 ?_ ?_
  · exact ⟨0, by omega, by omega, by omega, rfl, hg, by simp, (by intro i; simp only [full_st, hF]), (by simp only [Kn, D5,hF,hA,↓reduceIte,qD,qE, and_self, and_true, true_and]; try (repeat' constructor))⟩
  clear hF hA
  rintro z t m Z2 ⟨k2, hk2, hk82, rfl, rfl, hg2, hall2, hF, hA⟩
  simp only [Kn, and_true] at hA
  have bx2 := b1.grow hg2
  (repeat first|apply V.seq|apply V.block|apply V.scope|apply V.skip|apply V.close)
  refine V.line' (by simp +contextual (disch := first|omega|simp only [nx];omega) only [D4,qF,qG,qA,qB,qC,D5,hF,hA,↓reduceIte,qD,qE, bx2.2, hlm]; with_reducible rfl) ?_
  (repeat first|apply V.seq|apply V.block|apply V.scope|apply V.skip|apply V.close)
  refine V.condP (by simp only [D6,D5,hF,hA,↓reduceIte,qD,qE]; rfl) (fun hlt => ?_) (fun hlt => ?_)
  · have hlt' : k2 < X.M.length ∧ k2 < 8 := by omega
    obtain ⟨p, x, hp, hx2⟩ := hx.m.at ri hlt'.1
    obtain ⟨hx1, hx2⟩ := hx2 _ (g1.trans hg2)
    have hpk := hp .i64
    have hxl := hx2.len
    (repeat first|apply V.seq|apply V.block|apply V.scope|apply V.skip|apply V.close)
    refine V.line' (by simp +contextual (disch := first|omega|simp only [nx];omega) only [D4,qF,qG,qA,qB,qC,D5,hF,hA,↓reduceIte,qD,qE, bx2.2, hpk, hx1, hxl]; with_reducible rfl) ?_
    (repeat first|apply V.seq|apply V.block|apply V.scope|apply V.skip|apply V.close)
    refine V.condP (by simp only [D6,D5,hF,hA,↓reduceIte,qD,qE]; rfl) (fun h7 => ?_) (fun h7 => ?_)
    · (repeat first|apply V.seq|apply V.block|apply V.scope|apply V.skip|apply V.close)
      refine V.line' (by simp +contextual (disch := first|omega|simp only [nx];omega) only [D4,qF,qG,qA,qB,qC,D5,hF,hA,↓reduceIte,qD,qE]; with_reducible rfl) ?_
      (repeat first|apply V.seq|apply V.block|apply V.scope|apply V.skip|apply V.close)
      refine V.ret (V.rets rfl (Or.inr ⟨by simp, V.rets rfl (Lv.retG (by simp +contextual (disch := first|omega|simp only [nx];omega) only [D1, cells_alloc_at, cells_alloc_ne, cells_set_at, cells_set_ne, yres, yres1, yresL, qA, qB, qC, D5,hF,hA,↓reduceIte,qD,qE]; rfl) ?_ ?_)⟩))
      · exact g1.trans hg2
      · congr 1
        symm
        refine decide_eq_false (fun hh => ?_)
        have := hh.1.2 X.M[k2] (List.mem_take_iff_getElem.2 ⟨k2, by omega, rfl⟩)
        omega
    · (repeat first|apply V.seq|apply V.block|apply V.scope|apply V.skip|apply V.close)
      refine V.line' (by simp +contextual (disch := first|omega|simp only [nx];omega) only [D4,qF,qG,qA,qB,qC,D5,hF,hA,↓reduceIte,qD,qE]; with_reducible rfl) ?_
      refine V.nil (Or.inl ⟨rfl, 8 - (k2 + 1), by omega, ?_⟩)
      refine ⟨k2 + 1, by omega, by omega, rfl, rfl, hg2, ?_, (by intro i; simp only [full_st, hF]), (by simp only [Kn, D5,hF,hA,↓reduceIte,qD,qE, and_self, and_true, true_and]; try (repeat' constructor))⟩
      intro row hr
      rw [tk1 hlt'.1] at hr
      rcases List.mem_append.1 hr with hr | hr
      · exact hall2 row hr
      · rw [List.mem_singleton.1 hr]; omega
  refine V.exit ?_
  (repeat first | refine V.pass ?_ | refine V.here ?_ | refine V.out (by decide) ?_)
  refine V.nil (Or.inr ⟨by simp, ?_⟩)
  (repeat first | refine V.pass ?_ | refine V.here ?_ | refine V.out (by decide) ?_)
  have hMe := take8 (L := X.M) (k := k2) (by omega) hk82
  rw [← hMe] at hall2
  (repeat first|apply V.seq|apply V.block|apply V.scope|apply V.skip|apply V.close)
  refine V.line' (by simp +contextual (disch := first|omega|simp only [nx];omega) only [D4,qF,qG,qA,qB,qC,D5,hF,hA,↓reduceIte,qD,qE, bx2.2, hlf, hle, hld', hlm]; with_reducible rfl) ?_
  (repeat first|apply V.seq|apply V.block|apply V.scope|apply V.skip|apply V.close)
  refine V.ret (V.rets rfl (Lv.retG (by simp +contextual (disch := first|omega|simp only [nx];omega) only [D1, cells_alloc_at, cells_alloc_ne, cells_set_at, cells_set_ne, yres, yres1, yresL, qA, qB, qC, D5,hF,hA,↓reduceIte,qD,qE]; rfl) ?_ ?_))
  · exact g1.trans hg2
  · congr 1
    rw [decide_eq_decide]
    constructor
    · intro hh; exact ⟨⟨hall, hall2⟩, by omega, by omega, by omega, by omega⟩
    · rintro ⟨_, h2, h3, h4, h5⟩; omega
theorem f29_ok {H : Heap} {v y : Value} {A B : List (List Int)} (hv : Nest RI H v A) (hy : Nest RI H y B) (hn : A.length ≤ 1048576) (hr : ∀ row ∈ A, row.length ≤ 1048576) : Gives Try.prog 29 [v, y] H (.bool (decide (A = B))) := by
  have hl1 := hv.len
  have hl2 := hy.len
  refine F.entryL rfl dg29 do29 de29 rfl (by kernel_rfl) ?_
  simp only [sets]
  refine V.re [(0, v), (1, y)] (N := 53) (by intro i; simp only [full_st, Full.mk]) (by simp only [Kn, gt_st, full_st, Full.mk, ↓reduceIte, qD, qE, decide_true, and_self]) ?_
  intro t hF hA
  simp only [Kn, and_true] at hA
  (repeat first|apply V.seq|apply V.block|apply V.scope|apply V.skip|apply V.close)
  refine V.line' (by simp +contextual (disch := first|omega|simp only [nx];omega) only [D4,qF,qG,qA,qB,qC,D5,hF,hA,↓reduceIte,qD,qE]; with_reducible rfl) ?_
  (repeat first|apply V.seq|apply V.block|apply V.scope|apply V.skip|apply V.close)
  refine V.line' (by simp +contextual (disch := first|omega|simp only [nx];omega) only [D4,qF,qG,qA,qB,qC,D5,hF,hA,↓reduceIte,qD,qE, hl1, hl2]; with_reducible rfl) ?_
  (repeat first|apply V.seq|apply V.block|apply V.scope|apply V.skip|apply V.close)
  refine V.condP (by simp only [D6,D5,hF,hA,↓reduceIte,qD,qE]; rfl) (fun hne => ?_) (fun hne => ?_)
  · (repeat first|apply V.seq|apply V.block|apply V.scope|apply V.skip|apply V.close)
    refine V.line' (by simp +contextual (disch := first|omega|simp only [nx];omega) only [D4,qF,qG,qA,qB,qC,D5,hF,hA,↓reduceIte,qD,qE]; with_reducible rfl) ?_
    (repeat first|apply V.seq|apply V.block|apply V.scope|apply V.skip|apply V.close)
    refine V.ret (V.rets rfl (Lv.retG (by simp +contextual (disch := first|omega|simp only [nx];omega) only [D1, cells_alloc_at, cells_alloc_ne, cells_set_at, cells_set_ne, yres, yres1, yresL, qA, qB, qC, D5,hF,hA,↓reduceIte,qD,qE]; rfl) ?_ ?_))
    · exact .refl _
    · congr 1
      exact (decide_eq_false (fun hh => hne (by rw [hh]))).symm
  have hlen : A.length = B.length := by omega
  (repeat first|apply V.seq|apply V.block|apply V.scope|apply V.skip|apply V.close)
  refine V.line' (by simp +contextual (disch := first|omega|simp only [nx];omega) only [D4,qF,qG,qA,qB,qC,D5,hF,hA,↓reduceIte,qD,qE]; with_reducible rfl) ?_
  (repeat first|apply V.seq|apply V.block|apply V.scope|apply V.skip|apply V.close)
  refine V.loop (fun z t m X => ∃ (k : Nat), k ≤ A.length ∧ z = A.length - k ∧ m = [] ∧ Grow H X ∧ A.take k = B.take k ∧ Full 53 t ∧ Kn [(0, v), (1, y), (5, I k)] t) A.length ?_ ?_
  · exact ⟨0, by omega, by omega, rfl, .refl _, by simp, (by intro i; simp only [full_st, hF]), (by simp only [Kn, D5,hF,hA,↓reduceIte,qD,qE, and_self, and_true, true_and]; try (repeat' constructor))⟩
  clear hF hA
  rintro z t m X ⟨k, hk, rfl, rfl, hg, hall, hF, hA⟩
  simp only [Kn, and_true] at hA
  (repeat first|apply V.seq|apply V.block|apply V.scope|apply V.skip|apply V.close)
  refine V.line' (by simp +contextual (disch := first|omega|simp only [nx];omega) only [D4,qF,qG,qA,qB,qC,D5,hF,hA,↓reduceIte,qD,qE, hl1]; with_reducible rfl) ?_
  (repeat first|apply V.seq|apply V.block|apply V.scope|apply V.skip|apply V.close)
  refine V.condP (by simp only [D6,D5,hF,hA,↓reduceIte,qD,qE]; rfl) (fun hlt => ?_) (fun hlt => ?_)
  · have hlt' : k < A.length := by omega
    have hlt2 : k < B.length := by omega
    obtain ⟨p, x, hp, hx⟩ := hv.at ri hlt'
    obtain ⟨q, u, hq, hu⟩ := hy.at ri hlt2
    have hpk := hp .i64
    have hqk := hq .i64
    obtain ⟨hx1, hx2⟩ := hx X hg
    obtain ⟨hu1, hu2⟩ := hu X hg
    have hlx := hx2.len
    have hlu := hu2.len
    have hrk := hr _ (List.getElem_mem hlt')
    (repeat first|apply V.seq|apply V.block|apply V.scope|apply V.skip|apply V.close)
    refine V.lineD' (by simp +contextual (disch := first|omega|simp only [nx];omega) only [D4,qF,qG,qA,qB,qC,D5,hF,hA,↓reduceIte,qD,qE, hpk, hx1, hlx, hqk, hu1, hlu]; with_reducible rfl) ?_ ?_ rfl ?_
    · simp only [monoG, List.cons_append, List.nil_append, Heap.next_set, Heap.next_alloc, Nat.le_refl, true_and, and_true] <;> omega
    · simp only [dcAll, dcOk, wantD, List.cons_append, List.nil_append, true_and, and_true]
    (repeat first|apply V.seq|apply V.block|apply V.scope|apply V.skip|apply V.close)
    refine V.condP (by simp only [D6,D5,hF,hA,↓reduceIte,qD,qE]; rfl) (fun hw => ?_) (fun hw => ?_)
    · (repeat first|apply V.seq|apply V.block|apply V.scope|apply V.skip|apply V.close)
      refine V.line' (by simp +contextual (disch := first|omega|simp only [nx];omega) only [D4,qF,qG,qA,qB,qC,D5,hF,hA,↓reduceIte,qD,qE]; with_reducible rfl) ?_
      (repeat first|apply V.seq|apply V.block|apply V.scope|apply V.skip|apply V.close)
      refine V.ret (V.rets rfl (Or.inr ⟨by simp, V.rets rfl (Lv.retG (by simp +contextual (disch := first|omega|simp only [nx];omega) only [D1, cells_alloc_at, cells_alloc_ne, cells_set_at, cells_set_ne, yres, yres1, yresL, qA, qB, qC, D5,hF,hA,↓reduceIte,qD,qE]; rfl) ?_ ?_)⟩))
      · exact hg
      · congr 1
        exact (decide_eq_false (fun hh => hw (by subst hh; rfl))).symm
    have hlr : (A[k]).length = (B[k]).length := by omega
    (repeat first|apply V.seq|apply V.block|apply V.scope|apply V.skip|apply V.close)
    refine V.line' (by simp +contextual (disch := first|omega|simp only [nx];omega) only [D4,qF,qG,qA,qB,qC,D5,hF,hA,↓reduceIte,qD,qE]; with_reducible rfl) ?_
    (repeat first|apply V.seq|apply V.block|apply V.scope|apply V.skip|apply V.close)
    refine V.re [(0, v), (1, y), (5, I k), (6, I 0)] (N := 53) (by intro i; simp only [full_st, hF]) (by simp only [Kn, D5,hF,hA,↓reduceIte,qD,qE, and_self, and_true, true_and]; try (repeat' constructor)) ?_
    clear hF hA
    intro t hF hA
    simp only [Kn, and_true] at hA
    refine V.loop (fun z t m Y => ∃ (j : Nat), j ≤ (A[k]).length ∧ z = (A[k]).length - j ∧ m = [] ∧ Y = X ∧ (A[k]).take j = (B[k]).take j ∧ Full 53 t ∧ Kn [(0, v), (1, y), (5, I k), (6, I j)] t) (A[k]).length ?_ ?_
    · exact ⟨0, by omega, by omega, rfl, rfl, by simp, (by intro i; simp only [full_st, hF]), (by simp only [Kn, D5,hF,hA,↓reduceIte,qD,qE, and_self, and_true, true_and]; try (repeat' constructor))⟩
    clear hF hA
    rintro z t m Y ⟨j, hj, rfl, rfl, rfl, hallj, hF, hA⟩
    simp only [Kn, and_true] at hA
    (repeat first|apply V.seq|apply V.block|apply V.scope|apply V.skip|apply V.close)
    refine V.line' (by simp +contextual (disch := first|omega|simp only [nx];omega) only [D4,qF,qG,qA,qB,qC,D5,hF,hA,↓reduceIte,qD,qE, hpk, hx1, hlx]; with_reducible rfl) ?_
    (repeat first|apply V.seq|apply V.block|apply V.scope|apply V.skip|apply V.close)
    refine V.condP (by simp only [D6,D5,hF,hA,↓reduceIte,qD,qE]; rfl) (fun hlj => ?_) (fun hlj => ?_)
    · have hlj1 : j < (A[k]).length := by omega
      have hlj2 : j < (B[k]).length := by omega
      obtain ⟨p2, hp2, hxx⟩ := hx2.at hlj1
      obtain ⟨q2, hq2, huu⟩ := hu2.at hlj2
      have hx3 := hxx Y (.refl _)
      have hu3 := huu Y (.refl _)
      (repeat first|apply V.seq|apply V.block|apply V.scope|apply V.skip|apply V.close)
      refine V.lineD' (by simp +contextual (disch := first|omega|simp only [nx];omega) only [D4,qF,qG,qA,qB,qC,D5,hF,hA,↓reduceIte,qD,qE, hpk, hx1, hp2, hx3, hqk, hu1, hq2, hu3]; with_reducible rfl) ?_ ?_ rfl ?_
      · simp only [monoG, List.cons_append, List.nil_append, Heap.next_set, Heap.next_alloc, Nat.le_refl, true_and, and_true] <;> omega
      · simp only [dcAll, dcOk, wantD, List.cons_append, List.nil_append, true_and, and_true]
      (repeat first|apply V.seq|apply V.block|apply V.scope|apply V.skip|apply V.close)
      refine V.condP (by simp only [D6,D5,hF,hA,↓reduceIte,qD,qE]; rfl) (fun hw2 => ?_) (fun hw2 => ?_)
      · (repeat first|apply V.seq|apply V.block|apply V.scope|apply V.skip|apply V.close)
        refine V.line' (by simp +contextual (disch := first|omega|simp only [nx];omega) only [D4,qF,qG,qA,qB,qC,D5,hF,hA,↓reduceIte,qD,qE]; with_reducible rfl) ?_
        (repeat first|apply V.seq|apply V.block|apply V.scope|apply V.skip|apply V.close)
        refine V.ret (V.rets rfl (Or.inr ⟨by simp, V.rets rfl (Or.inr ⟨by simp, V.rets rfl (Lv.retG (by simp +contextual (disch := first|omega|simp only [nx];omega) only [D1, cells_alloc_at, cells_alloc_ne, cells_set_at, cells_set_ne, yres, yres1, yresL, qA, qB, qC, D5,hF,hA,↓reduceIte,qD,qE]; rfl) ?_ ?_)⟩)⟩))
        · exact hg
        · congr 1
          exact (decide_eq_false (fun hh => hw2 (by subst hh; rfl))).symm
      · (repeat first|apply V.seq|apply V.block|apply V.scope|apply V.skip|apply V.close)
        refine V.line' (by simp +contextual (disch := first|omega|simp only [nx];omega) only [D4,qF,qG,qA,qB,qC,D5,hF,hA,↓reduceIte,qD,qE]; with_reducible rfl) ?_
        refine V.nil (Or.inl ⟨rfl, (A[k]).length - (j + 1), by omega, ?_⟩)
        refine ⟨j + 1, by omega, rfl, rfl, rfl, ?_, (by intro i; simp only [full_st, hF]), (by simp only [Kn, D5,hF,hA,↓reduceIte,qD,qE, and_self, and_true, true_and]; try (repeat' constructor))⟩
        rw [tk1 hlj1, tk1 hlj2, hallj, Decidable.not_not.1 hw2]
    · refine V.exit ?_
      (repeat first | refine V.pass ?_ | refine V.here ?_ | refine V.out (by decide) ?_)
      refine V.nil (Or.inr ⟨by simp, ?_⟩)
      (repeat first | refine V.pass ?_ | refine V.here ?_ | refine V.out (by decide) ?_)
      (repeat first|apply V.seq|apply V.block|apply V.scope|apply V.skip|apply V.close)
      refine V.line' (by simp +contextual (disch := first|omega|simp only [nx];omega) only [D4,qF,qG,qA,qB,qC,D5,hF,hA,↓reduceIte,qD,qE]; with_reducible rfl) ?_
      refine V.nil (Or.inl ⟨rfl, A.length - (k + 1), by omega, ?_⟩)
      refine ⟨k + 1, by omega, rfl, rfl, hg, ?_, (by intro i; simp only [full_st, hF]), (by simp only [Kn, D5,hF,hA,↓reduceIte,qD,qE, and_self, and_true, true_and]; try (repeat' constructor))⟩
      rw [List.take_of_length_le (by omega), List.take_of_length_le (by omega)] at hallj
      rw [tk1 hlt', tk1 hlt2, hall, hallj]
  · refine V.exit ?_
    (repeat first | refine V.pass ?_ | refine V.here ?_ | refine V.out (by decide) ?_)
    refine V.nil (Or.inr ⟨by simp, ?_⟩)
    (repeat first | refine V.pass ?_ | refine V.here ?_ | refine V.out (by decide) ?_)
    rw [List.take_of_length_le (by omega), List.take_of_length_le (by omega)] at hall
    (repeat first|apply V.seq|apply V.block|apply V.scope|apply V.skip|apply V.close)
    refine V.line' (by simp +contextual (disch := first|omega|simp only [nx];omega) only [D4,qF,qG,qA,qB,qC,D5,hF,hA,↓reduceIte,qD,qE]; with_reducible rfl) ?_
    (repeat first|apply V.seq|apply V.block|apply V.scope|apply V.skip|apply V.close)
    refine V.ret (V.rets rfl (Lv.retG (by simp +contextual (disch := first|omega|simp only [nx];omega) only [D1, cells_alloc_at, cells_alloc_ne, cells_set_at, cells_set_ne, yres, yres1, yresL, qA, qB, qC, D5,hF,hA,↓reduceIte,qD,qE]; rfl) ?_ ?_))
    · exact hg
    · rw [decide_eq_true hall]
end Go.Xe.TFX
