/- What the functions of the layer miss come to: ways to choose. Conditions: none. -/
import Derived.Test.YtglkpemncjoefaaTMY
-- MOD TM
namespace Go.Xe.TMX
open Go Go.Xe Go.Proofs Go.Xe.Mth
open Nat renaming reduceLeDiff → qA, reduceSub → qB, reduceAdd → qC, reduceEqDiff → qD, reduceLT → qE
open Int renaming reduceNegSucc → qF, reduceEq → qG
set_option maxRecDepth 100000
set_option maxHeartbeats 3200000
set_option linter.unusedSimpArgs false
noncomputable def d53 : FCode := (.seq (.run (.go (.move (.con .nilFunc)) (pth 0)::
[])) (.seq (.run (.go (.makeMap 123) (pth 3)::
.go (.alloc 121 [(.map none)]) (pth 1)::
.un (.store 1 (.tmp (pth 1)) (.tmp (pth 3)))::
[])) (.seq (.run (.go (.alloc 33 [.nilFunc]) (pth 2)::
[])) (.seq (.run (.go (.makeFunc 78 [] [(.tmp (pth 1)),(.tmp (pth 2))]) (pth 4)::
.un (.store 1 (.tmp (pth 2)) (.tmp (pth 4)))::
[])) (.seq (.run (.go (.load1 (.tmp (pth 2))) (pth 5)::
.go (.move (.tmp (pth 5))) (pth 0)::
[])) .ret)))))
theorem de53 : @compF Try.prog (Gl.none Try.prog) Try.f53 0 = .mk d53 (mkTT 6) [] [.tmp (pth 0)] := by kernel_rfl
theorem dg53 : Try.prog.funcs[53]? = some Try.f53 := Try.func53
theorem do53 : okF Try.prog Try.f53 = true := by kernel_rfl
noncomputable def d78 : FCode := (.seq (.run (.go (.move (.con (.int .i64 (.ofNat 0)))) (pth 6)::
[])) (.seq (.seq (.run (.go (.move (.tmp (pth 1))) (pth 9)::
.go (.move (.tmp (pth 0))) (pth 10)::
.go (.bin .gtr 3 (.tmp (pth 9)) (.tmp (pth 10))) (pth 11)::
[])) (.cond (.tmp (pth 11)) (.seq (.run (.go (.move (.con (.int .i64 (.ofNat 0)))) (pth 6)::
[])) .ret) .skip)) (.seq (.seq (.run (.go (.move (.tmp (pth 1))) (pth 12)::
.go (.bin .eql 3 (.tmp (pth 12)) (.con (.int .i64 (.ofNat 0)))) (pth 13)::
.go (.move (.tmp (pth 13))) (pth 14)::
.gd (pth 14) false (.move (.tmp (pth 1))) (pth 15)::
.gd (pth 14) false (.move (.tmp (pth 0))) (pth 16)::
.gd (pth 14) false (.bin .eql 3 (.tmp (pth 15)) (.tmp (pth 16))) (pth 17)::
.go (.pick (.tmp (pth 14)) (.con (.bool true)) (.tmp (pth 17))) (pth 18)::
[])) (.cond (.tmp (pth 18)) (.seq (.run (.go (.move (.con (.int .i64 (.ofNat 1)))) (pth 6)::
[])) .ret) .skip)) (.seq (.run (.go (.load1 (.tmp (pth 2))) (pth 20)::
.go (.move (.tmp (pth 0))) (pth 21)::
.go (.move (.tmp (pth 1))) (pth 22)::
.go (.build [(.int .i64 (.ofNat 0)),(.int .i64 (.ofNat 0))] [(0,1,(.tmp (pth 21))),(1,1,(.tmp (pth 22)))]) (pth 23)::
.go (.lookup 123 (.int .i64 (.ofNat 0)) (.tmp (pth 20)) (.tmp (pth 23)) true) (pth 24)::
.go (.move (.tmp (pth 24))) (pth 19)::
.go (.extract (.tmp (pth 19)) 0) (pth 25)::
.go (.extract (.tmp (pth 19)) 1) (pth 26)::
.go (.move (.tmp (pth 25))) (pth 7)::
.go (.move (.tmp (pth 26))) (pth 8)::
[])) (.seq (.seq (.run (.go (.move (.tmp (pth 8))) (pth 27)::
.go (.un .not (.tmp (pth 27))) (pth 28)::
[])) (.cond (.tmp (pth 28)) (.seq (.draw 13 (.go (.load1 (.tmp (pth 3))) (pth 29)::
.go (.move (.tmp (pth 0))) (pth 30)::
.go (.bin .sub 3 (.tmp (pth 30)) (.con (.int .i64 (.ofNat 1)))) (pth 31)::
.go (.move (.tmp (pth 1))) (pth 32)::
.go (.call (.tmp (pth 29)) [(.tmp (pth 31)),(.tmp (pth 32))]) (pth 33)::
.go (.load1 (.tmp (pth 3))) (pth 34)::
.go (.move (.tmp (pth 0))) (pth 35)::
.go (.bin .sub 3 (.tmp (pth 35)) (.con (.int .i64 (.ofNat 1)))) (pth 36)::
.go (.move (.tmp (pth 1))) (pth 37)::
.go (.bin .sub 3 (.tmp (pth 37)) (.con (.int .i64 (.ofNat 1)))) (pth 38)::
.go (.call (.tmp (pth 34)) [(.tmp (pth 36)),(.tmp (pth 38))]) (pth 39)::
.go (.bin .add 3 (.tmp (pth 33)) (.tmp (pth 39))) (pth 40)::
.go (.move (.tmp (pth 40))) (pth 7)::
[]) [.ok,.ok,.ok,.ok,.ok,.rd none (.load1 (.tmp (pth 3))) (some (pth 34)) [0],.ok,.ok,.ok,.ok,.ok,.ok,.ok]) (.run (.go (.load1 (.tmp (pth 2))) (pth 41)::
.go (.move (.tmp (pth 0))) (pth 42)::
.go (.move (.tmp (pth 1))) (pth 43)::
.go (.build [(.int .i64 (.ofNat 0)),(.int .i64 (.ofNat 0))] [(0,1,(.tmp (pth 42))),(1,1,(.tmp (pth 43)))]) (pth 44)::
.go (.move (.tmp (pth 7))) (pth 45)::
.un (.mapUpdate 123 (.tmp (pth 41)) (.tmp (pth 44)) (.tmp (pth 45)))::
[]))) .skip)) (.seq (.run (.go (.move (.tmp (pth 7))) (pth 46)::
.go (.move (.tmp (pth 46))) (pth 6)::
[])) .ret))))))
theorem de78 : @compF Try.prog (Gl.none Try.prog) Try.f78 4 = .mk d78 (mkTT 47) [(pth 0),(pth 1),(pth 2),(pth 3)] [.tmp (pth 6)] := by kernel_rfl
theorem dg78 : Try.prog.funcs[78]? = some Try.f78 := Try.func78
theorem do78 : okF Try.prog Try.f78 = true := by kernel_rfl
theorem wf_small {n : Int} (h : 0 ≤ n ∧ n ≤ 1000) : (Lit.int .i64 n).wf = true := by
  simp only [Lit.wf, Bool.and_eq_true, decide_eq_true_eq]
  show (-9223372036854775808 : Int) ≤ n ∧ n ≤ 9223372036854775807
  omega
theorem kl_int {n : Int} (h : (Lit.int .i64 n).wf = true) (k : Nat) : Try.prog.keyLits (k + 1) 3 [I n] = some [.int .i64 n] := by
  unfold Program.keyLits
  simp only [Try.underlying3]
  rw [if_pos ⟨trivial, h⟩]
theorem key123 {a b : Int} (ha : (Lit.int .i64 a).wf = true) (hb : (Lit.int .i64 b).wf = true) : (keyOf Try.prog 123 (.agg ⟨A2 a b⟩)).isSome = true := by
  have c3 : Try.prog.cellsOf 3 = 1 := by kernel_rfl
  have c48 : Try.prog.cellsOf 123 = 2 := by kernel_rfl
  have h5 : (Program.keyType Try.prog 123 && (Value.agg ⟨[I a, I b]⟩).formed Try.prog 123) = true := by kernel_rfl
  obtain ⟨n, hn⟩ : ∃ n, Try.prog.types.size + 1 = n + 2 := ⟨Try.prog.types.size - 1, by have : 2 ≤ Try.prog.types.size := Nat.le_of_ble_eq_true (by kernel_rfl); omega⟩
  unfold keyOf
  simp only [Try.underlying123]
  rw [if_pos h5, hn]
  unfold Program.keyLits
  simp only [Try.underlying123, c48]
  have e : (Value.agg ⟨[I a, I b]⟩).cells.toList = [I a, I b] := rfl
  rw [e, if_pos ⟨rfl, by simp⟩]
  simp [c3, kl_int ha, kl_int hb]
theorem keyed123 : keyedB Try.prog 123 = true := by kernel_rfl
def tabW (es : List MapEntry) : Prop := ∀ e ∈ es, ∃ n k : Nat, e.key = .agg ⟨A2 n k⟩ ∧ e.val = I (ch n k : Nat)
abbrev PT (i : Nat) : Value := .pointer (some ⟨i, 0, none⟩)
abbrev cw (i j : Nat) : Value := .func (.func 78) ⟨[]⟩ ⟨[PT i, PT j]⟩
def Wy (H : Heap) (i j x : Nat) : Prop := Bx H i [.map (some x)] 121 ∧ Bx H j [cw i j] 33 ∧ i ≠ x ∧ j ≠ x ∧ ∃ es, Mp H x 123 es ∧ tabW es
theorem Wy.grow {H H' : Heap} {i j x : Nat} (h : Wy H i j x) (g : Grow H H') : Wy H' i j x := by
  obtain ⟨h1, h2, h3, h4, es, h5, h6⟩ := h
  exact ⟨h1.grow g, h2.grow g, h3, h4, es, h5.grow g, h6⟩
theorem f53_ok (H : Heap) : F Try.prog 53 ⟨[]⟩ H (fun v H' => ∃ i j x, v = cw i j ∧ H.next ≤ i ∧ H.next ≤ j ∧ H.next ≤ x ∧ Grow H H' ∧ Wy H' i j x) := by
  refine F.entryL rfl dg53 do53 de53 rfl (by kernel_rfl) ?_
  simp only [sets]
  refine V.re [] (N := 6) (by intro i; simp only [full_st, Full.mk]) (by simp only [Kn, gt_st, full_st, Full.mk, ↓reduceIte, qD, qE, decide_true, and_self]) ?_
  intro t hF hA
  (repeat first|apply V.seq|apply V.block|apply V.scope|apply V.skip|apply V.close)
  refine V.line' (by simp +contextual (disch := first|omega|simp only [nx];omega) only [D4,qF,qG,qA,qB,qC,D5,hF,hA,↓reduceIte,qD,qE]; with_reducible rfl) ?_
  (repeat first|apply V.seq|apply V.block|apply V.scope|apply V.skip|apply V.close)
  refine V.line' (by simp +contextual (disch := first|omega|simp only [nx];omega) only [D4,qF,qG,qA,qB,qC,D5,hF,hA,↓reduceIte,qD,qE]; with_reducible rfl) ?_
  (repeat first|apply V.seq|apply V.block|apply V.scope|apply V.skip|apply V.close)
  refine V.line' (by simp +contextual (disch := first|omega|simp only [nx];omega) only [D4,qF,qG,qA,qB,qC,D5,hF,hA,↓reduceIte,qD,qE]; with_reducible rfl) ?_
  (repeat first|apply V.seq|apply V.block|apply V.scope|apply V.skip|apply V.close)
  refine V.line' (by simp +contextual (disch := first|omega|simp only [nx];omega) only [D4,qF,qG,qA,qB,qC,D5,hF,hA,↓reduceIte,qD,qE]; with_reducible rfl) ?_
  (repeat first|apply V.seq|apply V.block|apply V.scope|apply V.skip|apply V.close)
  refine V.line' (by simp +contextual (disch := first|omega|simp only [nx];omega) only [D4,qF,qG,qA,qB,qC,D5,hF,hA,↓reduceIte,qD,qE]; with_reducible rfl) ?_
  (repeat first|apply V.seq|apply V.block|apply V.scope|apply V.skip|apply V.close)
  refine V.ret (V.rets rfl (Lv.retF (by simp +contextual (disch := first|omega|simp only [nx];omega) only [D1, cells_alloc_at, cells_alloc_ne, cells_set_at, cells_set_ne, yres, yres1, yresL, qA, qB, qC, D5,hF,hA,↓reduceIte,qD,qE]; rfl) ?_))
  refine ⟨H.next + 1, H.next + 2, H.next, rfl, by omega, by omega, by omega, ?_, ?_, ?_, by omega, by omega, [], ⟨?_, 0, ?_⟩, fun e he => by cases he⟩
  · (repeat first | assumption | exact Grow.refl _ | refine Grow.alloc ?_ _ | refine Grow.set ?_ (by first|omega|simp only [nx];omega) _)
  · (repeat first | assumption | exact Bx.new _ _ _ | exact Bx.newAt (by first|omega|simp only [nx];omega) | refine Bx.put (by first|omega|simp only [nx];omega) _ _ | refine Bx.alloc ?_ _ | refine Bx.set ?_ (by first|omega|simp only [nx];omega) _)
  · (repeat first | assumption | exact Bx.new _ _ _ | exact Bx.newAt (by first|omega|simp only [nx];omega) | refine Bx.put (by first|omega|simp only [nx];omega) _ _ | refine Bx.alloc ?_ _ | refine Bx.set ?_ (by first|omega|simp only [nx];omega) _)
  · first | omega | (simp only [Heap.next_set, Heap.next_alloc]; omega)
  · have n0 : (Heap.alloc H (.map 123 #[] 0)).next = H.next + 1 := rfl
    rw [maps_set_ne _ _ (by omega), maps_alloc_ne _ _ (by simp only [Heap.next_set, Heap.next_alloc]; omega), maps_set_ne _ _ (by omega), maps_alloc_ne _ _ (by omega), maps_alloc]
theorem upd_tab {H : Heap} {x n k : Nat} {es : List MapEntry} (hm : Mp H x 123 es) (ht : tabW es) (hn : n ≤ 60) (hk : k ≤ 60) :
    ∃ o, ymapUpdate Try.prog 123 H (.map (some x)) (.agg ⟨A2 n k⟩) (I (ch n k : Nat)) = some (H.set x o) ∧ ∃ es', Mp (H.set x o) x 123 es' ∧ tabW es' := by
  obtain ⟨hx, clk, hm⟩ := hm
  have hk1 := key123 (wf_small (n := (n : Int)) (by omega)) (wf_small (n := (k : Int)) (by omega))
  unfold ymapUpdate
  simp only [hm]
  rw [if_pos ⟨trivial, keyed123, rfl, hk1⟩]
  cases hf : xfind (.agg ⟨A2 n k⟩) es 0 with
  | none =>
    refine ⟨_, rfl, es ++ [{ key := .agg ⟨A2 n k⟩, val := I (ch n k : Nat), born := clk }], ⟨hx, clk + 1, ?_⟩, ?_⟩
    · rw [maps_set]; simp
    · intro e he
      rcases List.mem_append.1 he with he | he
      · exact ht e he
      · rw [List.mem_singleton.1 he]; exact ⟨n, k, rfl, rfl⟩
  | some y =>
    refine ⟨_, rfl, es.modify y (fun e => { e with key := .agg ⟨A2 n k⟩, val := I (ch n k : Nat) }), ⟨hx, clk, ?_⟩, ?_⟩
    · rw [maps_set]; simp
    · intro e he
      obtain ⟨w, hw⟩ := List.getElem?_of_mem he
      rw [List.getElem?_modify] at hw
      cases hl : es[w]? with
      | none => rw [hl] at hw; cases hw
      | some e0 =>
        rw [hl] at hw
        simp only [Option.map_some, Option.map_eq_map, Option.some.injEq] at hw
        split at hw
        · subst hw; exact ⟨n, k, rfl, rfl⟩
        · subst hw; exact ht e0 (List.mem_of_getElem? hl)
theorem f78_ok : ∀ (n k : Nat) {H : Heap} {i j x : Nat}, n ≤ 60 → k ≤ 60 → Wy H i j x → F Try.prog 78 ⟨[I n, I k, PT i, PT j]⟩ H (fun v H' => v = I (ch n k : Nat) ∧ GrowX x H H' ∧ Wy H' i j x) := by
  intro n
  induction n with
  | zero =>
    intro k H i j x hn hk hw
    generalize hz : 0 = z at hn
    refine F.entryL rfl dg78 do78 de78 rfl (by kernel_rfl) ?_
    simp only [sets]
    refine V.re [(0, I z), (1, I k), (2, PT i), (3, PT j)] (N := 47) (by intro i; simp only [full_st, Full.mk]) (by simp only [Kn, gt_st, full_st, Full.mk, ↓reduceIte, qD, qE, decide_true, and_self]) ?_
    intro t hF hA
    simp only [Kn, and_true] at hA
    (repeat first|apply V.seq|apply V.block|apply V.scope|apply V.skip|apply V.close)
    refine V.line' (by simp +contextual (disch := first|omega|simp only [nx];omega) only [D4,qF,qG,qA,qB,qC,D5,hF,hA,↓reduceIte,qD,qE]; with_reducible rfl) ?_
    (repeat first|apply V.seq|apply V.block|apply V.scope|apply V.skip|apply V.close)
    refine V.line' (by simp +contextual (disch := first|omega|simp only [nx];omega) only [D4,qF,qG,qA,qB,qC,D5,hF,hA,↓reduceIte,qD,qE]; with_reducible rfl) ?_
    (repeat first|apply V.seq|apply V.block|apply V.scope|apply V.skip|apply V.close)
    refine V.condP (by simp only [D6,D5,hF,hA,↓reduceIte,qD,qE]; rfl) (fun h => ?_) (fun h => ?_)
    · (repeat first|apply V.seq|apply V.block|apply V.scope|apply V.skip|apply V.close)
      refine V.line' (by simp +contextual (disch := first|omega|simp only [nx];omega) only [D4,qF,qG,qA,qB,qC,D5,hF,hA,↓reduceIte,qD,qE]; with_reducible rfl) ?_
      refine V.ret (V.rets rfl (Lv.retF (by simp +contextual (disch := first|omega|simp only [nx];omega) only [D1, cells_alloc_at, cells_alloc_ne, cells_set_at, cells_set_ne, yres, yres1, yresL, qA, qB, qC, D5,hF,hA,↓reduceIte,qD,qE]; rfl) ?_))
      refine ⟨?_, (Grow.refl H).x x, hw⟩
      rw [ch_lt (by omega)]; rfl
    obtain rfl : k = 0 := by omega
    subst hz
    (repeat first|apply V.seq|apply V.block|apply V.scope|apply V.skip|apply V.close)
    refine V.line' (by simp +contextual (disch := first|omega|simp only [nx];omega) only [D4,qF,qG,qA,qB,qC,D5,hF,hA,↓reduceIte,qD,qE]; with_reducible rfl) ?_
    (repeat first|apply V.seq|apply V.block|apply V.scope|apply V.skip|apply V.close)
    refine V.condT (by simp only [D6,D5,hF,hA,↓reduceIte,qD,qE]) ?_
    (repeat first|apply V.seq|apply V.block|apply V.scope|apply V.skip|apply V.close)
    refine V.line' (by simp +contextual (disch := first|omega|simp only [nx];omega) only [D4,qF,qG,qA,qB,qC,D5,hF,hA,↓reduceIte,qD,qE]; with_reducible rfl) ?_
    refine V.ret (V.rets rfl (Lv.retF (by simp +contextual (disch := first|omega|simp only [nx];omega) only [D1, cells_alloc_at, cells_alloc_ne, cells_set_at, cells_set_ne, yres, yres1, yresL, qA, qB, qC, D5,hF,hA,↓reduceIte,qD,qE]; rfl) ?_))
    exact ⟨rfl, (Grow.refl H).x x, hw⟩
  | succ n ih =>
    intro k H i j x hn hk hw
    obtain ⟨b1, c1, hix, hjx, es, hm, ht⟩ := id hw
    generalize hz : n + 1 = z at hn
    refine F.entryL rfl dg78 do78 de78 rfl (by kernel_rfl) ?_
    simp only [sets]
    refine V.re [(0, I z), (1, I k), (2, PT i), (3, PT j)] (N := 47) (by intro i; simp only [full_st, Full.mk]) (by simp only [Kn, gt_st, full_st, Full.mk, ↓reduceIte, qD, qE, decide_true, and_self]) ?_
    intro t hF hA
    simp only [Kn, and_true] at hA
    (repeat first|apply V.seq|apply V.block|apply V.scope|apply V.skip|apply V.close)
    refine V.line' (by simp +contextual (disch := first|omega|simp only [nx];omega) only [D4,qF,qG,qA,qB,qC,D5,hF,hA,↓reduceIte,qD,qE]; with_reducible rfl) ?_
    (repeat first|apply V.seq|apply V.block|apply V.scope|apply V.skip|apply V.close)
    refine V.line' (by simp +contextual (disch := first|omega|simp only [nx];omega) only [D4,qF,qG,qA,qB,qC,D5,hF,hA,↓reduceIte,qD,qE]; with_reducible rfl) ?_
    (repeat first|apply V.seq|apply V.block|apply V.scope|apply V.skip|apply V.close)
    refine V.condP (by simp only [D6,D5,hF,hA,↓reduceIte,qD,qE]; rfl) (fun h => ?_) (fun h => ?_)
    · (repeat first|apply V.seq|apply V.block|apply V.scope|apply V.skip|apply V.close)
      refine V.line' (by simp +contextual (disch := first|omega|simp only [nx];omega) only [D4,qF,qG,qA,qB,qC,D5,hF,hA,↓reduceIte,qD,qE]; with_reducible rfl) ?_
      refine V.ret (V.rets rfl (Lv.retF (by simp +contextual (disch := first|omega|simp only [nx];omega) only [D1, cells_alloc_at, cells_alloc_ne, cells_set_at, cells_set_ne, yres, yres1, yresL, qA, qB, qC, D5,hF,hA,↓reduceIte,qD,qE]; rfl) ?_))
      refine ⟨?_, (Grow.refl H).x x, hw⟩
      rw [ch_lt (by omega)]; rfl
    (repeat first|apply V.seq|apply V.block|apply V.scope|apply V.skip|apply V.close)
    refine V.line' (by simp +contextual (disch := first|omega|simp only [nx];omega) only [D4,qF,qG,qA,qB,qC,D5,hF,hA,↓reduceIte,qD,qE]; with_reducible rfl) ?_
    (repeat first|apply V.seq|apply V.block|apply V.scope|apply V.skip|apply V.close)
    refine V.condP (by simp only [D6,D5,hF,hA,↓reduceIte,qD,qE]; rfl) (fun h1 => ?_) (fun h1 => ?_)
    · (repeat first|apply V.seq|apply V.block|apply V.scope|apply V.skip|apply V.close)
      refine V.line' (by simp +contextual (disch := first|omega|simp only [nx];omega) only [D4,qF,qG,qA,qB,qC,D5,hF,hA,↓reduceIte,qD,qE]; with_reducible rfl) ?_
      refine V.ret (V.rets rfl (Lv.retF (by simp +contextual (disch := first|omega|simp only [nx];omega) only [D1, cells_alloc_at, cells_alloc_ne, cells_set_at, cells_set_ne, yres, yres1, yresL, qA, qB, qC, D5,hF,hA,↓reduceIte,qD,qE]; rfl) ?_))
      refine ⟨?_, (Grow.refl H).x x, hw⟩
      rcases h1 with h1 | h1
      · obtain rfl : k = 0 := by omega
        rw [ch_z]; rfl
      · obtain rfl : k = z := by omega
        rw [ch_self]; rfl
    obtain ⟨q, rfl⟩ : ∃ q, k = q + 1 := ⟨k - 1, by omega⟩
    have hk1 := key123 (wf_small (n := (z : Int)) (by omega)) (wf_small (n := ((q + 1 : Nat) : Int)) (by omega))
    have e1 : (z : Int) - 1 = n := by omega
    have e2 : ((q + 1 : Nat) : Int) - 1 = q := by omega
    obtain ⟨_, clk, hm2⟩ := hm
    cases hf : xfind (.agg ⟨A2 z ((q + 1 : Nat) : Int)⟩) es 0 with
    | some y =>
      obtain ⟨_, e, he, hke⟩ := xfind_some hf
      rw [Nat.sub_zero] at he
      obtain ⟨n', k', hk', hv'⟩ := ht e (List.mem_of_getElem? he)
      have hww : n' = z ∧ k' = q + 1 := by
        rw [hk'] at hke
        simp at hke
        omega
      obtain ⟨rfl, rfl⟩ := hww
      have hl := look_hit (P := Try.prog) (z := I 0) hm2 keyed123 rfl hk1 hf (by simpa using he)
      rw [hv'] at hl
      (repeat first|apply V.seq|apply V.block|apply V.scope|apply V.skip|apply V.close)
      refine V.line' (by simp +contextual (disch := first|omega|simp only [nx];omega) only [D4,qF,qG,qA,qB,qC,D5,hF,hA,↓reduceIte,qD,qE, b1.2, hl]; with_reducible rfl) ?_
      (repeat first|apply V.seq|apply V.block|apply V.scope|apply V.skip|apply V.close)
      refine V.line' (by simp +contextual (disch := first|omega|simp only [nx];omega) only [D4,qF,qG,qA,qB,qC,D5,hF,hA,↓reduceIte,qD,qE]; with_reducible rfl) ?_
      (repeat first|apply V.seq|apply V.block|apply V.scope|apply V.skip|apply V.close)
      refine V.condF (by simp only [D6,D5,hF,hA,↓reduceIte,qD,qE]) ?_
      (repeat first|apply V.seq|apply V.block|apply V.scope|apply V.skip|apply V.close)
      refine V.line' (by simp +contextual (disch := first|omega|simp only [nx];omega) only [D4,qF,qG,qA,qB,qC,D5,hF,hA,↓reduceIte,qD,qE]; with_reducible rfl) ?_
      (repeat first|apply V.seq|apply V.block|apply V.scope|apply V.skip|apply V.close)
      refine V.ret (V.rets rfl (Lv.retF (by simp +contextual (disch := first|omega|simp only [nx];omega) only [D1, cells_alloc_at, cells_alloc_ne, cells_set_at, cells_set_ne, yres, yres1, yresL, qA, qB, qC, D5,hF,hA,↓reduceIte,qD,qE]; rfl) ?_))
      exact ⟨rfl, (Grow.refl H).x x, hw⟩
    | none =>
      have hl := look_miss (P := Try.prog) (z := I 0) hm2 keyed123 rfl hk1 hf
      (repeat first|apply V.seq|apply V.block|apply V.scope|apply V.skip|apply V.close)
      refine V.line' (by simp +contextual (disch := first|omega|simp only [nx];omega) only [D4,qF,qG,qA,qB,qC,D5,hF,hA,↓reduceIte,qD,qE, b1.2, hl]; with_reducible rfl) ?_
      (repeat first|apply V.seq|apply V.block|apply V.scope|apply V.skip|apply V.close)
      refine V.line' (by simp +contextual (disch := first|omega|simp only [nx];omega) only [D4,qF,qG,qA,qB,qC,D5,hF,hA,↓reduceIte,qD,qE]; with_reducible rfl) ?_
      (repeat first|apply V.seq|apply V.block|apply V.scope|apply V.skip|apply V.close)
      refine V.condT (by simp only [D6,D5,hF,hA,↓reduceIte,qD,qE]) ?_
      (repeat first|apply V.seq|apply V.block|apply V.scope|apply V.skip|apply V.close)
      refine V.draw ?_
      refine VD.dins 4 (by simp +contextual (disch := first|omega|simp only [nx];omega) only [D4,qF,qG,qA,qB,qC,D5,hF,hA,↓reduceIte,qD,qE, c1.2, e1]; with_reducible rfl) ?_
      simp only [ds]
      refine VD.callR (by simp only [D6,D5,hF,hA,↓reduceIte,qD,qE]; try rfl) (ih (q + 1) (by omega) (by omega) hw) (by simp only [D6,D5,hF,hA,↓reduceIte,qD,qE]; try rfl) (fun v1 Ha ⟨h1, ga, wa⟩ => ?_)
      subst h1
      refine VD.dins 5 (by simp +contextual (disch := first|omega|simp only [nx];omega) only [D4,qF,qG,qA,qB,qC,D5,hF,hA,↓reduceIte,qD,qE, wa.2.1.2, e1, e2]; with_reducible rfl) ?_
      simp only [ds]
      refine VD.callR (by simp only [D6,D5,hF,hA,↓reduceIte,qD,qE]; try rfl) (ih q (by omega) (by omega) wa) (by simp only [D6,D5,hF,hA,↓reduceIte,qD,qE]; try rfl) (fun v2 Hb ⟨h2, gb, wb⟩ => ?_)
      subst h2
      have c1' := ch_bound (n := n) q (by omega)
      have c2' := ch_bound (n := n) (q + 1) (by omega)
      have e3 : ((ch n (q + 1) : Nat) : Int) + ((ch n q : Nat) : Int) = ((ch z (q + 1) : Nat) : Int) := by rw [← hz, ch_ss]; omega
      have c3' := ch_bound (n := z) (q + 1) (by omega)
      refine VD.lineD' (by simp +contextual (disch := first|omega|simp only [nx];omega) only [D4,qF,qG,qA,qB,qC,D5,hF,hA,↓reduceIte,qD,qE, e3]; with_reducible rfl) ?_ ?_ rfl ?_
      · have n1 := ga.1
        have n2 := gb.1
        simp only [monoG, List.cons_append, List.nil_append, Heap.next_set, Heap.next_alloc, Nat.le_refl, true_and, and_true] <;> omega
      · simp only [dcAll, dcOk, wantD, List.cons_append, List.nil_append, true_and, and_true]
        exact fun _ q hq => by simp only [List.mem_cons, List.not_mem_nil, or_false] at hq; (repeat (rcases hq with rfl | hq; exact ⟨_, _, _, rfl, (by simp +contextual (disch := first|omega|simp only [nx];omega) only [D4,qF,qG,qA,qB,qC,D5,hF,hA,↓reduceIte,qD,qE, c1.2, wa.2.1.2, wb.2.1.2]; with_reducible rfl), fun p hp => by cases hp; simp only [D5,hF,hA,↓reduceIte,qD,qE]; first | exact vEq_An | (simp [vEq, vEq0, all2]; done) | assumption⟩)); (try (subst hq; exact ⟨_, _, _, rfl, (by simp +contextual (disch := first|omega|simp only [nx];omega) only [D4,qF,qG,qA,qB,qC,D5,hF,hA,↓reduceIte,qD,qE, c1.2, wa.2.1.2, wb.2.1.2]; with_reducible rfl), fun p hp => by cases hp; simp only [D5,hF,hA,↓reduceIte,qD,qE]; first | exact vEq_An | (simp [vEq, vEq0, all2]; done) | assumption⟩))
      obtain ⟨b4, c4, _, _, es4, hm4, ht4⟩ := id wb
      obtain ⟨o, hu, es5, hm5, ht5⟩ := upd_tab hm4 ht4 hn hk
      (repeat first|apply V.seq|apply V.block|apply V.scope|apply V.skip|apply V.close)
      refine V.line' (by simp +contextual (disch := first|omega|simp only [nx];omega) only [D4,qF,qG,qA,qB,qC,D5,hF,hA,↓reduceIte,qD,qE, b4.2, hu]; with_reducible rfl) ?_
      (repeat first|apply V.seq|apply V.block|apply V.scope|apply V.skip|apply V.close)
      refine V.line' (by simp +contextual (disch := first|omega|simp only [nx];omega) only [D4,qF,qG,qA,qB,qC,D5,hF,hA,↓reduceIte,qD,qE]; with_reducible rfl) ?_
      (repeat first|apply V.seq|apply V.block|apply V.scope|apply V.skip|apply V.close)
      refine V.ret (V.rets rfl (Lv.retF (by simp +contextual (disch := first|omega|simp only [nx];omega) only [D1, cells_alloc_at, cells_alloc_ne, cells_set_at, cells_set_ne, yres, yres1, yresL, qA, qB, qC, D5,hF,hA,↓reduceIte,qD,qE]; rfl) ?_))
      have gx : GrowX x Hb (Hb.set x o) := ((Grow.refl Hb).x x).set o
      exact ⟨rfl, (ga.trans gb).trans gx, b4.growX gx hix, c4.growX gx hjx, hix, hjx, es5, hm5, ht5⟩
end Go.Xe.TMX
/- What the statements MissWays and MissPascal come to. Conditions: none. -/
-- MOD TM
namespace Go.Xe.TMX
open Go Go.Xe Go.Proofs Go.Xe.Mth
open Nat renaming reduceLeDiff → qA, reduceSub → qB, reduceAdd → qC, reduceEqDiff → qD, reduceLT → qE
open Int renaming reduceNegSucc → qF, reduceEq → qG
set_option maxRecDepth 100000
set_option maxHeartbeats 3200000
set_option linter.unusedSimpArgs false
noncomputable def d3 : FCode := (.seq (.run (.go (.box 23 (.tmp (pth 2))) (pth 5)::
.go (.move (.con (.bool false))) (pth 6)::
[])) (.seq (.run (.go (.move (.tmp (pth 0))) (pth 10)::
.go (.move (.tmp (pth 1))) (pth 11)::
.go (.call (.con (.func (.func 19) ⟨[]⟩ ⟨[]⟩)) [(.tmp (pth 10)),(.tmp (pth 11))]) (pth 12)::
.go (.move (.tmp (pth 12))) (pth 9)::
.go (.extract (.tmp (pth 9)) 0) (pth 13)::
.go (.extract (.tmp (pth 9)) 1) (pth 14)::
.go (.move (.tmp (pth 13))) (pth 7)::
.go (.move (.tmp (pth 14))) (pth 8)::
[])) (.seq (.seq (.draw 6 (.go (.loadN 4 (.tmp (pth 5))) (pth 15)::
.go (.call (.con (.func (.func 21) ⟨[]⟩ ⟨[]⟩)) [(.tmp (pth 15))]) (pth 16)::
.go (.call (.con (.func (.func 20) ⟨[]⟩ ⟨[]⟩)) [(.tmp (pth 16))]) (pth 17)::
.go (.loadN 4 (.tmp (pth 5))) (pth 18)::
.go (.call (.con (.func (.func 22) ⟨[]⟩ ⟨[]⟩)) [(.tmp (pth 18))]) (pth 19)::
.go (.bin .neq 24 (.tmp (pth 17)) (.tmp (pth 19))) (pth 20)::
[]) [.ok,.ok,.ok,.rd none (.loadN 4 (.tmp (pth 5))) (some (pth 18)) [0,2],.ok,.ok]) (.cond (.tmp (pth 20)) (.seq (.run (.go (.move (.con (.bool false))) (pth 6)::
[])) .ret) .skip)) (.seq (.seq (.run (.go (.move (.tmp (pth 0))) (pth 21)::
.go (.call (.con (.func (.func 23) ⟨[]⟩ ⟨[]⟩)) [(.tmp (pth 21)),(.con (.int .i64 (.ofNat 0))),(.con (.int .i64 (.ofNat 60)))]) (pth 22)::
.go (.un .not (.tmp (pth 22))) (pth 23)::
.go (.move (.tmp (pth 23))) (pth 24)::
.gd (pth 24) false (.move (.tmp (pth 1))) (pth 25)::
.gd (pth 24) false (.call (.con (.func (.func 23) ⟨[]⟩ ⟨[]⟩)) [(.tmp (pth 25)),(.con (.int .i64 (.ofNat 0))),(.con (.int .i64 (.ofNat 60)))]) (pth 26)::
.gd (pth 24) false (.un .not (.tmp (pth 26))) (pth 27)::
.go (.pick (.tmp (pth 24)) (.con (.bool true)) (.tmp (pth 27))) (pth 28)::
[])) (.cond (.tmp (pth 28)) (.seq (.run (.go (.move (.tmp (pth 8))) (pth 29)::
.go (.bin .eql 24 (.tmp (pth 29)) (.con (.int .i64 (.ofNat 2)))) (pth 30)::
.go (.move (.tmp (pth 30))) (pth 31)::
.gd (pth 31) true (.move (.tmp (pth 7))) (pth 32)::
.gd (pth 31) true (.bin .eql 3 (.tmp (pth 32)) (.con (.int .i64 (.ofNat 0)))) (pth 33)::
.go (.pick (.tmp (pth 31)) (.tmp (pth 33)) (.con (.bool false))) (pth 34)::
.go (.move (.tmp (pth 34))) (pth 35)::
.gd (pth 35) true (.call (.con (.func (.func 24) ⟨[]⟩ ⟨[]⟩)) []) (pth 36)::
.go (.pick (.tmp (pth 35)) (.tmp (pth 36)) (.con (.bool false))) (pth 37)::
.go (.move (.tmp (pth 37))) (pth 6)::
[])) .ret) .skip)) (.seq (.run (.go (.move (.tmp (pth 8))) (pth 38)::
.go (.bin .eql 24 (.tmp (pth 38)) (.con (.int .i64 (.ofNat 0)))) (pth 39)::
.go (.move (.tmp (pth 39))) (pth 40)::
.gd (pth 40) true (.move (.tmp (pth 7))) (pth 41)::
.gd (pth 40) true (.move (.tmp (pth 0))) (pth 42)::
.gd (pth 40) true (.move (.tmp (pth 1))) (pth 43)::
.gd (pth 40) true (.call (.con (.func (.func 25) ⟨[]⟩ ⟨[]⟩)) [(.tmp (pth 42)),(.tmp (pth 43))]) (pth 44)::
.gd (pth 40) true (.bin .eql 3 (.tmp (pth 41)) (.tmp (pth 44))) (pth 45)::
.go (.pick (.tmp (pth 40)) (.tmp (pth 45)) (.con (.bool false))) (pth 46)::
.go (.move (.tmp (pth 46))) (pth 47)::
.gd (pth 47) true (.call (.con (.func (.func 24) ⟨[]⟩ ⟨[]⟩)) []) (pth 48)::
.go (.pick (.tmp (pth 47)) (.tmp (pth 48)) (.con (.bool false))) (pth 49)::
.go (.move (.tmp (pth 49))) (pth 6)::
[])) .ret)))))
def wv (n k : Int) : Prop := (0 ≤ n ∧ n ≤ 60) ∧ (0 ≤ k ∧ k ≤ 60)
instance (n k : Int) : Decidable (wv n k) := by unfold wv; infer_instance
end Go.Xe.TMX
