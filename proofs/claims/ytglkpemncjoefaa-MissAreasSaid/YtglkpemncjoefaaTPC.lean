/- Rules of reasoning over the executable reading of the model's code (part Z22): slices of slices. Conditions: none; for every program. -/
import Derived.Test.YtglkpemncjoefaaZu
namespace Go.Xe
open Go
def blkN : Value → Option Nat
  | .slice (some ⟨i, _, none⟩) _ _ => some i
  | _ => none
def SepN (s x : Value) : Prop := ∀ i, blkN x = some i → blk s ≠ some i
theorem Sl.apart {A B : Heap} {s x : Value} {l : List Value} (h : Apart A B s) (hs : SepN s x) (k : Sl A x l) : Sl B x l := by
  cases k with
  | nil => exact .nil
  | spot i o s => exact .spot i o s
  | «at» hi hc hn hl hss hv =>
    rename_i i o n c a el rw
    refine .at (el := el) (rw := rw) (Nat.lt_of_lt_of_le hi h.1) ?_ hn hl hss hv
    have := h.2 i hi (fun o n c e => by subst e; exact hs i rfl rfl)
    unfold Heap.cellsAt at hc ⊢
    rw [this]; exact hc
theorem Sw.apart {w : Nat} {A B : Heap} {s x : Value} {l : List (List Value)} (h : Apart A B s) (hs : SepN s x) (k : Sw w A x l) : Sw w B x l := by
  cases k with
  | nil => exact .nil
  | spot i o s => exact .spot i o s
  | «at» hi hc hn hl hss hv =>
    rename_i i o n c a el rw
    refine .at (el := el) (rw := rw) (Nat.lt_of_lt_of_le hi h.1) ?_ hn hl hss hv
    have := h.2 i hi (fun o n c e => by subst e; exact hs i rfl rfl)
    unfold Heap.cellsAt at hc ⊢
    rw [this]; exact hc
structure RP {α : Type} (R : Heap → Value → α → Prop) : Prop where
  grow : ∀ {A B x r}, Grow A B → R A x r → R B x r
  apart : ∀ {A B s x r}, Apart A B s → SepN s x → R A x r → R B x r
  lt : ∀ {A x r i}, R A x r → blkN x = some i → i < A.next
  loc : ∀ {A B x r}, R A x r → A.next ≤ B.next → (∀ i, blkN x = some i → B.get i = A.get i) → R B x r
  sl : ∀ {A x r}, R A x r → ∃ p n c, x = .slice p n c
def Nest {α : Type} (R : Heap → Value → α → Prop) (H : Heap) (v : Value) (L : List α) : Prop := ∃ vs : List Value, Sl H v vs ∧ vs.length = L.length ∧ ∀ (k : Nat) (x : Value) (r : α), vs[k]? = some x → L[k]? = some r → R H x r
theorem Nest.grow {α : Type} {R : Heap → Value → α → Prop} (hR : RP R) {A B : Heap} (g : Grow A B) {v : Value} {L : List α} (h : Nest R A v L) : Nest R B v L := by
  obtain ⟨vs, h1, h2, h3⟩ := h
  exact ⟨vs, h1.grow g, h2, fun k x r hx hr => hR.grow g (h3 k x r hx hr)⟩
theorem Nest.len {α : Type} {R : Heap → Value → α → Prop} {H : Heap} {v : Value} {L : List α} (h : Nest R H v L) (X : Heap) : ylen 0 X v = some (.int .i64 L.length) := by
  obtain ⟨vs, h1, h2, h3⟩ := h
  have := h1.len
  rw [h2] at this
  cases h1 <;> exact this
theorem Nest.at {α : Type} {R : Heap → Value → α → Prop} (hR : RP R) {H : Heap} {v : Value} {L : List α} (h : Nest R H v L) {k : Nat} (hk : k < L.length) :
    ∃ p x, (∀ kd, yindexAddr none 1 v (.int kd k) = some p) ∧ ∀ H', Grow H H' → yload1 H' p = some x ∧ R H' x L[k] := by
  obtain ⟨vs, h1, h2, h3⟩ := h
  have e : vs[k]? = some vs[k] := by simp [h2, hk]
  have hx := h3 k _ L[k] e (by simp [hk])
  have := h1.get e rfl (kd := .i64)
  obtain ⟨p, q1, q2⟩ := this
  refine ⟨p, vs[k], fun kd => ?_, fun H' g => ⟨q2 H' g, hR.grow g hx⟩⟩
  cases h1 with
  | nil => simp at e
  | spot => simp at e
  | «at» => simpa only [yindexAddr] using q1
def OwN {α : Type} (R : Heap → Value → α → Prop) (H0 H : Heap) (e : TypeId) (s : Value) (L : List α) : Prop := ∃ vs : List Value, Ow H0 H e s vs ∧ vs.length = L.length ∧ ∀ (k : Nat) (x : Value) (r : α), vs[k]? = some x → L[k]? = some r → R H x r ∧ SepN s x
theorem OwN.nil {α : Type} {R : Heap → Value → α → Prop} {H0 H : Heap} {e : TypeId} : OwN R H0 H e (.slice none 0 0) [] := ⟨[], .nil, rfl, fun k x r h => by simp at h⟩
theorem OwN.keep {α : Type} {R : Heap → Value → α → Prop} (hR : RP R) {H0 H H' : Heap} {e : TypeId} {s : Value} {L : List α} (h : OwN R H0 H e s L) (g : Grow H H') : OwN R H0 H' e s L := by
  obtain ⟨vs, h1, h2, h3⟩ := h
  exact ⟨vs, h1.keep g, h2, fun k x r hx hr => ⟨hR.grow g (h3 k x r hx hr).1, (h3 k x r hx hr).2⟩⟩
theorem OwN.base {α : Type} {R : Heap → Value → α → Prop} {A B H : Heap} {e : TypeId} {s : Value} {L : List α} (h : OwN R A H e s L) (hn : B.next ≤ A.next) : OwN R B H e s L := by
  obtain ⟨vs, h1, h2, h3⟩ := h
  refine ⟨vs, ?_, h2, h3⟩
  rcases h1 with h | ⟨i, h1, h2, h3, h4⟩
  · exact .inl h
  · exact .inr ⟨i, by omega, h2, h3, h4⟩
theorem OwN.push {α : Type} {R : Heap → Value → α → Prop} (hR : RP R) {H0 H : Heap} {e : TypeId} {bytes : Nat} {s x : Value} {L : List α} {r : α} (g : Grow H0 H) (hs : OwN R H0 H e s L) (hx : R H x r) (hsx : SepN s x) (hb : (2 * (L.length + 1) + 256) * bytes ≤ 281474976710656) (h2 : L.length + 1 ≤ 281474976710656) :
    ∃ w H', yappend e 1 bytes (H.alloc (.cells ⟨[x]⟩ e true)) s (.slice (some ⟨H.next, 0, none⟩) 1 1) = some (w, H') ∧ OwN R H0 H' e w (L ++ [r]) ∧ Grow H0 H' ∧ Apart H H' s ∧ blk w = some (H.next + 1) ∧ inBound H'.next 3 w = true ∧ H.next + 1 ≤ H'.next ∧ H'.cellsAt H.next = some (⟨[x]⟩, e, true) := by
  obtain ⟨vs, o, hl, hv⟩ := hs
  obtain ⟨p, n, c, rfl⟩ := hR.sl hx
  have hok : [Value.slice p n c].all ok1 = true := by simp [ok1_slice]
  have hb' : (2 * (vs.length + 1) + 256) * bytes ≤ 281474976710656 := by rw [hl]; exact hb
  obtain ⟨w, H', k1, k2, k3, k4, k5, k6, k7, k8⟩ := o.push (bytes := bytes) (r := [Value.slice p n c]) g hok (by simp) hb' (by rw [hl]; exact h2)
  refine ⟨w, H', k1, ⟨_, k2, by simp [hl], ?_⟩, k3, k4, k5, k6, k7, k8⟩
  intro k y q hy hq
  rw [List.getElem?_append] at hy hq
  have key : ∀ {y q}, R H y q → SepN s y → R H' y q ∧ SepN w y := by
    intro y q h1 h2
    refine ⟨hR.apart k4 h2 h1, fun i hi => ?_⟩
    have := hR.lt h1 hi
    rw [k5]
    simp only [ne_eq, Option.some.injEq]
    omega
  split at hy
  · rename_i hk
    rw [if_pos (by omega)] at hq
    obtain ⟨h1, h2⟩ := hv k y q hy hq
    exact key h1 h2
  · rename_i hk
    rw [if_neg (by omega)] at hq
    have e0 : k - vs.length = 0 := by
      have := (List.getElem?_eq_some_iff.1 hy).1
      simp at this; omega
    rw [e0] at hy
    rw [← hl, e0] at hq
    simp only [List.getElem?_cons_zero, Option.some.injEq] at hy hq
    subst hy; subst hq
    exact key hx hsx
def Keep (n : Nat) (H H' : Heap) : Prop := H.next ≤ H'.next ∧ ∀ j, j < n → H'.get j = H.get j
theorem Keep.grow {n : Nat} {B H H' : Heap} (k : Keep n H H') (g : Grow B H) (hn : B.next ≤ n) : Grow B H' :=
  ⟨Nat.le_trans g.1 k.1, fun i hi => by rw [k.2 i (by omega)]; exact g.2 i hi⟩
theorem Keep.trans {n : Nat} {A B C : Heap} (h : Keep n A B) (k : Keep n B C) : Keep n A C := ⟨Nat.le_trans h.1 k.1, fun j hj => (k.2 j hj).trans (h.2 j hj)⟩
end Go.Xe
/- What the functions of the layer miss come to: several areas, as the statements have them. Conditions: none. -/
-- MOD TM
namespace Go.Xe.TMX
open Go Go.Xe Go.Proofs Go.Xe.Mth
open Nat (reduceLeDiff reduceSub reduceAdd reduceEqDiff reduceLT)
open Int (reduceNegSucc reduceEq)
set_option maxRecDepth 100000
set_option maxHeartbeats 3200000
set_option linter.unusedSimpArgs false
noncomputable def d35 : FCode := (.seq (.run (.go (.move (.con (.slice none 0 0))) (pth 2)::
[])) (.seq (.run (.go (.move (.con (.slice none 0 0))) (pth 3)::
[])) (.seq (.seq (.run (.go (.move (.con (.int .i64 (.ofNat 0)))) (pth 4)::
[])) (.block 0 (.loop (.seq (.seq (.run (.go (.move (.tmp (pth 4))) (pth 5)::
.go (.move (.tmp (pth 0))) (pth 6)::
.go (.len 0 (.tmp (pth 6))) (pth 7)::
.go (.bin .lss 3 (.tmp (pth 5)) (.tmp (pth 7))) (pth 8)::
[])) (.cond (.tmp (pth 8)) .skip (.exit 0))) (.seq (.block 1 (.run (.go (.move (.tmp (pth 3))) (pth 11)::
.go (.move (.tmp (pth 0))) (pth 12)::
.go (.move (.tmp (pth 4))) (pth 13)::
.go (.indexAddr none 4 (.tmp (pth 12)) (.tmp (pth 13))) (pth 14)::
.go (.loadN 4 (.tmp (pth 14))) (pth 15)::
.go (.call (.con (.func (.func 21) ⟨[]⟩ ⟨[]⟩)) [(.tmp (pth 15))]) (pth 16)::
.go (.buildSlice 28 1 [(.int .i64 (.ofNat 0)),(.int .i64 (.ofNat 0)),(.int .i64 (.ofNat 0)),(.int .i64 (.ofNat 0))] [(0,4,(.tmp (pth 16)))]) (pth 17)::
.go (.append 28 4 32 (.tmp (pth 11)) (.tmp (pth 17))) (pth 18)::
.go (.move (.tmp (pth 18))) (pth 3)::
[]))) (.run (.go (.move (.tmp (pth 4))) (pth 9)::
.go (.bin .add 3 (.tmp (pth 9)) (.con (.int .i64 (.ofNat 1)))) (pth 10)::
.go (.move (.tmp (pth 10))) (pth 4)::
[]))))))) (.seq (.run (.go (.move (.tmp (pth 3))) (pth 19)::
.go (.move (.tmp (pth 19))) (pth 2)::
[])) .ret))))
theorem de35 : @compF Try.prog (Gl.none Try.prog) Try.f35 1 = .mk d35 (mkTT 20) [(pth 0)] [.tmp (pth 2)] := by kernel_rfl
theorem dg35 : Try.prog.funcs[35]? = some Try.f35 := Try.func35
theorem do35 : okF Try.prog Try.f35 = true := by kernel_rfl
theorem q4_len (L : List Q4) : ∀ x ∈ L.map q4, x.length = 4 := by
  intro x hx
  obtain ⟨r, _, rfl⟩ := List.mem_map.1 hx
  rfl
theorem f35_ok {H : Heap} {v : Value} {L : List Q4} (h : Sw 4 H v (L.map q4)) (hn : L.length ≤ 1048576) : F Try.prog 35 ⟨[v]⟩ H (fun w X => Grow H X ∧ OwW 4 H X 28 w (L.map q4)) := by
  have hl : ∀ X, ylen 0 X v = some (I L.length) := fun X => by rw [Sw.lenA h X, List.length_map]
  refine F.entryL rfl dg35 do35 de35 rfl (by kernel_rfl) ?_
  simp only [sets]
  refine V.re [(0, v)] (N := 20) (by intro i; simp only [full_st, Full.mk]) (by simp only [Kn, gt_st, full_st, Full.mk, ↓reduceIte, reduceEqDiff, reduceLT, decide_true, and_self]) ?_
  intro t hF hA
  simp only [Kn, and_true] at hA
  (repeat first|apply V.seq|apply V.block|apply V.scope|apply V.skip|apply V.close)
  refine V.line' (by simp +contextual (disch := first|omega|simp only [nx];omega) only [D4,reduceNegSucc,reduceEq,reduceLeDiff,reduceSub,reduceAdd,D5,hF,hA,↓reduceIte,reduceEqDiff,reduceLT]; with_reducible rfl) ?_
  (repeat first|apply V.seq|apply V.block|apply V.scope|apply V.skip|apply V.close)
  refine V.line' (by simp +contextual (disch := first|omega|simp only [nx];omega) only [D4,reduceNegSucc,reduceEq,reduceLeDiff,reduceSub,reduceAdd,D5,hF,hA,↓reduceIte,reduceEqDiff,reduceLT]; with_reducible rfl) ?_
  (repeat first|apply V.seq|apply V.block|apply V.scope|apply V.skip|apply V.close)
  refine V.line' (by simp +contextual (disch := first|omega|simp only [nx];omega) only [D4,reduceNegSucc,reduceEq,reduceLeDiff,reduceSub,reduceAdd,D5,hF,hA,↓reduceIte,reduceEqDiff,reduceLT]; with_reducible rfl) ?_
  (repeat first|apply V.seq|apply V.block|apply V.scope|apply V.skip|apply V.close)
  refine V.loop (fun z t m X => ∃ (k : Nat) (s : Value), k ≤ L.length ∧ z = L.length - k ∧ m = [] ∧ Grow H X ∧ OwW 4 H X 28 s ((L.take k).map q4) ∧ Full 20 t ∧ Kn [(0, v), (3, s), (4, I k)] t) L.length ?_ ?_
  · exact ⟨0, _, by omega, by omega, rfl, .refl _, by rw [List.take_zero]; exact .nil, (by intro i; simp only [full_st, hF]), (by simp only [Kn, D5,hF,hA,↓reduceIte,reduceEqDiff,reduceLT, and_self, and_true, true_and]; try (repeat' constructor))⟩
  clear hF hA
  rintro z t m X ⟨k, s, hk, rfl, rfl, hg, os, hF, hA⟩
  simp only [Kn, and_true] at hA
  (repeat first|apply V.seq|apply V.block|apply V.scope|apply V.skip|apply V.close)
  refine V.line' (by simp +contextual (disch := first|omega|simp only [nx];omega) only [D4,reduceNegSucc,reduceEq,reduceLeDiff,reduceSub,reduceAdd,D5,hF,hA,↓reduceIte,reduceEqDiff,reduceLT, hl]; with_reducible rfl) ?_
  (repeat first|apply V.seq|apply V.block|apply V.scope|apply V.skip|apply V.close)
  refine V.condP (by simp only [D6,D5,hF,hA,↓reduceIte,reduceEqDiff,reduceLT]; rfl) (fun hlt => ?_) (fun hlt => ?_)
  · have hlt' : k < L.length := by omega
    obtain ⟨q, hq1, hq2⟩ := h.get (w := 4) (by decide) (n := k) (k := k) (x := q4 L[k]) (kd := .i64) (by simp [hlt']) rfl
    have hq3 := hq2 _ hg
    have e0 : q4 L[k] = A4 L[k].1 L[k].2.1 L[k].2.2.1 L[k].2.2.2 := rfl
    rw [e0] at hq3
    (repeat first|apply V.seq|apply V.block|apply V.scope|apply V.skip|apply V.close)
    refine V.run ?_
    refine VI.steps' 5 (by simp +contextual (disch := first|omega|simp only [nx];omega) only [D4,reduceNegSucc,reduceEq,reduceLeDiff,reduceSub,reduceAdd,D5,hF,hA,↓reduceIte,reduceEqDiff,reduceLT, hq1, hq3]; with_reducible rfl) ?_
    simp only [ds]
    refine VI.callA rfl (f21_ok L[k].1 L[k].2.1 L[k].2.2.1 L[k].2.2.2 X) (by simp only [D6,D5,hF,hA,↓reduceIte,reduceEqDiff,reduceLT]; try rfl) (fun X1 g1 => ?_)
    have os1 := os.keep g1
    obtain ⟨w, X2, k1, k2, k3, k4, k5, k6⟩ := OwW.push (x := q4 L[k]) (bytes := 32) (by decide) (hg.trans g1) os1 (q4_len _) rfl rfl (by rw [List.length_map, List.length_take]; omega) (by rw [List.length_map, List.length_take]; omega)
    rw [e0] at k1 k6
    refine VI.line' (by simp +contextual (disch := first|omega|simp only [nx];omega) only [D4,reduceNegSucc,reduceEq,reduceLeDiff,reduceSub,reduceAdd,D5,hF,hA,↓reduceIte,reduceEqDiff,reduceLT, k1]; with_reducible rfl) ?_
    (repeat first|apply V.seq|apply V.block|apply V.scope|apply V.skip|apply V.close)
    refine V.line' (by simp +contextual (disch := first|omega|simp only [nx];omega) only [D4,reduceNegSucc,reduceEq,reduceLeDiff,reduceSub,reduceAdd,D5,hF,hA,↓reduceIte,reduceEqDiff,reduceLT]; with_reducible rfl) ?_
    refine V.nil (Or.inl ⟨rfl, L.length - (k + 1), by omega, ?_⟩)
    refine ⟨k + 1, w, by omega, rfl, rfl, k3, ?_, (by intro i; simp only [full_st, hF]), (by simp only [Kn, D5,hF,hA,↓reduceIte,reduceEqDiff,reduceLT, and_self, and_true, true_and]; try (repeat' constructor))⟩
    rw [List.take_succ_eq_append_getElem hlt', List.map_append]
    exact k2
  · refine V.exit ?_
    (repeat first | refine V.pass ?_ | refine V.here ?_ | refine V.out (by decide) ?_)
    refine V.nil (Or.inr ⟨by simp, ?_⟩)
    (repeat first | refine V.pass ?_ | refine V.here ?_ | refine V.out (by decide) ?_)
    (repeat first|apply V.seq|apply V.block|apply V.scope|apply V.skip|apply V.close)
    refine V.line' (by simp +contextual (disch := first|omega|simp only [nx];omega) only [D4,reduceNegSucc,reduceEq,reduceLeDiff,reduceSub,reduceAdd,D5,hF,hA,↓reduceIte,reduceEqDiff,reduceLT]; with_reducible rfl) ?_
    (repeat first|apply V.seq|apply V.block|apply V.scope|apply V.skip|apply V.close)
    refine V.ret (V.rets rfl (Lv.retF (by simp +contextual (disch := first|omega|simp only [nx];omega) only [D1, cells_alloc_at, cells_alloc_ne, cells_set_at, cells_set_ne, yres, yres1, yresL, reduceLeDiff, reduceSub, reduceAdd, D5,hF,hA,↓reduceIte,reduceEqDiff,reduceLT]; rfl) ?_))
    have e : L.take k = L := List.take_of_length_le (by omega)
    rw [e] at os
    exact ⟨hg, os⟩
end Go.Xe.TMX
/- What the statement MissTotals comes to. Conditions: none. -/
-- MOD TM
namespace Go.Xe.TMX
open Go Go.Xe Go.Proofs Go.Xe.Mth
open Nat renaming reduceLeDiff → qA, reduceSub → qB, reduceAdd → qC, reduceEqDiff → qD, reduceLT → qE
open Int renaming reduceNegSucc → qF, reduceEq → qG
set_option maxRecDepth 100000
set_option maxHeartbeats 6400000
set_option linter.unusedSimpArgs false
noncomputable def d6 : FCode := (.seq (.run (.go (.box 41 (.tmp (pth 1))) (pth 3)::
.go (.move (.con (.bool false))) (pth 4)::
[])) (.seq (.seq (.run (.go (.move (.tmp (pth 0))) (pth 17)::
.go (.len 0 (.tmp (pth 17))) (pth 18)::
.go (.bin .gtr 3 (.tmp (pth 18)) (.con (.int .i64 (.ofNat 9)))) (pth 19)::
[])) (.cond (.tmp (pth 19)) (.seq (.run (.go (.call (.con (.func (.func 24) ⟨[]⟩ ⟨[]⟩)) []) (pth 20)::
.go (.move (.tmp (pth 20))) (pth 4)::
[])) .ret) .skip)) (.seq (.draw 11 (.go (.move (.tmp (pth 0))) (pth 22)::
.go (.call (.con (.func (.func 35) ⟨[]⟩ ⟨[]⟩)) [(.tmp (pth 22))]) (pth 23)::
.go (.loadN 2 (.tmp (pth 3))) (pth 24)::
.go (.call (.con (.func (.func 28) ⟨[]⟩ ⟨[]⟩)) [(.tmp (pth 24))]) (pth 25)::
.go (.call (.con (.func (.func 34) ⟨[]⟩ ⟨[]⟩)) [(.tmp (pth 23)),(.tmp (pth 25))]) (pth 26)::
.go (.move (.tmp (pth 26))) (pth 21)::
.go (.extract (.tmp (pth 21)) 0) (pth 27)::
.go (.extract (.tmp (pth 21)) 1) (pth 28)::
.go (.alloc 53 [(.int .i64 (.ofNat 0)),(.int .i64 (.ofNat 0))]) (pth 5)::
.un (.store 2 (.tmp (pth 5)) (.tmp (pth 27)))::
.go (.move (.tmp (pth 28))) (pth 6)::
[]) [.ok,.ok,.rd none (.loadN 2 (.tmp (pth 3))) (some (pth 24)) [0],.ok,.ok,.ok,.ok,.ok,.nw none (some (pth 5)) 8 true,.ok,.ok]) (.seq (.run (.go (.move (.con (.int .i64 (.ofNat 0)))) (pth 7)::
[])) (.seq (.seq (.run (.go (.move (.con (.int .i64 (.ofNat 0)))) (pth 8)::
[])) (.block 0 (.loop (.seq (.seq (.run (.go (.move (.tmp (pth 8))) (pth 29)::
.go (.move (.tmp (pth 0))) (pth 30)::
.go (.len 0 (.tmp (pth 30))) (pth 31)::
.go (.bin .lss 3 (.tmp (pth 29)) (.tmp (pth 31))) (pth 32)::
[])) (.cond (.tmp (pth 32)) .skip (.exit 0))) (.seq (.block 1 (.seq (.run (.go (.move (.tmp (pth 0))) (pth 35)::
.go (.move (.tmp (pth 8))) (pth 36)::
.go (.indexAddr none 4 (.tmp (pth 35)) (.tmp (pth 36))) (pth 37)::
.go (.loadN 4 (.tmp (pth 37))) (pth 38)::
.go (.call (.con (.func (.func 22) ⟨[]⟩ ⟨[]⟩)) [(.tmp (pth 38))]) (pth 39)::
.go (.bin .neq 24 (.tmp (pth 39)) (.con (.int .i64 (.ofNat 0)))) (pth 40)::
[])) (.cond (.tmp (pth 40)) (.run (.go (.move (.con (.int .i64 (.ofNat 1)))) (pth 7)::
[])) .skip))) (.run (.go (.move (.tmp (pth 8))) (pth 33)::
.go (.bin .add 3 (.tmp (pth 33)) (.con (.int .i64 (.ofNat 1)))) (pth 34)::
.go (.move (.tmp (pth 34))) (pth 8)::
[]))))))) (.seq (.seq (.run (.go (.move (.tmp (pth 7))) (pth 41)::
.go (.bin .eql 24 (.tmp (pth 41)) (.con (.int .i64 (.ofNat 0)))) (pth 42)::
.go (.move (.tmp (pth 42))) (pth 43)::
.gd (pth 43) true (.loadN 2 (.tmp (pth 3))) (pth 44)::
.gd (pth 43) true (.call (.con (.func (.func 36) ⟨[]⟩ ⟨[]⟩)) [(.tmp (pth 44))]) (pth 45)::
.gd (pth 43) true (.un .not (.tmp (pth 45))) (pth 46)::
.go (.pick (.tmp (pth 43)) (.tmp (pth 46)) (.con (.bool false))) (pth 47)::
[])) (.cond (.tmp (pth 47)) (.run (.go (.move (.con (.int .i64 (.ofNat 2)))) (pth 7)::
[])) .skip)) (.seq (.seq (.run (.go (.move (.tmp (pth 0))) (pth 48)::
.go (.len 0 (.tmp (pth 48))) (pth 49)::
.go (.bin .gtr 3 (.tmp (pth 49)) (.con (.int .i64 (.ofNat 6)))) (pth 50)::
[])) (.cond (.tmp (pth 50)) (.run (.go (.move (.con (.int .i64 (.ofNat 3)))) (pth 7)::
[])) .skip)) (.seq (.run (.go (.alloc 59 [(.int .i64 (.ofNat 0)),(.int .i64 (.ofNat 0))]) (pth 9)::
[])) (.seq (.seq (.run (.go (.move (.con (.int .i64 (.ofNat 0)))) (pth 10)::
[])) (.block 2 (.loop (.seq (.seq (.run (.go (.move (.tmp (pth 10))) (pth 51)::
.go (.move (.tmp (pth 0))) (pth 52)::
.go (.len 0 (.tmp (pth 52))) (pth 53)::
.go (.bin .lss 3 (.tmp (pth 51)) (.tmp (pth 53))) (pth 54)::
.go (.move (.tmp (pth 54))) (pth 55)::
.gd (pth 55) true (.move (.tmp (pth 7))) (pth 56)::
.gd (pth 55) true (.bin .eql 24 (.tmp (pth 56)) (.con (.int .i64 (.ofNat 0)))) (pth 57)::
.go (.pick (.tmp (pth 55)) (.tmp (pth 57)) (.con (.bool false))) (pth 58)::
[])) (.cond (.tmp (pth 58)) .skip (.exit 2))) (.seq (.block 3 (.seq (.draw 12 (.go (.move (.tmp (pth 0))) (pth 62)::
.go (.move (.tmp (pth 10))) (pth 63)::
.go (.indexAddr none 4 (.tmp (pth 62)) (.tmp (pth 63))) (pth 64)::
.go (.loadN 4 (.tmp (pth 64))) (pth 65)::
.go (.loadN 2 (.tmp (pth 3))) (pth 66)::
.go (.call (.con (.func (.func 37) ⟨[]⟩ ⟨[]⟩)) [(.tmp (pth 65)),(.tmp (pth 66))]) (pth 67)::
.go (.move (.tmp (pth 67))) (pth 61)::
.go (.extract (.tmp (pth 61)) 0) (pth 68)::
.go (.extract (.tmp (pth 61)) 1) (pth 69)::
.go (.alloc 59 [(.int .i64 (.ofNat 0)),(.int .i64 (.ofNat 0))]) (pth 11)::
.un (.store 2 (.tmp (pth 11)) (.tmp (pth 68)))::
.go (.move (.tmp (pth 69))) (pth 12)::
[]) [.ok,.ok,.ok,.ok,.ok,.ok,.ok,.ok,.ok,.nw none (some (pth 11)) 9 true,.ok,.ok]) (.seq (.seq (.run (.go (.move (.tmp (pth 12))) (pth 70)::
.go (.un .not (.tmp (pth 70))) (pth 71)::
[])) (.cond (.tmp (pth 71)) (.run (.go (.move (.con (.int .i64 (.ofNat 9)))) (pth 7)::
[])) .skip)) (.run (.go (.fieldAddr 0 (.tmp (pth 9))) (pth 72)::
.go (.load1 (.tmp (pth 72))) (pth 73)::
.go (.fieldAddr 0 (.tmp (pth 11))) (pth 74)::
.go (.load1 (.tmp (pth 74))) (pth 75)::
.go (.bin .add 3 (.tmp (pth 73)) (.tmp (pth 75))) (pth 76)::
.go (.fieldAddr 1 (.tmp (pth 9))) (pth 77)::
.go (.load1 (.tmp (pth 77))) (pth 78)::
.go (.fieldAddr 1 (.tmp (pth 11))) (pth 79)::
.go (.load1 (.tmp (pth 79))) (pth 80)::
.go (.bin .add 3 (.tmp (pth 78)) (.tmp (pth 80))) (pth 81)::
.go (.build [(.int .i64 (.ofNat 0)),(.int .i64 (.ofNat 0))] [(0,1,(.tmp (pth 76))),(1,1,(.tmp (pth 81)))]) (pth 82)::
.un (.store 2 (.tmp (pth 9)) (.tmp (pth 82)))::
[]))))) (.run (.go (.move (.tmp (pth 10))) (pth 59)::
.go (.bin .add 3 (.tmp (pth 59)) (.con (.int .i64 (.ofNat 1)))) (pth 60)::
.go (.move (.tmp (pth 60))) (pth 10)::
[]))))))) (.seq (.seq (.run (.go (.move (.tmp (pth 7))) (pth 83)::
.go (.bin .neq 24 (.tmp (pth 83)) (.con (.int .i64 (.ofNat 0)))) (pth 84)::
[])) (.cond (.tmp (pth 84)) (.run (.go (.build [(.int .i64 (.ofNat 0)),(.int .i64 (.ofNat 0))] []) (pth 85)::
.un (.store 2 (.tmp (pth 9)) (.tmp (pth 85)))::
[])) .skip)) (.seq (.seq (.draw 9 (.go (.move (.tmp (pth 6))) (pth 86)::
.go (.move (.tmp (pth 7))) (pth 87)::
.go (.bin .neq 24 (.tmp (pth 86)) (.tmp (pth 87))) (pth 88)::
.go (.move (.tmp (pth 88))) (pth 89)::
.gd (pth 89) false (.loadN 2 (.tmp (pth 5))) (pth 90)::
.gd (pth 89) false (.loadN 2 (.tmp (pth 9))) (pth 91)::
.gd (pth 89) false (.call (.con (.func (.func 38) ⟨[]⟩ ⟨[]⟩)) [(.tmp (pth 91))]) (pth 92)::
.gd (pth 89) false (.bin .neq 53 (.tmp (pth 90)) (.tmp (pth 92))) (pth 93)::
.go (.pick (.tmp (pth 89)) (.con (.bool true)) (.tmp (pth 93))) (pth 94)::
[]) [.ok,.ok,.ok,.ok,.rd (some ((pth 89),false)) (.loadN 2 (.tmp (pth 5))) (some (pth 90)) [7],.ok,.ok,.ok,.ok]) (.cond (.tmp (pth 94)) (.seq (.run (.go (.move (.con (.bool false))) (pth 4)::
[])) .ret) .skip)) (.seq (.seq (.run (.go (.move (.tmp (pth 0))) (pth 95)::
.go (.len 0 (.tmp (pth 95))) (pth 96)::
.go (.bin .eql 3 (.tmp (pth 96)) (.con (.int .i64 (.ofNat 0)))) (pth 97)::
[])) (.cond (.tmp (pth 97)) (.seq (.run (.go (.call (.con (.func (.func 24) ⟨[]⟩ ⟨[]⟩)) []) (pth 98)::
.go (.move (.tmp (pth 98))) (pth 4)::
[])) .ret) .skip)) (.seq (.draw 13 (.go (.move (.tmp (pth 0))) (pth 100)::
.go (.indexAddr none 4 (.tmp (pth 100)) (.con (.int .i64 (.ofNat 0)))) (pth 101)::
.go (.loadN 4 (.tmp (pth 101))) (pth 102)::
.go (.call (.con (.func (.func 21) ⟨[]⟩ ⟨[]⟩)) [(.tmp (pth 102))]) (pth 103)::
.go (.loadN 2 (.tmp (pth 3))) (pth 104)::
.go (.call (.con (.func (.func 28) ⟨[]⟩ ⟨[]⟩)) [(.tmp (pth 104))]) (pth 105)::
.go (.call (.con (.func (.func 39) ⟨[]⟩ ⟨[]⟩)) [(.tmp (pth 103)),(.tmp (pth 105))]) (pth 106)::
.go (.move (.tmp (pth 106))) (pth 99)::
.go (.extract (.tmp (pth 99)) 0) (pth 107)::
.go (.extract (.tmp (pth 99)) 1) (pth 108)::
.go (.alloc 53 [(.int .i64 (.ofNat 0)),(.int .i64 (.ofNat 0))]) (pth 13)::
.un (.store 2 (.tmp (pth 13)) (.tmp (pth 107)))::
.go (.move (.tmp (pth 108))) (pth 14)::
[]) [.ok,.ok,.ok,.ok,.rd none (.loadN 2 (.tmp (pth 3))) (some (pth 104)) [0],.ok,.ok,.ok,.ok,.ok,.nw none (some (pth 13)) 10 true,.ok,.ok]) (.seq (.block 4 (.seq (.run (.go (.move (.tmp (pth 0))) (pth 110)::
.go (.indexAddr none 4 (.tmp (pth 110)) (.con (.int .i64 (.ofNat 0)))) (pth 111)::
.go (.loadN 4 (.tmp (pth 111))) (pth 112)::
.go (.call (.con (.func (.func 22) ⟨[]⟩ ⟨[]⟩)) [(.tmp (pth 112))]) (pth 113)::
.go (.bin .neq 24 (.tmp (pth 113)) (.con (.int .i64 (.ofNat 0)))) (pth 114)::
.go (.move (.tmp (pth 114))) (pth 109)::
[])) (.cond (.tmp (pth 109)) (.seq (.run (.go (.move (.tmp (pth 14))) (pth 115)::
.go (.bin .eql 24 (.tmp (pth 115)) (.con (.int .i64 (.ofNat 1)))) (pth 116)::
.go (.move (.tmp (pth 116))) (pth 117)::
.gd (pth 117) true (.loadN 2 (.tmp (pth 13))) (pth 118)::
.gd (pth 117) true (.build [(.int .i64 (.ofNat 0)),(.int .i64 (.ofNat 0))] []) (pth 119)::
.gd (pth 117) true (.bin .eql 53 (.tmp (pth 118)) (.tmp (pth 119))) (pth 120)::
.go (.pick (.tmp (pth 117)) (.tmp (pth 120)) (.con (.bool false))) (pth 121)::
.go (.move (.tmp (pth 121))) (pth 122)::
.gd (pth 122) true (.call (.con (.func (.func 24) ⟨[]⟩ ⟨[]⟩)) []) (pth 123)::
.go (.pick (.tmp (pth 122)) (.tmp (pth 123)) (.con (.bool false))) (pth 124)::
.go (.move (.tmp (pth 124))) (pth 4)::
[])) .ret) (.seq (.run (.go (.loadN 2 (.tmp (pth 3))) (pth 126)::
.go (.call (.con (.func (.func 36) ⟨[]⟩ ⟨[]⟩)) [(.tmp (pth 126))]) (pth 127)::
.go (.un .not (.tmp (pth 127))) (pth 128)::
.go (.move (.tmp (pth 128))) (pth 125)::
[])) (.cond (.tmp (pth 125)) (.seq (.run (.go (.move (.tmp (pth 14))) (pth 129)::
.go (.bin .eql 24 (.tmp (pth 129)) (.con (.int .i64 (.ofNat 2)))) (pth 130)::
.go (.move (.tmp (pth 130))) (pth 131)::
.gd (pth 131) true (.loadN 2 (.tmp (pth 13))) (pth 132)::
.gd (pth 131) true (.build [(.int .i64 (.ofNat 0)),(.int .i64 (.ofNat 0))] []) (pth 133)::
.gd (pth 131) true (.bin .eql 53 (.tmp (pth 132)) (.tmp (pth 133))) (pth 134)::
.go (.pick (.tmp (pth 131)) (.tmp (pth 134)) (.con (.bool false))) (pth 135)::
.go (.move (.tmp (pth 135))) (pth 136)::
.gd (pth 136) true (.call (.con (.func (.func 24) ⟨[]⟩ ⟨[]⟩)) []) (pth 137)::
.go (.pick (.tmp (pth 136)) (.tmp (pth 137)) (.con (.bool false))) (pth 138)::
.go (.move (.tmp (pth 138))) (pth 4)::
[])) .ret) .skip))))) (.seq (.draw 11 (.go (.move (.tmp (pth 0))) (pth 140)::
.go (.indexAddr none 4 (.tmp (pth 140)) (.con (.int .i64 (.ofNat 0)))) (pth 141)::
.go (.loadN 4 (.tmp (pth 141))) (pth 142)::
.go (.loadN 2 (.tmp (pth 3))) (pth 143)::
.go (.call (.con (.func (.func 37) ⟨[]⟩ ⟨[]⟩)) [(.tmp (pth 142)),(.tmp (pth 143))]) (pth 144)::
.go (.move (.tmp (pth 144))) (pth 139)::
.go (.extract (.tmp (pth 139)) 0) (pth 145)::
.go (.extract (.tmp (pth 139)) 1) (pth 146)::
.go (.alloc 59 [(.int .i64 (.ofNat 0)),(.int .i64 (.ofNat 0))]) (pth 15)::
.un (.store 2 (.tmp (pth 15)) (.tmp (pth 145)))::
.go (.move (.tmp (pth 146))) (pth 16)::
[]) [.ok,.ok,.ok,.ok,.ok,.ok,.ok,.ok,.nw none (some (pth 15)) 8 true,.ok,.ok]) (.seq (.seq (.run (.go (.move (.tmp (pth 16))) (pth 147)::
.go (.un .not (.tmp (pth 147))) (pth 148)::
[])) (.cond (.tmp (pth 148)) (.seq (.run (.go (.move (.tmp (pth 14))) (pth 149)::
.go (.bin .eql 24 (.tmp (pth 149)) (.con (.int .i64 (.ofNat 9)))) (pth 150)::
.go (.move (.tmp (pth 150))) (pth 151)::
.gd (pth 151) true (.loadN 2 (.tmp (pth 13))) (pth 152)::
.gd (pth 151) true (.build [(.int .i64 (.ofNat 0)),(.int .i64 (.ofNat 0))] []) (pth 153)::
.gd (pth 151) true (.bin .eql 53 (.tmp (pth 152)) (.tmp (pth 153))) (pth 154)::
.go (.pick (.tmp (pth 151)) (.tmp (pth 154)) (.con (.bool false))) (pth 155)::
.go (.move (.tmp (pth 155))) (pth 156)::
.gd (pth 156) true (.call (.con (.func (.func 24) ⟨[]⟩ ⟨[]⟩)) []) (pth 157)::
.go (.pick (.tmp (pth 156)) (.tmp (pth 157)) (.con (.bool false))) (pth 158)::
.go (.move (.tmp (pth 158))) (pth 4)::
[])) .ret) .skip)) (.seq (.draw 12 (.go (.move (.tmp (pth 14))) (pth 159)::
.go (.bin .eql 24 (.tmp (pth 159)) (.con (.int .i64 (.ofNat 0)))) (pth 160)::
.go (.move (.tmp (pth 160))) (pth 161)::
.gd (pth 161) true (.loadN 2 (.tmp (pth 13))) (pth 162)::
.gd (pth 161) true (.loadN 2 (.tmp (pth 15))) (pth 163)::
.gd (pth 161) true (.call (.con (.func (.func 38) ⟨[]⟩ ⟨[]⟩)) [(.tmp (pth 163))]) (pth 164)::
.gd (pth 161) true (.bin .eql 53 (.tmp (pth 162)) (.tmp (pth 164))) (pth 165)::
.go (.pick (.tmp (pth 161)) (.tmp (pth 165)) (.con (.bool false))) (pth 166)::
.go (.move (.tmp (pth 166))) (pth 167)::
.gd (pth 167) true (.call (.con (.func (.func 24) ⟨[]⟩ ⟨[]⟩)) []) (pth 168)::
.go (.pick (.tmp (pth 167)) (.tmp (pth 168)) (.con (.bool false))) (pth 169)::
.go (.move (.tmp (pth 169))) (pth 4)::
[]) [.ok,.ok,.ok,.rd (some ((pth 161),true)) (.loadN 2 (.tmp (pth 13))) (some (pth 162)) [6],.ok,.ok,.ok,.ok,.ok,.ok,.ok,.ok]) .ret)))))))))))))))))
theorem eq53 {a b c d : Int} (ha : (Lit.int .i64 a).wf = true) (hb : (Lit.int .i64 b).wf = true) (hc : (Lit.int .i64 c).wf = true) (hd : (Lit.int .i64 d).wf = true) : xbinOp Try.prog .eql 53 (.agg ⟨A2 a b⟩) (.agg ⟨A2 c d⟩) = some (.bool (decide (a = c ∧ b = d))) := by
  have h1 : xbin Try.prog .eql 53 (.agg ⟨A2 a b⟩) (.agg ⟨A2 c d⟩) = none := rfl
  have h2 : xbinStr .eql (.agg ⟨A2 a b⟩) (.agg ⟨A2 c d⟩) = none := rfl
  have h3 : xeqNil Try.prog false 53 (.agg ⟨A2 a b⟩) (.agg ⟨A2 c d⟩) = none := by
    unfold xeqNil
    simp only [Try.underlying53]
  have h4 : keyedB Try.prog 53 = true := by kernel_rfl
  have h5 : Try.prog.eqGuardType Try.prog.depth 53 = false := by kernel_rfl
  unfold xbinOp
  rw [h1, h2]
  simp only [h3]
  unfold xeqAgg
  simp only [Try.underlying53]
  rw [if_pos ⟨h4, rfl, rfl, key53 ha hb, key53 hc hd, h5⟩]
  simp [valEq, cellsEq, cellEq]
theorem lf_bd {a b c d n q : Nat} (h : lfq n q (a, b, c, d) ≠ []) : (0 ≤ mn (lfq n q (a, b, c, d)) ∧ mn (lfq n q (a, b, c, d)) ≤ b) ∧ 0 ≤ mx (lfq n q (a, b, c, d)) ∧ mx (lfq n q (a, b, c, d)) ≤ b := by
  obtain ⟨u, e1, h1, _⟩ := leftL_mem.1 (mn_mem h)
  obtain ⟨w, e2, h2, _⟩ := leftL_mem.1 (mx_mem h)
  have h1' : u ≤ b := h1
  have h2' : w ≤ b := h2
  have e1' : mn (lfq n q (a, b, c, d)) = u := e1
  have e2' : mx (lfq n q (a, b, c, d)) = w := e2
  omega
theorem lv_nat {n q : Int} (h : lv n q) : ∃ n' q' : Nat, n = n' ∧ q = q' ∧ n' ≤ 1000 ∧ 0 < q' ∧ q' ≤ 1000 := by
  obtain ⟨⟨k1, k2⟩, k3, k4⟩ := h
  exact ⟨n.toNat, q.toNat, by omega, by omega, by omega, by omega, by omega⟩
theorem arq_nat {r : Q4} (h : arq r) : ∃ a b c d : Nat, r = (((a : Nat) : Int), ((b : Nat) : Int), ((c : Nat) : Int), ((d : Nat) : Int)) ∧ a + b ≤ 50 ∧ c ≤ a ∧ d ≤ c := by
  obtain ⟨a, b, c, d⟩ := r
  obtain ⟨⟨⟨p1, p2⟩, ⟨p3, p4⟩, p5⟩, ⟨p6, p7⟩, p8, p9⟩ := h
  simp only at *
  exact ⟨a.toNat, b.toNat, c.toNat, d.toNat, by simp only [Prod.mk.injEq]; omega, by omega, by omega, by omega⟩
theorem wf_sm {x : Int} (h1 : 0 ≤ x) (h2 : x ≤ 1000) : (Lit.int .i64 x).wf = true := by
  obtain ⟨k, rfl⟩ : ∃ k : Nat, x = k := ⟨x.toNat, by omega⟩
  exact wf_big (by omega)
end Go.Xe.TMX
/- Rules of reasoning over the executable reading of the model's code (part Z23): a slice of any shape that came in. Conditions: none; for every program. -/
namespace Go.Xe
open Go Go.RowKit Go.ChangeShapes Go.WideShapes
theorem arg_sl {H : Type} {enc : TypeId × Value → H} {P : Program} {w : World} {A : Heap} (hA : Abs w A) {t : TypeId} {s : Sh} (m : Nat) (hs : shOf P m t = some s) {p : Option Addr} {n c : Nat} {d : DataW H} {ps : List MemPlace} (h : DataW.Trod enc P w 0 (fun _ => true) true t (.slice p n c) d ps) :
    ∃ y, Sem A s [absV w.heap.size (.slice p n c)] y := by
  obtain ⟨fuel, hf⟩ := h
  obtain ⟨y, hy⟩ := arg_any hA m t s hs fuel _ _ hf
  exact ⟨y, by simpa [Value.cells, absV] using hy⟩
end Go.Xe
/- Areas that come in: what lies where. Conditions: none. -/
namespace Go.Xe.TMX
open Go Go.Xe Go.Proofs Go.Xe.Mth
abbrev shA : Sh := .pair (.int .i64) (.pair (.int .i64) (.pair (.int .i64) (.pair (.int .i64) .unit)))
theorem sw4_of {A : Heap} {v : Value} {y : Ty (.slice 4 shA)} (h : Sem A (.slice 4 shA) [v] y) : ∃ L : List Q4, Sw 4 A v (L.map q4) := by
  obtain ⟨v', rows, e0, h1, h2, _, h3⟩ := h
  simp only [List.cons.injEq, and_true] at e0
  subst e0
  refine ⟨(y : List (Ty shA)).map fun x => (x.1, x.2.1, x.2.2.1, x.2.2.2.1), ?_⟩
  have e : rows = ((y : List (Ty shA)).map fun x => (x.1, x.2.1, x.2.2.1, x.2.2.2.1)).map q4 := by
    apply List.ext_getElem
    · simp [h2]
    · intro k k1 k2
      have hk : k < (y : List (Ty shA)).length := by omega
      obtain ⟨c1, c2, e1, ⟨rfl, _⟩, d1, d2, e2, ⟨rfl, _⟩, f1, f2, e3, ⟨rfl, _⟩, g1, g2, e4, ⟨rfl, _⟩, e5⟩ := h3 k rows[k] ((y : List (Ty shA))[k]) (by simp) (by simp [hk])
      rw [e1, e2, e3, e4, e5]
      simp [q4]
  have := h1.sw
  rw [e] at this
  exact this
end Go.Xe.TMX
