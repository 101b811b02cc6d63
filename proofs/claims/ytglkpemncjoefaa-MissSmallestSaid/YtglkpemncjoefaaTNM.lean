/- What the functions of the layer miss come to: the numbers that a level excludes. Conditions: none. -/
import Derived.Test.YtglkpemncjoefaaTNC
import Derived.Test.YtglkpemncjoefaaYk
import Derived.Test.YtglkpemncjoefaaTNA
-- MOD TM
namespace Go.Xe.TMX
open Go Go.Xe Go.Proofs Go.Xe.Mth
open Nat renaming reduceLeDiff → qA, reduceSub → qB, reduceAdd → qC, reduceEqDiff → qD, reduceLT → qE
open Int renaming reduceNegSucc → qF, reduceEq → qG
set_option maxRecDepth 100000
set_option maxHeartbeats 3200000
set_option linter.unusedSimpArgs false
def exc (a u c d n q : Nat) : Bool := below (psum a u c 0 (d + 1)) (ch (a + u) c) n q || below (psum a u c d (c + 1 - d)) (ch (a + u) c) n q
end Go.Xe.TMX
/- Rules of reasoning over the executable reading of the model's code (part Z19): slices of one's own in loops over functions. Conditions: none; for every program. -/
namespace Go.Xe
open Go
theorem Ow.base {A B X : Heap} {e : TypeId} {v : Value} {l : List Value} (h : Ow A X e v l) (hn : B.next ≤ A.next) : Ow B X e v l := by
  rcases h with h | ⟨i, h1, h2, h3, h4⟩
  · exact .inl h
  · exact .inr ⟨i, Nat.le_trans hn h1, h2, h3, h4⟩
theorem Ow.growS {A B X Y : Heap} {U : Nat → Prop} {e : TypeId} {v : Value} {l : List Value} (h : Ow A X e v l) (g : GrowS U X Y) (hU : ∀ i, A.next ≤ i → ¬ U i) (hn : B.next ≤ A.next) : Ow B Y e v l := by
  rcases h with h | ⟨i, h1, h2, h3, h4⟩
  · exact .inl h
  · exact .inr ⟨i, Nat.le_trans hn h1, Nat.lt_of_lt_of_le h2 g.1, h3, by rw [g.cells h2 (hU i h1)]; exact h4⟩
theorem Ow.slice {A X : Heap} {e : TypeId} {v : Value} {l : List Value} (h : Ow A X e v l) : ∃ p n c, v = .slice p n c := by
  rcases h with ⟨rfl, _⟩ | ⟨i, _, _, rfl, _⟩ <;> exact ⟨_, _, _, rfl⟩
end Go.Xe
/- What the functions of the layer miss come to: lists of numbers. Conditions: none. -/
-- MOD TM
namespace Go.Xe.TMX
open Go Go.Xe Go.Proofs Go.Xe.Mth
open Nat renaming reduceLeDiff → qA, reduceSub → qB, reduceAdd → qC, reduceEqDiff → qD, reduceLT → qE
open Int renaming reduceNegSucc → qF, reduceEq → qG
set_option maxRecDepth 100000
set_option maxHeartbeats 3200000
set_option linter.unusedSimpArgs false
def nums (a k : Nat) : List Int := (List.range k).map fun q => ((a + q : Nat) : Int)
end Go.Xe.TMX
/- What the functions of the layer miss come to: lists of numbers that are left. Conditions: none. -/
-- MOD TM
namespace Go.Xe.TMX
open Go Go.Xe Go.Proofs Go.Xe.Mth
open Nat renaming reduceLeDiff → qA, reduceSub → qB, reduceAdd → qC, reduceEqDiff → qD, reduceLT → qE
open Int renaming reduceNegSucc → qF, reduceEq → qG
set_option maxRecDepth 100000
set_option maxHeartbeats 3200000
set_option linter.unusedSimpArgs false
def cells_ok (p : Int → Bool) (l : List Int) (k i : Nat) (c : List Value) : Prop := c.length = l.length ∧ i = ((l.take k).filter fun z => !p z).length ∧ c.take i = ((l.take k).filter fun z => !p z).map I ∧ c.drop k = (l.drop k).map I
theorem cells_get {p : Int → Bool} {l : List Int} {k i : Nat} {c : List Value} (h : cells_ok p l k i c) (hk : k < l.length) : c[k]? = some (I l[k]) := by
  have h4 := h.2.2.2
  have : (c.drop k)[0]? = ((l.drop k).map I)[0]? := by rw [h4]
  simpa [hk] using this
end Go.Xe.TMX
/- What the functions of the layer miss come to: the numbers that are left, their least and greatest. Conditions: none. -/
-- MOD TM
namespace Go.Xe.TMX
open Go Go.Xe Go.Proofs Go.Xe.Mth
open Nat renaming reduceLeDiff → qA, reduceSub → qB, reduceAdd → qC, reduceEqDiff → qD, reduceLT → qE
open Int renaming reduceNegSucc → qF, reduceEq → qG
set_option maxRecDepth 100000
set_option maxHeartbeats 3200000
set_option linter.unusedSimpArgs false
def leftL (a b c d n q : Nat) : List Int := (nums 0 (b + 1)).filter fun z => !exc a z.toNat c d n q
def mnk (l : List Int) (k : Nat) : Int := ((l.take k).drop 1).foldl min (l.headD 0)
def mxk (l : List Int) (k : Nat) : Int := ((l.take k).drop 1).foldl max (l.headD 0)
end Go.Xe.TMX
/- Rules of reasoning over the executable reading of the model's code (part Z20): slices whose elements have several cells each. Conditions: none; for every program. -/
namespace Go.Xe
open Go
inductive Sw (w : Nat) (H : Heap) : Value → List (List Value) → Prop
  | nil : Sw w H (.slice none 0 0) []
  | spot (i o s : Nat) : Sw w H (.slice (some ⟨i, o, some s⟩) 0 0) []
  | at {i o n c : Nat} {a : Array Value} {el : TypeId} {rw : Bool} {l : List (List Value)} (hi : i < H.next) (hc : H.cellsAt i = some (a, el, rw)) (hn : n ≤ c) (hl : l.length = n) (hs : o + n * w ≤ a.size) (hv : ∀ k x, l[k]? = some x → a.extract (o + k * w) (o + k * w + w) = ⟨x⟩) : Sw w H (.slice (some ⟨i, o, none⟩) n c) l
theorem Sw.grow {w : Nat} {A B : Heap} (g : Grow A B) {v : Value} {l : List (List Value)} (h : Sw w A v l) : Sw w B v l := by
  cases h with
  | nil => exact .nil
  | spot i o s => exact .spot i o s
  | «at» hi hc hn hl hs hv => exact .at (Nat.lt_of_lt_of_le hi g.1) ((g.cells hi).trans hc) hn hl hs hv
theorem Sw.len {w : Nat} {H : Heap} {v : Value} {l : List (List Value)} (h : Sw w H v l) : ylen 0 H v = some (.int .i64 l.length) := by
  cases h with
  | nil => rfl
  | spot => rfl
  | «at» hi hc hn hl hs hv => simp only [ylen, hl]
theorem Sw.get {w : Nat} {H : Heap} {v : Value} {l : List (List Value)} (h : Sw w H v l) (hw : 0 < w) {n : Int} {k : Nat} {x : List Value} (hx : l[k]? = some x) (hn : n = (k : Int)) {kd : IntKind} : ∃ p, yindexAddr none w v (.int kd n) = some p ∧ ∀ H', Grow H H' → yloadN w H' p = some (.agg ⟨x⟩) := by
  have hk : k < l.length := (List.getElem?_eq_some_iff.1 hx).1
  cases h with
  | nil => cases hx
  | spot => cases hx
  | «at» hi hc hn' hl hs hv =>
    rename_i i o n0 c a el rw
    subst hn
    refine ⟨.pointer (some ⟨i, o + k * w, none⟩), ?_, fun H' g => ?_⟩
    · simp only [yindexAddr]
      rw [if_pos ⟨by omega, by omega⟩]
      simp
    · simp only [yloadN, (g.cells hi).trans hc]
      have h1 : k * w + w ≤ n0 * w := by
        have : (k + 1) * w ≤ n0 * w := Nat.mul_le_mul_right w (by omega)
        rw [Nat.succ_mul] at this; exact this
      rw [if_pos ⟨by omega, by omega⟩, hv k x hx]
theorem Sw.one {w : Nat} {H : Heap} {i : Nat} {c : List Value} {e : TypeId} (h : Bx H i c e) (hc : c.length = w) : Sw w H (.slice (some ⟨i, 0, none⟩) 1 1) [c] := by
  refine .at h.1 h.2 (Nat.le_refl _) rfl (by show 0 + 1 * w ≤ c.length; omega) ?_
  intro k x hx
  cases k with
  | zero =>
    simp only [List.getElem?_cons_zero, Option.some.injEq] at hx
    subst hx
    subst hc
    apply Array.ext'
    simp
  | succ k => simp at hx
end Go.Xe
/- What the functions of the layer miss come to: the numbers that are left, of several areas. Conditions: none. -/
-- MOD TM
namespace Go.Xe.TMX
open Go Go.Xe Go.Proofs Go.Xe.Mth
open Nat renaming reduceLeDiff → qA, reduceSub → qB, reduceAdd → qC, reduceEqDiff → qD, reduceLT → qE
open Int renaming reduceNegSucc → qF, reduceEq → qG
set_option maxRecDepth 100000
set_option maxHeartbeats 3200000
set_option linter.unusedSimpArgs false
abbrev Q4 : Type := Int × Int × Int × Int
def q4 (r : Q4) : List Value := A4 r.1 r.2.1 r.2.2.1 r.2.2.2
def arq (r : Q4) : Prop := ar r.1 r.2.1 r.2.2.1 r.2.2.2
instance (r : Q4) : Decidable (arq r) := by unfold arq; infer_instance
def mn (l : List Int) : Int := mnk l l.length
def mx (l : List Int) : Int := mxk l l.length
def lfq (n q : Int) (r : Q4) : List Int := leftL r.1.toNat r.2.1.toNat r.2.2.1.toNat r.2.2.2.toNat n.toNat q.toNat
def tot (L : List Q4) (n q : Int) : Int × Int × Int :=
  if 6 < L.length then (0, 0, 3) else if ¬ (∀ r ∈ L, arq r) then (0, 0, 1) else if ¬ lv n q then (0, 0, 2)
  else if ∃ r ∈ L, lfq n q r = [] then (0, 0, 9) else ((L.map fun r => mn (lfq n q r)).sum, (L.map fun r => mx (lfq n q r)).sum, 0)
theorem Sl.growS {U : Nat → Prop} {A B : Heap} {y k c : Nat} {v : Value} {l : List Value} (h : Sl A v l) (e : v = .slice (some ⟨y, 0, none⟩) k c) (g : GrowS U A B) (hu : ¬ U y) : Sl B v l := by
  cases h with
  | nil => cases e
  | spot i o s => cases e
  | «at» hi hc hn hl hs hv =>
    cases e
    exact .at (Nat.lt_of_lt_of_le hi g.1) ((g.cells hi hu).trans hc) hn hl hs hv
end Go.Xe.TMX
/- What the statement MissConfident comes to. Conditions: none. -/
-- MOD TM
namespace Go.Xe.TMX
open Go Go.Xe Go.Proofs Go.Xe.Mth
open Nat renaming reduceLeDiff → qA, reduceSub → qB, reduceAdd → qC, reduceEqDiff → qD, reduceLT → qE
open Int renaming reduceNegSucc → qF, reduceEq → qG
set_option maxRecDepth 100000
set_option maxHeartbeats 3200000
set_option linter.unusedSimpArgs false
end Go.Xe.TMX
/- What the statement MissNobody comes to. Conditions: none. -/
-- MOD TM
namespace Go.Xe.TMX
open Go Go.Xe Go.Proofs Go.Xe.Mth
open Nat renaming reduceLeDiff → qA, reduceSub → qB, reduceAdd → qC, reduceEqDiff → qD, reduceLT → qE
open Int renaming reduceNegSucc → qF, reduceEq → qG
set_option maxRecDepth 100000
set_option maxHeartbeats 3200000
set_option linter.unusedSimpArgs false
end Go.Xe.TMX
/- What the statement MissLevels comes to. Conditions: none. -/
-- MOD TM
namespace Go.Xe.TMX
open Go Go.Xe Go.Proofs Go.Xe.Mth
open Nat renaming reduceLeDiff → qA, reduceSub → qB, reduceAdd → qC, reduceEqDiff → qD, reduceLT → qE
open Int renaming reduceNegSucc → qF, reduceEq → qG
set_option maxRecDepth 100000
set_option maxHeartbeats 3200000
set_option linter.unusedSimpArgs false
end Go.Xe.TMX
/- What the functions of the layer miss come to: which of two fractions is less. Conditions: none. -/
-- MOD TM
namespace Go.Xe.TMX
open Go Go.Xe Go.Proofs Go.Xe.Mth
open Nat renaming reduceLeDiff → qA, reduceSub → qB, reduceAdd → qC, reduceEqDiff → qD, reduceLT → qE
open Int renaming reduceNegSucc → qF, reduceEq → qG
set_option maxRecDepth 100000
set_option maxHeartbeats 3200000
set_option linter.unusedSimpArgs false
noncomputable def d32 : FCode := (.seq (.run (.go (.box 41 (.tmp (pth 0))) (pth 2)::
.go (.box 41 (.tmp (pth 1))) (pth 3)::
.go (.move (.con (.bool false))) (pth 4)::
[])) (.block 0 (.loop (.block 1 (.seq (.draw 12 (.go (.fieldAddr 0 (.tmp (pth 2))) (pth 9)::
.go (.load1 (.tmp (pth 9))) (pth 10)::
.go (.fieldAddr 1 (.tmp (pth 2))) (pth 11)::
.go (.load1 (.tmp (pth 11))) (pth 12)::
.go (.bin .quo 3 (.tmp (pth 10)) (.tmp (pth 12))) (pth 13)::
.go (.fieldAddr 0 (.tmp (pth 3))) (pth 14)::
.go (.load1 (.tmp (pth 14))) (pth 15)::
.go (.fieldAddr 1 (.tmp (pth 3))) (pth 16)::
.go (.load1 (.tmp (pth 16))) (pth 17)::
.go (.bin .quo 3 (.tmp (pth 15)) (.tmp (pth 17))) (pth 18)::
.go (.move (.tmp (pth 13))) (pth 5)::
.go (.move (.tmp (pth 18))) (pth 6)::
[]) [.ok,.ok,.ok,.ok,.ok,.ok,.ok,.ok,.ok,.ok,.ok,.ok]) (.seq (.seq (.run (.go (.move (.tmp (pth 5))) (pth 19)::
.go (.move (.tmp (pth 6))) (pth 20)::
.go (.bin .neq 3 (.tmp (pth 19)) (.tmp (pth 20))) (pth 21)::
[])) (.cond (.tmp (pth 21)) (.seq (.run (.go (.move (.tmp (pth 5))) (pth 22)::
.go (.move (.tmp (pth 6))) (pth 23)::
.go (.bin .lss 3 (.tmp (pth 22)) (.tmp (pth 23))) (pth 24)::
.go (.move (.tmp (pth 24))) (pth 4)::
[])) .ret) .skip)) (.seq (.draw 12 (.go (.fieldAddr 0 (.tmp (pth 2))) (pth 25)::
.go (.load1 (.tmp (pth 25))) (pth 26)::
.go (.fieldAddr 1 (.tmp (pth 2))) (pth 27)::
.go (.load1 (.tmp (pth 27))) (pth 28)::
.go (.bin .rem 3 (.tmp (pth 26)) (.tmp (pth 28))) (pth 29)::
.go (.fieldAddr 0 (.tmp (pth 3))) (pth 30)::
.go (.load1 (.tmp (pth 30))) (pth 31)::
.go (.fieldAddr 1 (.tmp (pth 3))) (pth 32)::
.go (.load1 (.tmp (pth 32))) (pth 33)::
.go (.bin .rem 3 (.tmp (pth 31)) (.tmp (pth 33))) (pth 34)::
.go (.move (.tmp (pth 29))) (pth 7)::
.go (.move (.tmp (pth 34))) (pth 8)::
[]) [.ok,.ok,.ok,.ok,.ok,.ok,.ok,.ok,.ok,.ok,.ok,.ok]) (.seq (.seq (.run (.go (.move (.tmp (pth 7))) (pth 35)::
.go (.bin .eql 3 (.tmp (pth 35)) (.con (.int .i64 (.ofNat 0)))) (pth 36)::
.go (.move (.tmp (pth 36))) (pth 37)::
.gd (pth 37) false (.move (.tmp (pth 8))) (pth 38)::
.gd (pth 37) false (.bin .eql 3 (.tmp (pth 38)) (.con (.int .i64 (.ofNat 0)))) (pth 39)::
.go (.pick (.tmp (pth 37)) (.con (.bool true)) (.tmp (pth 39))) (pth 40)::
[])) (.cond (.tmp (pth 40)) (.seq (.run (.go (.move (.tmp (pth 7))) (pth 41)::
.go (.bin .eql 3 (.tmp (pth 41)) (.con (.int .i64 (.ofNat 0)))) (pth 42)::
.go (.move (.tmp (pth 42))) (pth 43)::
.gd (pth 43) true (.move (.tmp (pth 8))) (pth 44)::
.gd (pth 43) true (.bin .gtr 3 (.tmp (pth 44)) (.con (.int .i64 (.ofNat 0)))) (pth 45)::
.go (.pick (.tmp (pth 43)) (.tmp (pth 45)) (.con (.bool false))) (pth 46)::
.go (.move (.tmp (pth 46))) (pth 4)::
[])) .ret) .skip)) (.run (.go (.fieldAddr 1 (.tmp (pth 3))) (pth 47)::
.go (.load1 (.tmp (pth 47))) (pth 48)::
.go (.move (.tmp (pth 8))) (pth 49)::
.go (.build [(.int .i64 (.ofNat 0)),(.int .i64 (.ofNat 0))] [(0,1,(.tmp (pth 48))),(1,1,(.tmp (pth 49)))]) (pth 50)::
.go (.fieldAddr 1 (.tmp (pth 2))) (pth 51)::
.go (.load1 (.tmp (pth 51))) (pth 52)::
.go (.move (.tmp (pth 7))) (pth 53)::
.go (.build [(.int .i64 (.ofNat 0)),(.int .i64 (.ofNat 0))] [(0,1,(.tmp (pth 52))),(1,1,(.tmp (pth 53)))]) (pth 54)::
.un (.store 2 (.tmp (pth 2)) (.tmp (pth 50)))::
.un (.store 2 (.tmp (pth 3)) (.tmp (pth 54)))::
[]))))))))))
theorem de32 : @compF Try.prog (Gl.none Try.prog) Try.f32 2 = .mk d32 (mkTT 55) [(pth 0),(pth 1)] [.tmp (pth 4)] := by kernel_rfl
theorem dg32 : Try.prog.funcs[32]? = some Try.f32 := Try.func32
theorem do32 : okF Try.prog Try.f32 = true := by kernel_rfl
theorem less_eqs {p w n q : Nat} (hw : 0 < w) (hq : 0 < q) : (p / w < n / q → p * q < n * w) ∧ (n / q < p / w → ¬ p * q < n * w) ∧ (p / w = n / q → (p * q < n * w ↔ (p % w) * q < (n % q) * w)) := by
  have a1 := Nat.div_add_mod p w
  have a2 := Nat.div_add_mod n q
  have b1 := Nat.mod_lt p hw
  have b2 := Nat.mod_lt n hq
  generalize p / w = x at *
  generalize p % w = r at *
  generalize n / q = y at *
  generalize n % q = s at *
  have e1 : p * q = w * q * x + r * q := by rw [← a1, Nat.add_mul, Nat.mul_right_comm]
  have e2 : n * w = w * q * y + s * w := by rw [← a2, Nat.add_mul, Nat.mul_right_comm, Nat.mul_comm q w]
  have h1 : r * q < w * q := Nat.mul_lt_mul_of_pos_right b1 hq
  have h2 : s * w < w * q := by have := Nat.mul_lt_mul_of_pos_right b2 hw; rw [Nat.mul_comm q w] at this; exact this
  generalize w * q = P at *
  refine ⟨fun h => ?_, fun h => ?_, fun h => ?_⟩
  · have := Nat.mul_le_mul_left P h
    rw [Nat.mul_succ] at this
    omega
  · have := Nat.mul_le_mul_left P h
    rw [Nat.mul_succ] at this
    omega
  · subst h; omega
theorem f32_ok {p w n q : Nat} (hw : 0 < w) (hq : 0 < q) (hp2 : p ≤ 4611686018427387904) (hw2 : w ≤ 4611686018427387904) (hn2 : n ≤ 4611686018427387904) (hq2 : q ≤ 4611686018427387904) (H : Heap) : Gives Try.prog 32 [.agg ⟨A2 p w⟩, .agg ⟨A2 n q⟩] H (.bool (decide (p * q < n * w))) := by
  refine F.entryL rfl dg32 do32 de32 rfl (by kernel_rfl) ?_
  simp only [sets]
  refine V.re [(0, .agg ⟨A2 p w⟩), (1, .agg ⟨A2 n q⟩)] (N := 55) (by intro i; simp only [full_st, Full.mk]) (by simp only [Kn, gt_st, full_st, Full.mk, ↓reduceIte, qD, qE, decide_true, and_self]) ?_
  intro t hF hA
  simp only [Kn, and_true] at hA
  (repeat first|apply V.seq|apply V.block|apply V.scope|apply V.skip|apply V.close)
  refine V.line' (by simp +contextual (disch := first|omega|simp only [nx];omega) only [D4,qF,qG,qA,qB,qC,D5,hF,hA,↓reduceIte,qD,qE]; with_reducible rfl) ?_
  refine V.heap (fun X => Grow H X ∧ Bx X H.next (A2 p w) 41 ∧ Bx X (H.next + 1) (A2 n q) 41) ⟨?_, ?_⟩ ?_
  · (repeat first | assumption | exact Grow.refl _ | refine Grow.alloc ?_ _ | refine Grow.set ?_ (by first|omega|simp only [nx];omega) _)
  · exact ⟨by (repeat first | assumption | exact Bx.new _ _ _ | exact Bx.newAt (by first|omega|simp only [nx];omega) | refine Bx.put (by first|omega|simp only [nx];omega) _ _ | refine Bx.alloc ?_ _ | refine Bx.set ?_ (by first|omega|simp only [nx];omega) _), by (repeat first | assumption | exact Bx.new _ _ _ | exact Bx.newAt (by first|omega|simp only [nx];omega) | refine Bx.put (by first|omega|simp only [nx];omega) _ _ | refine Bx.alloc ?_ _ | refine Bx.set ?_ (by first|omega|simp only [nx];omega) _)⟩
  rintro H1 ⟨g1, b1, c1⟩
  (repeat first|apply V.seq|apply V.block|apply V.scope|apply V.skip|apply V.close)
  refine V.loop (fun k t m X => ∃ (p1 w1 n1 q1 : Nat), 0 < w1 ∧ 0 < q1 ∧ p1 ≤ 4611686018427387904 ∧ w1 ≤ 4611686018427387904 ∧ n1 ≤ 4611686018427387904 ∧ q1 ≤ 4611686018427387904 ∧ (p1 * q1 < n1 * w1 ↔ p * q < n * w) ∧ k = w1 + q1 ∧ m = [] ∧ Grow H X ∧ Bx X H.next (A2 p1 w1) 41 ∧ Bx X (H.next + 1) (A2 n1 q1) 41 ∧ Full 55 t ∧ Kn [(2, PT H.next), (3, PT (H.next + 1))] t) (w + q) ?_ ?_
  · exact ⟨p, w, n, q, hw, hq, hp2, hw2, hn2, hq2, Iff.rfl, rfl, rfl, g1, b1, c1, (by intro i; simp only [full_st, hF]), (by simp only [Kn, D5,hF,hA,↓reduceIte,qD,qE, and_self, and_true, true_and]; try (repeat' constructor))⟩
  clear hF hA
  rintro k t m X ⟨p1, w1, n1, q1, hw, hq, hp2, hw2, hn2, hq2, hiff, rfl, rfl, hg, bx, cx, hF, hA⟩
  simp only [Kn, and_true] at hA
  have d1 : (p1 : Int).tdiv w1 = ((p1 / w1 : Nat) : Int) := by rw [Int.ofNat_tdiv]
  have d2 : (n1 : Int).tdiv q1 = ((n1 / q1 : Nat) : Int) := by rw [Int.ofNat_tdiv]
  have d3 : (p1 : Int).tmod w1 = ((p1 % w1 : Nat) : Int) := by rw [Int.ofNat_tmod]
  have d4 : (n1 : Int).tmod q1 = ((n1 % q1 : Nat) : Int) := by rw [Int.ofNat_tmod]
  have l1 := Nat.div_le_self p1 w1
  have l2 := Nat.div_le_self n1 q1
  have z1 : ¬ ((w1 : Int) = 0) := by omega
  have z2 : ¬ ((q1 : Int) = 0) := by omega
  have ml1 := Nat.mod_lt p1 hw
  have ml2 := Nat.mod_lt n1 hq
  obtain ⟨k1, k2, k3⟩ := less_eqs (p := p1) (w := w1) (n := n1) (q := q1) hw hq
  (repeat first|apply V.seq|apply V.block|apply V.scope|apply V.skip|apply V.close)
  refine V.lineD' (by simp +contextual (disch := first|omega|simp only [nx];omega) only [D4,qF,qG,qA,qB,qC,D5,hF,hA,↓reduceIte,qD,qE, bx.2, cx.2, d1, d2, z1, z2]; with_reducible rfl) ?_ ?_ rfl ?_
  · simp only [monoG, List.cons_append, List.nil_append, Heap.next_set, Heap.next_alloc, Nat.le_refl, true_and, and_true] <;> omega
  · simp only [dcAll, dcOk, wantD, List.cons_append, List.nil_append, true_and, and_true]
  generalize hx : p1 / w1 = x at *
  generalize hy : n1 / q1 = y at *
  (repeat first|apply V.seq|apply V.block|apply V.scope|apply V.skip|apply V.close)
  refine V.line' (by simp +contextual (disch := first|omega|simp only [nx];omega) only [D4,qF,qG,qA,qB,qC,D5,hF,hA,↓reduceIte,qD,qE, ne_eq]; with_reducible rfl) ?_
  (repeat first|apply V.seq|apply V.block|apply V.scope|apply V.skip|apply V.close)
  refine V.condP (by simp only [D6,D5,hF,hA,↓reduceIte,qD,qE]; rfl) (fun hne => ?_) (fun hne => ?_)
  · (repeat first|apply V.seq|apply V.block|apply V.scope|apply V.skip|apply V.close)
    refine V.line' (by simp +contextual (disch := first|omega|simp only [nx];omega) only [D4,qF,qG,qA,qB,qC,D5,hF,hA,↓reduceIte,qD,qE]; with_reducible rfl) ?_
    (repeat first|apply V.seq|apply V.block|apply V.scope|apply V.skip|apply V.close)
    refine V.ret (V.rets rfl (Or.inr ⟨by simp, V.rets rfl (Lv.retG (by simp +contextual (disch := first|omega|simp only [nx];omega) only [D1, cells_alloc_at, cells_alloc_ne, cells_set_at, cells_set_ne, yres, yres1, yresL, qA, qB, qC, D5,hF,hA,↓reduceIte,qD,qE]; rfl) ?_ ?_)⟩))
    · exact hg
    · congr 1
      rcases Nat.lt_or_gt_of_ne (show x ≠ y by omega) with hlt | hgt
      · have := k1 hlt
        rw [decide_eq_true (hiff.1 this)]
        exact decide_eq_true (by omega)
      · have := k2 hgt
        rw [decide_eq_false (fun h => this (hiff.2 h))]
        exact decide_eq_false (by omega)
  have hxy : x = y := by omega
  have k4 := k3 hxy
  (repeat first|apply V.seq|apply V.block|apply V.scope|apply V.skip|apply V.close)
  refine V.re [(2, PT H.next), (3, PT (H.next + 1))] (N := 55) (by intro i; simp only [full_st, hF]) (by simp only [Kn, D5,hF,hA,↓reduceIte,qD,qE, and_self, and_true, true_and]; try (repeat' constructor)) ?_
  clear hF hA
  intro t hF hA
  simp only [Kn, and_true] at hA
  refine V.lineD' (by simp +contextual (disch := first|omega|simp only [nx];omega) only [D4,qF,qG,qA,qB,qC,D5,hF,hA,↓reduceIte,qD,qE, bx.2, cx.2, d3, d4, z1, z2]; with_reducible rfl) ?_ ?_ rfl ?_
  · simp only [monoG, List.cons_append, List.nil_append, Heap.next_set, Heap.next_alloc, Nat.le_refl, true_and, and_true] <;> omega
  · simp only [dcAll, dcOk, wantD, List.cons_append, List.nil_append, true_and, and_true]
  generalize hr : p1 % w1 = r at *
  generalize hs : n1 % q1 = s at *
  (repeat first|apply V.seq|apply V.block|apply V.scope|apply V.skip|apply V.close)
  refine V.line' (by simp +contextual (disch := first|omega|simp only [nx];omega) only [D4,qF,qG,qA,qB,qC,D5,hF,hA,↓reduceIte,qD,qE]; with_reducible rfl) ?_
  (repeat first|apply V.seq|apply V.block|apply V.scope|apply V.skip|apply V.close)
  refine V.condP (by simp only [D6,D5,hF,hA,↓reduceIte,qD,qE]; rfl) (fun hz => ?_) (fun hz => ?_)
  · (repeat first|apply V.seq|apply V.block|apply V.scope|apply V.skip|apply V.close)
    refine V.line' (by simp +contextual (disch := first|omega|simp only [nx];omega) only [D4,qF,qG,qA,qB,qC,D5,hF,hA,↓reduceIte,qD,qE]; with_reducible rfl) ?_
    (repeat first|apply V.seq|apply V.block|apply V.scope|apply V.skip|apply V.close)
    refine V.ret (V.rets rfl (Or.inr ⟨by simp, V.rets rfl (Lv.retG (by simp +contextual (disch := first|omega|simp only [nx];omega) only [D1, cells_alloc_at, cells_alloc_ne, cells_set_at, cells_set_ne, yres, yres1, yresL, qA, qB, qC, D5,hF,hA,↓reduceIte,qD,qE]; rfl) ?_ ?_)⟩))
    · exact hg
    · congr 1
      by_cases hr0 : r = 0
      · subst hr0
        by_cases hs0 : s = 0
        · subst hs0
          have : ¬ p * q < n * w := fun h => by have := k4.1 (hiff.2 h); simp at this
          rw [decide_eq_false this]
          exact decide_eq_false (by omega)
        · have : p * q < n * w := hiff.1 (k4.2 (by rw [Nat.zero_mul]; exact Nat.mul_pos (by omega) hw))
          rw [decide_eq_true this]
          exact decide_eq_true (by omega)
      · have hs0 : s = 0 := by omega
        subst hs0
        have : ¬ p * q < n * w := fun h => by have := k4.1 (hiff.2 h); simp at this
        rw [decide_eq_false this]
        exact decide_eq_false (by omega)
  (repeat first|apply V.seq|apply V.block|apply V.scope|apply V.skip|apply V.close)
  refine V.line' (by simp +contextual (disch := first|omega|simp only [nx];omega) only [D4,qF,qG,qA,qB,qC,D5,hF,hA,↓reduceIte,qD,qE, bx.2, cx.2]; with_reducible rfl) ?_
  refine V.heap (fun Y => Grow H Y ∧ Bx Y H.next (A2 q1 s) 41 ∧ Bx Y (H.next + 1) (A2 w1 r) 41) ⟨?_, ?_, ?_⟩ ?_
  · (repeat first | assumption | exact Grow.refl _ | refine Grow.alloc ?_ _ | refine Grow.set ?_ (by first|omega|simp only [nx];omega) _)
  · have := bx.1
    have := cx.1
    (repeat first | assumption | exact Bx.new _ _ _ | exact Bx.newAt (by first|omega|simp only [nx];omega) | refine Bx.put (by first|omega|simp only [nx];omega) _ _ | refine Bx.alloc ?_ _ | refine Bx.set ?_ (by first|omega|simp only [nx];omega) _)
  · have := bx.1
    have := cx.1
    (repeat first | assumption | exact Bx.new _ _ _ | exact Bx.newAt (by first|omega|simp only [nx];omega) | refine Bx.put (by first|omega|simp only [nx];omega) _ _ | refine Bx.alloc ?_ _ | refine Bx.set ?_ (by first|omega|simp only [nx];omega) _)
  rintro Y ⟨gy, by1, cy1⟩
  (repeat first|apply V.seq|apply V.block|apply V.scope|apply V.skip|apply V.close)
  refine V.nil (Or.inl ⟨rfl, s + r, by omega, ?_⟩)
  refine ⟨q1, s, w1, r, by omega, by omega, hq2, by omega, hw2, by omega, ?_, rfl, rfl, gy, by1, cy1, (by intro i; simp only [full_st, hF]), (by simp only [Kn, D5,hF,hA,↓reduceIte,qD,qE, and_self, and_true, true_and]; try (repeat' constructor))⟩
  rw [← hiff, k4, Nat.mul_comm q1, Nat.mul_comm w1]
end Go.Xe.TMX
