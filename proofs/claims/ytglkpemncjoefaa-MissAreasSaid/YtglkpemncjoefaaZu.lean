/- What the statement MissConfident comes to. Conditions: none. -/
import Derived.Test.YtglkpemncjoefaaTNI
import Derived.Test.YtglkpemncjoefaaTNA
import Derived.Test.YtglkpemncjoefaaZm
import Derived.Test.YtglkpemncjoefaaZt
-- MOD TM
namespace Go.Xe.TMX
open Go Go.Xe Go.Proofs Go.Xe.Mth
open Nat renaming reduceLeDiff → qA, reduceSub → qB, reduceAdd → qC, reduceEqDiff → qD, reduceLT → qE
open Int renaming reduceNegSucc → qF, reduceEq → qG
set_option maxRecDepth 100000
set_option maxHeartbeats 3200000
set_option linter.unusedSimpArgs false
end Go.Xe.TMX
/- What the statement MissNobody comes to. Conditions: none. -/
-- MOD TM
namespace Go.Xe.TMX
open Go Go.Xe Go.Proofs Go.Xe.Mth
open Nat renaming reduceLeDiff → qA, reduceSub → qB, reduceAdd → qC, reduceEqDiff → qD, reduceLT → qE
open Int renaming reduceNegSucc → qF, reduceEq → qG
set_option maxRecDepth 100000
set_option maxHeartbeats 3200000
set_option linter.unusedSimpArgs false
end Go.Xe.TMX
/- What the statement MissLevels comes to. Conditions: none. -/
-- MOD TM
namespace Go.Xe.TMX
open Go Go.Xe Go.Proofs Go.Xe.Mth
open Nat renaming reduceLeDiff → qA, reduceSub → qB, reduceAdd → qC, reduceEqDiff → qD, reduceLT → qE
open Int renaming reduceNegSucc → qF, reduceEq → qG
set_option maxRecDepth 100000
set_option maxHeartbeats 3200000
set_option linter.unusedSimpArgs false
noncomputable def d47 : FCode := (.seq (.run (.go (.alloc 53 [(.int .i64 (.ofNat 0)),(.int .i64 (.ofNat 0))]) (pth 4)::
[])) (.seq (.run (.go (.move (.tmp (pth 0))) (pth 5)::
.go (.move (.tmp (pth 1))) (pth 6)::
.go (.build [(.int .i64 (.ofNat 0)),(.int .i64 (.ofNat 0))] [(0,1,(.tmp (pth 5))),(1,1,(.tmp (pth 6)))]) (pth 7)::
.un (.store 2 (.tmp (pth 4)) (.tmp (pth 7)))::
[])) .ret))
theorem de47 : @compF Try.prog (Gl.none Try.prog) Try.f47 2 = .mk d47 (mkTT 8) [(pth 0),(pth 1)] [.many (pth 4) 2] := by kernel_rfl
theorem dg47 : Try.prog.funcs[47]? = some Try.f47 := Try.func47
theorem do47 : okF Try.prog Try.f47 = true := by kernel_rfl
theorem f47_ok (a b : Int) (H : Heap) : Gives Try.prog 47 [I a, I b] H (.agg ⟨A2 a b⟩) := by
  refine F.entryL rfl dg47 do47 de47 rfl (by kernel_rfl) ?_
  simp only [sets]
  refine V.re [(0, I a), (1, I b)] (N := 8) (by intro i; simp only [full_st, Full.mk]) (by simp only [Kn, gt_st, full_st, Full.mk, ↓reduceIte, qD, qE, decide_true, and_self]) ?_
  intro t hF hA
  simp only [Kn, and_true] at hA
  (repeat first|apply V.seq|apply V.block|apply V.scope|apply V.skip|apply V.close)
  refine V.line' (by simp +contextual (disch := first|omega|simp only [nx];omega) only [D4,qF,qG,qA,qB,qC,D5,hF,hA,↓reduceIte,qD,qE]; with_reducible rfl) ?_
  refine V.heap (fun X => Grow H X ∧ Bx X H.next (A2 0 0) 53) ⟨?_, ?_⟩ ?_
  · (repeat first | assumption | exact Grow.refl _ | refine Grow.alloc ?_ _ | refine Grow.set ?_ (by first|omega|simp only [nx];omega) _)
  · (repeat first | assumption | exact Bx.new _ _ _ | exact Bx.newAt (by first|omega|simp only [nx];omega) | refine Bx.put (by first|omega|simp only [nx];omega) _ _ | refine Bx.alloc ?_ _ | refine Bx.set ?_ (by first|omega|simp only [nx];omega) _)
  rintro H1 ⟨g1, b1⟩
  have := b1.1
  (repeat first|apply V.seq|apply V.block|apply V.scope|apply V.skip|apply V.close)
  refine V.line' (by simp +contextual (disch := first|omega|simp only [nx];omega) only [D4,qF,qG,qA,qB,qC,D5,hF,hA,↓reduceIte,qD,qE, b1.2]; with_reducible rfl) ?_
  (repeat first|apply V.seq|apply V.block|apply V.scope|apply V.skip|apply V.close)
  refine V.ret (V.rets rfl (Lv.retG (by simp +contextual (disch := first|omega|simp only [nx];omega) only [D1, cells_alloc_at, cells_alloc_ne, cells_set_at, cells_set_ne, yres, yres1, yresL, qA, qB, qC, D5,hF,hA,↓reduceIte,qD,qE, cells_set]; rfl) ?_ ?_))
  · (repeat first | assumption | exact Grow.refl _ | refine Grow.alloc ?_ _ | refine Grow.set ?_ (by first|omega|simp only [nx];omega) _)
  · rfl
theorem key53 {a b : Int} (ha : (Lit.int .i64 a).wf = true) (hb : (Lit.int .i64 b).wf = true) : (keyOf Try.prog 53 (.agg ⟨[I a, I b]⟩)).isSome = true := by
  have c3 : Try.prog.cellsOf 3 = 1 := by kernel_rfl
  have c48 : Try.prog.cellsOf 53 = 2 := by kernel_rfl
  have h5 : (Program.keyType Try.prog 53 && (Value.agg ⟨[I a, I b]⟩).formed Try.prog 53) = true := by kernel_rfl
  obtain ⟨n, hn⟩ : ∃ n, Try.prog.types.size + 1 = n + 2 := ⟨Try.prog.types.size - 1, by have : 2 ≤ Try.prog.types.size := Nat.le_of_ble_eq_true (by kernel_rfl); omega⟩
  unfold keyOf
  simp only [Try.underlying53]
  rw [if_pos h5, hn]
  unfold Program.keyLits
  simp only [Try.underlying53, c48]
  have e : (Value.agg ⟨[I a, I b]⟩).cells.toList = [I a, I b] := rfl
  rw [e, if_pos ⟨rfl, by simp⟩]
  simp [c3, kl_int ha, kl_int hb]
theorem neq53 {a b c d : Int} (ha : (Lit.int .i64 a).wf = true) (hb : (Lit.int .i64 b).wf = true) (hc : (Lit.int .i64 c).wf = true) (hd : (Lit.int .i64 d).wf = true) : xbinOp Try.prog .neq 53 (.agg ⟨A2 a b⟩) (.agg ⟨A2 c d⟩) = some (.bool (!decide (a = c ∧ b = d))) := by
  have h1 : xbin Try.prog .neq 53 (.agg ⟨A2 a b⟩) (.agg ⟨A2 c d⟩) = none := rfl
  have h2 : xbinStr .neq (.agg ⟨A2 a b⟩) (.agg ⟨A2 c d⟩) = none := rfl
  have h3 : xeqNil Try.prog true 53 (.agg ⟨A2 a b⟩) (.agg ⟨A2 c d⟩) = none := by
    unfold xeqNil
    simp only [Try.underlying53]
  have h4 : keyedB Try.prog 53 = true := by kernel_rfl
  have h5 : Try.prog.eqGuardType Try.prog.depth 53 = false := by kernel_rfl
  unfold xbinOp
  rw [h1, h2]
  simp only [h3]
  unfold xeqAgg
  simp only [Try.underlying53]
  rw [if_pos ⟨h4, rfl, rfl, key53 ha hb, key53 hc hd, h5⟩]
  simp [valEq, cellsEq, cellEq]
end Go.Xe.TMX
/- What the functions of the layer miss come to: which of two fractions is less. Conditions: none. -/
-- MOD TM
namespace Go.Xe.TMX
open Go Go.Xe Go.Proofs Go.Xe.Mth
open Nat renaming reduceLeDiff → qA, reduceSub → qB, reduceAdd → qC, reduceEqDiff → qD, reduceLT → qE
open Int renaming reduceNegSucc → qF, reduceEq → qG
set_option maxRecDepth 100000
set_option maxHeartbeats 3200000
set_option linter.unusedSimpArgs false
end Go.Xe.TMX
/- What the functions of the layer miss come to: is a sample large enough, as the statement says it. Conditions: none. -/
-- MOD TM
namespace Go.Xe.TMX
open Go Go.Xe Go.Proofs Go.Xe.Mth
open Nat renaming reduceLeDiff → qA, reduceSub → qB, reduceAdd → qC, reduceEqDiff → qD, reduceLT → qE
open Int renaming reduceNegSucc → qF, reduceEq → qG
set_option maxRecDepth 100000
set_option maxHeartbeats 3200000
set_option linter.unusedSimpArgs false
def small (a k n q u : Nat) : Prop := (ch (a + u) k - ch a k) * q < n * ch (a + u) k
instance (a k n q u : Nat) : Decidable (small a k n q u) := by unfold small; infer_instance
def lge (a b m k n q : Nat) : Prop := ∀ u, u < b + 1 → m ≤ u → ¬ small a k n q u
instance (a b m k n q : Nat) : Decidable (lge a b m k n q) := by unfold lge; infer_instance
end Go.Xe.TMX
/- What the functions of the layer miss come to: the chance that a sample has somebody who is not on the lists. Conditions: none. -/
-- MOD TM
namespace Go.Xe.TMX
open Go Go.Xe Go.Proofs Go.Xe.Mth
open Nat renaming reduceLeDiff → qA, reduceSub → qB, reduceAdd → qC, reduceEqDiff → qD, reduceLT → qE
open Int renaming reduceNegSucc → qF, reduceEq → qG
set_option maxRecDepth 100000
set_option maxHeartbeats 3200000
set_option linter.unusedSimpArgs false
end Go.Xe.TMX
/- What the functions of the layer miss come to: the smallest sample that is large enough. Conditions: none. -/
-- MOD TM
namespace Go.Xe.TMX
open Go Go.Xe Go.Proofs Go.Xe.Mth
open Nat renaming reduceLeDiff → qA, reduceSub → qB, reduceAdd → qC, reduceEqDiff → qD, reduceLT → qE
open Int renaming reduceNegSucc → qF, reduceEq → qG
set_option maxRecDepth 100000
set_option maxHeartbeats 3200000
set_option linter.unusedSimpArgs false
end Go.Xe.TMX
/- What the statement MissEnough comes to. Conditions: none. -/
-- MOD TM
namespace Go.Xe.TMX
open Go Go.Xe Go.Proofs Go.Xe.Mth
open Nat renaming reduceLeDiff → qA, reduceSub → qB, reduceAdd → qC, reduceEqDiff → qD, reduceLT → qE
open Int renaming reduceNegSucc → qF, reduceEq → qG
set_option maxRecDepth 100000
set_option maxHeartbeats 3200000
set_option linter.unusedSimpArgs false
end Go.Xe.TMX
/- What the statement MissSmallest comes to. Conditions: none. -/
-- MOD TM
namespace Go.Xe.TMX
open Go Go.Xe Go.Proofs Go.Xe.Mth
open Nat renaming reduceLeDiff → qA, reduceSub → qB, reduceAdd → qC, reduceEqDiff → qD, reduceLT → qE
open Int renaming reduceNegSucc → qF, reduceEq → qG
set_option maxRecDepth 100000
set_option maxHeartbeats 3200000
set_option linter.unusedSimpArgs false
end Go.Xe.TMX
/- Rules of reasoning over the executable reading of the model's code (part Z21): own slices whose elements have several cells each, and appends to them. Conditions: none; for every program. -/
namespace Go.Xe
open Go
theorem flat_at {w : Nat} : ∀ {l : List (List Value)} {k : Nat} {x : List Value}, (∀ x ∈ l, x.length = w) → l[k]? = some x → (l.flatten.drop (k * w)).take w = x
  | [], k, x, _, h => by simp at h
  | y :: l, 0, x, hl, h => by
    simp only [List.getElem?_cons_zero, Option.some.injEq] at h
    subst h
    have := hl y (by simp)
    subst this
    simp
  | y :: l, k + 1, x, hl, h => by
    simp only [List.getElem?_cons_succ] at h
    have e := hl y (by simp)
    rw [List.flatten_cons, Nat.succ_mul, List.drop_append, e, List.drop_eq_nil_of_le (by omega), List.nil_append, show k * w + w - w = k * w by omega]
    exact flat_at (fun z hz => hl z (by simp [hz])) h
theorem flat_len {w : Nat} : ∀ {l : List (List Value)}, (∀ x ∈ l, x.length = w) → l.flatten.length = l.length * w
  | [], _ => by simp
  | y :: l, hl => by
    rw [List.flatten_cons, List.length_append, hl y (by simp), flat_len (fun z hz => hl z (by simp [hz])), List.length_cons, Nat.succ_mul]
    omega
theorem Sw.flat {w : Nat} {H : Heap} {i c : Nat} {l : List (List Value)} {el : TypeId} {rw : Bool} (hi : i < H.next) (hc : H.cellsAt i = some (⟨l.flatten⟩, el, rw)) (hl : ∀ x ∈ l, x.length = w) (hn : l.length ≤ c) : Sw w H (.slice (some ⟨i, 0, none⟩) l.length c) l := by
  refine .at hi hc hn rfl (by show 0 + l.length * w ≤ l.flatten.length; rw [flat_len hl]; omega) (fun k x hx => ?_)
  have := flat_at hl hx
  apply Array.ext'
  simp only [Nat.zero_add, List.extract_toArray, List.extract_eq_take_drop]
  rw [show k * w + w - k * w = w by omega, this]
theorem SlN.sw {w : Nat} {H : Heap} {v : Value} {l : List (List Value)} (h : SlN H w v l) : Sw w H v l := by
  cases h with
  | nil => exact .nil
  | spot i o s => exact .spot i o s
  | «at» hi hc hn hl hs hv =>
    rename_i i o n c a el rw
    refine .at hi hc hn hl hs (fun k x hx => ?_)
    obtain ⟨h1, h2⟩ := hv k x hx
    have hk : k < n := by have := (List.getElem?_eq_some_iff.1 hx).1; omega
    have hle : k * w + w ≤ n * w := by
      have := Nat.mul_le_mul_right w (show k + 1 ≤ n by omega)
      rw [Nat.add_mul, Nat.one_mul] at this
      exact this
    apply Array.toList_inj.1
    apply List.ext_getElem?
    intro j
    have e1 : (a.extract (o + k * w) (o + k * w + w)).toList[j]? = if j < w then a[o + k * w + j]? else none := by
      rw [Array.getElem?_toList, Array.getElem?_extract]
      by_cases hj : j < w
      · rw [if_pos (by omega), if_pos hj]
      · rw [if_neg (by omega), if_neg hj]
    rw [e1]
    by_cases hj : j < w
    · rw [if_pos hj]
      have e2 : x[j]? = some x[j] := by simp [h1, hj]
      rw [h2 j _ e2]
      exact e2.symm
    · rw [if_neg hj]
      simp; omega
theorem Sw.source {w : Nat} {H : Heap} {n c : Nat} {a : Option Addr} {r : List (List Value)} (h : Sw w H (.slice a n c) r) (hn : n ≠ 0) (hw : 0 < w) (hr : ∀ x ∈ r, x.length = w) : xsource H w n a = some ⟨r.flatten⟩ ∧ r.length = n := by
  cases h with
  | nil => exact absurd rfl hn
  | spot => exact absurd rfl hn
  | «at» hi hc hnc hl hs hv =>
    rename_i i o a el rw
    refine ⟨?_, hl⟩
    have hnw : n * w ≠ 0 := by
      have := Nat.mul_pos (Nat.pos_of_ne_zero hn) hw
      omega
    simp only [xsource, hc]
    rw [if_pos ⟨hs, hnw⟩]
    congr 1
    have hfl := flat_len hr
    apply Array.ext_getElem?
    intro j
    rw [Array.getElem?_extract]
    by_cases hj : j < n * w
    · rw [if_pos (by omega)]
      have hk : j / w < r.length := by rw [hl]; exact (Nat.div_lt_iff_lt_mul hw).2 hj
      have e := hv (j / w) r[j / w] (by simp [hk])
      have e2 := flat_at hr (k := j / w) (x := r[j / w]) (by simp [hk])
      have hm := Nat.mod_lt j hw
      have hd : j / w * w + j % w = j := Nat.div_add_mod' j w
      have hle : j / w * w + w ≤ n * w := by
        have := Nat.mul_le_mul_right w (show j / w + 1 ≤ n by omega)
        rw [Nat.add_mul, Nat.one_mul] at this
        exact this
      have e3 : (r.flatten)[j]? = (r[j / w])[j % w]? := by
        rw [← e2, List.getElem?_take, if_pos hm, List.getElem?_drop, hd]
      have e4 : (⟨r.flatten⟩ : Array Value)[j]? = (r.flatten)[j]? := arr_get _ _
      rw [e4, e3]
      have e5 : (⟨r[j / w]⟩ : Array Value)[j % w]? = (r[j / w])[j % w]? := arr_get _ _
      rw [← e5, ← e, Array.getElem?_extract, if_pos (by omega)]
      rw [show o + j / w * w + j % w = o + j by omega]
    · rw [if_neg (by omega)]
      symm
      apply Array.getElem?_eq_none
      show r.flatten.length ≤ j
      rw [hfl, hl]; omega
def OwW (w : Nat) (H0 H : Heap) (e : TypeId) (v : Value) (l : List (List Value)) : Prop := (v = .slice none 0 0 ∧ l = []) ∨ ∃ i, H0.next ≤ i ∧ i < H.next ∧ v = .slice (some ⟨i, 0, none⟩) l.length l.length ∧ H.cellsAt i = some (⟨l.flatten⟩, e, true)
theorem OwW.sw {w : Nat} {H0 H : Heap} {e : TypeId} {v : Value} {l : List (List Value)} (h : OwW w H0 H e v l) (hl : ∀ x ∈ l, x.length = w) : Sw w H v l := by
  rcases h with ⟨rfl, rfl⟩ | ⟨i, _, h2, rfl, h4⟩
  · exact .nil
  · exact .flat h2 h4 hl (Nat.le_refl _)
theorem OwW.keep {w : Nat} {H0 H H' : Heap} {e : TypeId} {v : Value} {l : List (List Value)} (h : OwW w H0 H e v l) (g : Grow H H') : OwW w H0 H' e v l := by
  rcases h with ⟨rfl, rfl⟩ | ⟨i, h1, h2, rfl, h4⟩
  · exact .inl ⟨rfl, rfl⟩
  · exact .inr ⟨i, h1, Nat.lt_of_lt_of_le h2 g.1, rfl, (g.cells h2).trans h4⟩
theorem OwW.nil {w : Nat} {H0 H : Heap} {e : TypeId} : OwW w H0 H e (.slice none 0 0) [] := .inl ⟨rfl, rfl⟩
theorem OwW.len {w : Nat} {H0 H : Heap} {e : TypeId} {v : Value} {l : List (List Value)} (h : OwW w H0 H e v l) (X : Heap) : ylen 0 X v = some (.int .i64 l.length) := by
  rcases h with ⟨rfl, rfl⟩ | ⟨i, _, _, rfl, _⟩ <;> rfl
theorem OwW.base {w : Nat} {A B H : Heap} {e : TypeId} {v : Value} {l : List (List Value)} (h : OwW w A H e v l) (hn : B.next ≤ A.next) : OwW w B H e v l := by
  rcases h with h | ⟨i, h1, h2, h3, h4⟩
  · exact .inl h
  · exact .inr ⟨i, by omega, h2, h3, h4⟩
theorem OwW.append {w : Nat} {H0 H : Heap} {e : TypeId} {bytes : Nat} {s x : Value} {l r : List (List Value)} (hw : 0 < w) (g : Grow H0 H) (hs : OwW w H0 H e s l) (hl : ∀ x ∈ l, x.length = w) (hx : Sw w H x r) (hr : ∀ x ∈ r, x.length = w) (hok : r.flatten.all ok1 = true) (hb : (2 * (l.length + r.length) + 256) * bytes ≤ 281474976710656) (h2 : l.length + r.length ≤ 281474976710656) :
    ∃ v H', yappend e w bytes H s x = some (v, H') ∧ OwW w H0 H' e v (l ++ r) ∧ Grow H0 H' ∧ Apart H H' s := by
  have hsx : ∃ b m c, x = .slice b m c := by cases hx <;> exact ⟨_, _, _, rfl⟩
  obtain ⟨b, m, c, rfl⟩ := hsx
  by_cases hm : m = 0
  · subst hm
    have hr : r = [] := by
      cases hx with
      | nil => rfl
      | spot => rfl
      | «at» hi hc hnc hl hss hv => exact List.length_eq_zero_iff.1 hl
    subst hr
    refine ⟨s, H, ?_, by simpa using hs, g, Nat.le_refl _, fun _ _ _ => rfl⟩
    rcases hs with ⟨rfl, rfl⟩ | ⟨i, _, _, rfl, _⟩ <;> simp [yappend]
  · obtain ⟨h3, h4⟩ := hx.source hm hw hr
    subst h4
    have e48 : (2 : Nat) ^ 48 = 281474976710656 := by decide
    have hcond : ((⟨r.flatten⟩ : Array Value).toList.all fun y => y.oneCell' && notTop y) = true := hok
    rcases hs with ⟨rfl, rfl⟩ | ⟨i, i1, i2, rfl, i4⟩
    · refine ⟨.slice (some ⟨H.next, 0, none⟩) r.length r.length, H.alloc (.cells ⟨r.flatten⟩ e true), ?_, ?_, g.alloc _, Nat.le_succ _, fun j hj _ => by rw [Heap.get_alloc, if_neg (by omega)]⟩
      · simp only [yappend]
        rw [if_neg hm, h3]
        simp only []
        rw [e48, if_pos ⟨hcond, by simpa using hb, by simpa using h2⟩]
        simp
      · exact .inr ⟨H.next, g.1, Nat.lt_succ_self _, rfl, cells_alloc _ _ _ _⟩
    · refine ⟨.slice (some ⟨H.next, 0, none⟩) (l.length + r.length) (l.length + r.length), (H.set i .dead).alloc (.cells ⟨(l ++ r).flatten⟩ e true), ?_, ?_, (g.set i1 _).alloc _, Nat.le_succ _, fun j hj hne => ?_⟩
      · have hfl := flat_len hl
        simp only [yappend]
        rw [if_neg hm, h3]
        simp only []
        rw [e48, if_pos ⟨hcond, hb, h2⟩]
        simp only [i4]
        have hsz : (⟨l.flatten⟩ : Array Value).size = l.length * w := hfl
        rw [if_pos ⟨trivial, by rw [hsz]; omega, by rw [hsz]; omega, by omega⟩, if_neg (by omega)]
        have hxx : (⟨l.flatten⟩ : Array Value).extract 0 (0 + l.length * w) ++ (⟨r.flatten⟩ : Array Value) = ⟨(l ++ r).flatten⟩ := by
          apply Array.toList_inj.1
          rw [Nat.zero_add, ← hfl]
          simp only [Array.toList_append, List.extract_toArray, List.extract_eq_take_drop, List.drop_zero, Nat.sub_zero, List.take_length, List.flatten_append]
        rw [hxx]
      · have := cells_alloc (H.set i .dead) ⟨(l ++ r).flatten⟩ e true
        refine .inr ⟨H.next, g.1, Nat.lt_succ_self _, by simp, by simpa using this⟩
      · have hji : j ≠ i := fun h => hne 0 _ _ (by rw [h])
        rw [Heap.get_alloc, if_neg (by simp; omega), Heap.get_set, if_neg hji]
theorem OwW.push {w : Nat} {H0 H : Heap} {e : TypeId} {bytes : Nat} {s : Value} {l : List (List Value)} {x : List Value} (hw : 0 < w) (g : Grow H0 H) (hs : OwW w H0 H e s l) (hl : ∀ x ∈ l, x.length = w) (hx : x.length = w) (hok : x.all ok1 = true) (hb : (2 * (l.length + 1) + 256) * bytes ≤ 281474976710656) (h2 : l.length + 1 ≤ 281474976710656) :
    ∃ v H', yappend e w bytes (H.alloc (.cells ⟨x⟩ e true)) s (.slice (some ⟨H.next, 0, none⟩) 1 1) = some (v, H') ∧ OwW w H0 H' e v (l ++ [x]) ∧ Grow H0 H' ∧ Apart H H' s ∧ H.next + 1 ≤ H'.next ∧ H'.cellsAt H.next = some (⟨x⟩, e, true) := by
  have hcell : (H.alloc (.cells ⟨x⟩ e true)).cellsAt H.next = some (⟨x⟩, e, true) := cells_alloc _ _ _ _
  have g1 : Grow H (H.alloc (.cells ⟨x⟩ e true)) := (Grow.refl H).alloc _
  have hsw : Sw w (H.alloc (.cells ⟨x⟩ e true)) (.slice (some ⟨H.next, 0, none⟩) 1 1) [x] := Sw.one ⟨Nat.lt_succ_self _, hcell⟩ hx
  obtain ⟨v, H', k1, k2, k3, k4⟩ := OwW.append (bytes := bytes) hw (g.alloc _) (hs.keep g1) hl hsw (by simpa using hx) (by simpa using hok) (by simpa using hb) (by simpa using h2)
  have hn : H.next + 1 ≤ H'.next := k4.1
  have hsep : ∀ j, j ≤ H.next → (∀ o n c, s ≠ .slice (some ⟨j, o, none⟩) n c) → H'.get j = (H.alloc (.cells ⟨x⟩ e true)).get j := fun j hj hne => k4.2 j (Nat.lt_succ_of_le hj) hne
  have hs0 : ∀ o n c, s ≠ .slice (some ⟨H.next, o, none⟩) n c := by
    intro o n c h
    rcases hs with ⟨rfl, _⟩ | ⟨i, _, h2, rfl, _⟩
    · cases h
    · cases h; omega
  refine ⟨v, H', k1, k2, k3, ⟨by omega, fun j hj hne => ?_⟩, hn, ?_⟩
  · rw [hsep j (by omega) hne]
    exact g1.2 j hj
  · unfold Heap.cellsAt
    rw [hsep H.next (Nat.le_refl _) hs0]
    unfold Heap.cellsAt at hcell
    exact hcell
theorem OwW.lt {w : Nat} {H0 H : Heap} {e : TypeId} {v : Value} {l : List (List Value)} (h : OwW w H0 H e v l) {i : Nat} (hb : blk v = some i) : i < H.next := by
  rcases h with ⟨rfl, _⟩ | ⟨j, _, h2, rfl, _⟩
  · simp [blk] at hb
  · simp only [blk, Option.some.injEq] at hb; omega
end Go.Xe
