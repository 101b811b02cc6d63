/- What the statement AgeCounts comes to. Conditions: none. -/
import Derived.Test.YtefoodhfkkcmcaaZr
import Derived.Test.YtefoodhfkkcmcaaTAJ
-- MOD TA
namespace Go.Xe.TAX
open Go Go.Xe Go.Proofs
set_option maxRecDepth 100000
set_option maxHeartbeats 3200000
set_option linter.unusedSimpArgs false
theorem key48 {a b : Int} (ha : (Lit.int .i64 a).wf = true) (hb : (Lit.int .i64 b).wf = true) : (keyOf Try.prog 48 (.agg ⟨[I a, I b]⟩)).isSome = true := by
  have c3 : Try.prog.cellsOf 3 = 1 := by kernel_rfl
  have c48 : Try.prog.cellsOf 48 = 2 := by kernel_rfl
  have h5 : (Program.keyType Try.prog 48 && (Value.agg ⟨[I a, I b]⟩).formed Try.prog 48) = true := by kernel_rfl
  obtain ⟨n, hn⟩ : ∃ n, Try.prog.types.size + 1 = n + 2 := ⟨Try.prog.types.size - 1, by have : 2 ≤ Try.prog.types.size := Nat.le_of_ble_eq_true (by kernel_rfl); omega⟩
  unfold keyOf
  simp only [Try.underlying48]
  rw [if_pos h5, hn]
  unfold Program.keyLits
  simp only [Try.underlying48, c48]
  have e : (Value.agg ⟨[I a, I b]⟩).cells.toList = [I a, I b] := rfl
  rw [e, if_pos ⟨rfl, by simp⟩]
  simp [c3, kl_int ha, kl_int hb]
theorem eq48 {a b c d : Int} (ha : (Lit.int .i64 a).wf = true) (hb : (Lit.int .i64 b).wf = true) (hc : (Lit.int .i64 c).wf = true) (hd : (Lit.int .i64 d).wf = true) : xbinOp Try.prog .eql 48 (.agg ⟨A2 a b⟩) (.agg ⟨A2 c d⟩) = some (.bool (decide (a = c ∧ b = d))) := by
  have h1 : xbin Try.prog .eql 48 (.agg ⟨A2 a b⟩) (.agg ⟨A2 c d⟩) = none := rfl
  have h2 : xbinStr .eql (.agg ⟨A2 a b⟩) (.agg ⟨A2 c d⟩) = none := rfl
  have h3 : xeqNil Try.prog false 48 (.agg ⟨A2 a b⟩) (.agg ⟨A2 c d⟩) = none := by
    unfold xeqNil
    simp only [Try.underlying48]
  have h4 : keyedB Try.prog 48 = true := by kernel_rfl
  have h5 : Try.prog.eqGuardType Try.prog.depth 48 = false := by kernel_rfl
  unfold xbinOp
  rw [h1, h2]
  simp only [h3]
  unfold xeqAgg
  simp only [Try.underlying48]
  rw [if_pos ⟨h4, rfl, rfl, key48 ha hb, key48 hc hd, h5⟩]
  simp [valEq, cellsEq, cellEq]
/-- The error that is due before the numbers are looked at one by one. -/
noncomputable def w0 (a b c d : Int) (l : List Int) (lo hi : Int) : Int :=
  if ¬ rv a b c d then 1 else if 200 < l.length then 3 else if ¬ ((l.all fun x => decide (0 ≤ x ∧ x ≤ 140)) = true ∧ 0 ≤ lo ∧ lo ≤ hi ∧ hi ≤ 120) then 2 else 0
/-- What lies in the memory of the statement's own. -/
def HB (H : Heap) (j : Nat) (a b c d lo hi x y : Int) (X : Heap) : Prop := Grow H X ∧ Bx X H.next (R4 a b c d) 23 ∧ Bx X (H.next + 1) (A2 lo hi) 47 ∧ Bx X j (A2 x y) 48
theorem HB.grow {H : Heap} {j : Nat} {a b c d lo hi x y : Int} {X Y : Heap} (h : HB H j a b c d lo hi x y X) (g : Grow X Y) : HB H j a b c d lo hi x y Y := ⟨h.1.trans g, h.2.1.grow g, h.2.2.1.grow g, h.2.2.2.grow g⟩
end Go.Xe.TAX
