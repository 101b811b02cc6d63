/- An executable reading of the model's code over an abstract heap (part 33): a table of functions, and closed calls: what the machine for the kernel answers for a function without parameters, started with no memory at all, the model's call returns in every world, and leaves the world as it was. Conditions: the table holds the program's own functions; the program follows the mixed orders. -/
import Derived.Test.YtmalpmlcgkiahaaYf
namespace Go.Xe
open Go

/-- The parts of the ranges over functions in a code: what binds the round's variables, and the body. -/
def rfs : Code → List (Code × Code)
  | .seq a b => rfs a ++ rfs b
  | .cond _ a b => rfs a ++ rfs b
  | .block _ b => rfs b
  | .scope b => rfs b
  | .loop b => rfs b
  | .rangeFunc _ _ a b => (a, b) :: (rfs a ++ rfs b)
  | _ => []
def rfA (fn : Func) (k : Nat) : Code := match fn.body with
  | some c => match (rfs c)[k]? with
    | some x => x.1
    | none => .skip
  | none => .skip
def rfB (fn : Func) (k : Nat) : Code := match fn.body with
  | some c => match (rfs c)[k]? with
    | some x => x.2
    | none => .skip
  | none => .skip

def compF (P : Program) [Gl P] (fn : Func) (k : Nat) : FFunc := match fn.body with
  | some c => .mk (comp P c) (mkTT fn.ntmps) ((List.range' 0 k).map pth) (fn.results.toList.map (compR P))
  | none => .bad
def okF (P : Program) (fn : Func) : Bool := !(fn.name == "runtime.NumGoroutine") && fn.results.toList.all (resOk P)

/-- What the table owes for the function of this number. -/
def EntryOk (P : Program) [Gl P] (o : Nat → Option Bool) (g : Nat) (f : FFunc) : Prop := f = .bad ∨ (∃ b, f = .orc b ∧ o g = some b) ∨ (o g = none ∧ ∃ fn k, P.funcs[g]? = some fn ∧ okF P fn = true ∧ compF P fn k = f)

inductive FT where
  | e
  | n (f : FFunc) (l r : FT)
noncomputable def look (t : FT) : Nat → FFunc := FT.rec (motive := fun _ => Nat → FFunc) (fun _ => .bad) (fun o _ _ ihl ihr n => Nat.rec (motive := fun _ => FFunc) o (fun m _ => Bool.rec (motive := fun _ => FFunc) (ihr (Nat.div m 2)) (ihl (Nat.div m 2)) (Nat.beq (Nat.mod m 2) 0)) n) t

def FT.Ok (Q : Nat → FFunc → Prop) : FT → (Nat → Nat) → Prop
  | .e, _ => True
  | .n f l r, φ => Q (φ 0) f ∧ FT.Ok Q l (fun k => φ (2 * k + 1)) ∧ FT.Ok Q r (fun k => φ (2 * k + 2))
theorem look_ok {Q : Nat → FFunc → Prop} (hb : ∀ n, Q n .bad) : ∀ {t : FT} {φ : Nat → Nat}, t.Ok Q φ → ∀ n, Q (φ n) (look t n)
  | .e, _, _, n => hb _
  | .n f l r, φ, h, 0 => h.1
  | .n f l r, φ, h, m + 1 => by
    have e : look (.n f l r) (m + 1) = Bool.rec (motive := fun _ => FFunc) (look r (Nat.div m 2)) (look l (Nat.div m 2)) (Nat.beq (Nat.mod m 2) 0) := rfl
    rw [e]
    have h1 : Nat.div m 2 = m / 2 := rfl
    rw [h1]
    rcases beq_mod m with ⟨hb', hm⟩ | ⟨hb', hm⟩
    · have h2 : Nat.beq (Nat.mod m 2) 0 = true := hb'
      rw [h2]
      have := look_ok hb h.2.1 (m / 2)
      rw [show m + 1 = 2 * (m / 2) + 1 by omega]
      exact this
    · have h2 : Nat.beq (Nat.mod m 2) 0 = false := hb'
      rw [h2]
      have := look_ok hb h.2.2 (m / 2)
      rw [show m + 1 = 2 * (m / 2) + 2 by omega]
      exact this

theorem fnOk_of {P : Program} [Gl P] (O : Orc P) {t : FT} (h : t.Ok (EntryOk P O.O) (fun k => k)) : @FnOk P _ O (look t) := by
  intro g
  rcases look_ok (Q := EntryOk P O.O) (fun _ => .inl rfl) h g with h1 | h1 | ⟨h0, fn, k, h1, h2, h3⟩
  · exact .inl h1
  · exact .inr (.inl h1)
  · unfold compF at h3
    split at h3
    · rename_i c hc
      unfold okF at h2
      simp only [Bool.and_eq_true, Bool.not_eq_true', List.all_eq_true] at h2
      exact .inr (.inr ⟨fn, c, k, h0, h1, hc, h2.1, h2.2, h3.symm⟩)
    · exact .inl h3.symm

/-- What the machine starts with: it stands for something in every world in which what is known holds, and nothing in it may be written. -/
def Start (P : Program) [Gl P] [Orc P] (H0 : FH) : Prop := ∃ Hs0, HR (comp P) H0 Hs0 ∧ ∀ w : World, Orc.base P ≤ w.heap.size → Orc.I P w → ∃ θ, Rel P θ Hs0 w ∧ At P θ w ∧ ∀ i p, θ i = some p → p.rw = false

theorem start_none {P : Program} (O : Orc P) (hb : O.base = 0) : @Start P (Gl.none P) O (.mk 0 .e) := by
  letI := Gl.none P
  refine ⟨Heap.empty, ⟨rfl, fun i => ?_⟩, fun w _ hI => ⟨fun _ => none, ⟨(fun i o hi => by simp [Heap.get, Heap.empty, Tr.get] at hi), (fun i p hp => by cases hp), (fun i j p q oi oj hi => by simp [Heap.get, Heap.empty, Tr.get] at hi)⟩, ⟨by rw [hb]; exact Nat.zero_le _, hI, fun i p hp => (by cases hp), fun g hg => (by cases hg)⟩, fun i p hp => by cases hp⟩⟩
  have e1 : Heap.empty.get i = none := by simp [Heap.get, Heap.empty, Tr.get]
  rw [e1]; trivial

/-- The end of a closed run: it is to have returned true. -/
noncomputable def endT (v : Value) (_ : FH) : RF := asBool v (.rt .e [] (.mk 0 .e)) (.fail 2000) (.fail 3000)
noncomputable def runT (P : Program) (F : Nat → FFunc) (N f : Nat) (H0 : FH) : RF := callF F (execF P F N) f [] H0 endT

theorem closed {P : Program} [Gl P] (O : Orc P) (hmix : P.follows .mixedOrders = true) {F : Nat → FFunc} (hF : @FnOk P _ O F) {H0 : FH} (hs : @Start P _ O H0) {N f : Nat} (h : runT P F N f H0 = .rt .e [] (.mk 0 .e)) :
    (∀ (w : World) (r : Option Nat) (n : Nat), O.base ≤ w.heap.size → O.I w → CallsIn (FW r) n P f #[] w (Quiet (.bool true) w)) ∧ ∃ fn, P.funcs[f]? = some fn ∧ fn.body.isSome = true ∧ (fn.name == "runtime.NumGoroutine") = false := by
  have hg : Good (callF F (execF P F N) f [] H0 endT) := by
    intro n hn
    have h' : callF F (execF P F N) f [] H0 endT = .rt .e [] (.mk 0 .e) := h
    rw [h'] at hn; cases hn
  obtain ⟨Hs0, hr, hst⟩ := hs
  obtain ⟨v, H', Hs', e1, e2, e3⟩ := callF_ok hF (execF_ok hF N) hr hg
  have hv : v = .bool true := by
    rw [e1] at hg
    have h' : endT v H' = .rt .e [] (.mk 0 .e) := by rw [← e1]; exact h
    unfold endT at hg h'
    rcases asBool_good hg with ⟨a, b⟩ | ⟨a, b⟩ | ⟨_, _, b⟩
    · exact a
    · rw [b] at h'; cases h'
    · rw [b] at h'; cases h'
  subst hv
  refine ⟨fun w r n hb hI => ?_, ?_⟩
  · obtain ⟨θ, hrel, hat, hno⟩ := hst w hb hI
    refine ((xcall_ok (exec_ok hmix N) e2 hrel hat (args' := #[]) AR.nil r n).1).mono ?_
    rintro e w' ⟨v', θ', k1, k2, k3, k4⟩
    cases k4
    exact ⟨k1, k2.size, fun b hb => k2.frame b hb (fun i p hp hrw => by rw [hno i p hp] at hrw; cases hrw), k2.os, k2.tape, k2.output⟩
  · rcases @hF f with hb | ⟨b, hb, hob⟩ | ⟨fn, c, k, h0, h1, h2, h3, _, _⟩
    · exfalso
      unfold callF at hg
      rw [hb] at hg
      exact not_good (n := 72) hg
    · exact (O.ok f b hob).2
    · exact ⟨fn, h1, by rw [h2]; rfl, h3⟩
end Go.Xe
