/- An executable reading of the model's code over an abstract heap (part 9): one operation in the walk, and a region in the order of its text. Conditions: what is executed at a lower depth agrees with the model (ExOk). -/
import Derived.Test.YtaboggibeenjmaaXh
namespace Go.Xe
open Go

/-- One operation, calls and rounds among them. -/
def xopv (P : Program) [Gl P] [Orc P] (ex : Ex) (ρ : Operand → Value) (op : Op) (H : Heap) : Option (Value × Heap) :=
  match op with
  | .call { callee := .value f, args, .. } => match ρ f with
    | .func (.func g) first cap => xcall P ex g (first ++ args.map ρ ++ cap) H
    | .func (.yield l) first _ => xround ex l (first ++ args.map ρ) H
    | _ => none
  | op => xop P H ρ op

def put (tmps : Array Value) (dst : Option Tmp) (v : Value) : Array Value :=
  match dst with
  | some d => tmps.setIfInBounds d v
  | none => tmps

theorem put_rel {θ : Th} {a : Array Value} {b : Act} (h : AR θ a b.tmps) {v v' : Value} (hv : VR θ v v') (dst : Option Tmp) : AR θ (put a dst v) (b.put dst v').tmps := by
  cases dst with
  | none => exact h
  | some d => exact h.set hv d

theorem put_defers (b : Act) (dst : Option Tmp) (v : Value) : (b.put dst v).defers = b.defers := by cases dst <;> rfl

/-- What is asked of what comes behind an operation. -/
def Next' (P : Program) (θ : Th) (w : World) (v : Value) (H' : Heap) (K : Value → World → Prop) : Prop :=
  ∀ v' w' θ', Stp θ w θ' w' → Rel P θ' H' w' → VR θ' v v' → K v' w'

theorem xopv_ok {P : Program} [Gl P] [Orc P] {ex : Ex} (hex : ExOk P ex) {o : Oper} {ρ : Operand → Value} {b : Act} {H H' : Heap} {v : Value} {θ : Th} {w : World} (hr : Rel P θ H w) (hat : At P θ w) (hρ : ∀ x, VR θ (ρ x) (b.eval x))
    (h : xopv P ex ρ o.op H = some (v, H')) (r : Option Nat) (n : Nat) {next : Act → World → Prop} {Q : Exit → Act → World → Prop}
    (k : Next' P θ w v H' fun v' w' => next (b.put o.dst v') w') : o.wpIn (FW r) n P b w next Q := by
  have hdefer : ∀ c, o.op ≠ .defer c := by
    intro c hc
    rw [hc] at h
    simp [xopv, xop] at h
  refine ⟨fun _ _ => trivial, ?_⟩
  rw [Oper.semAt_eq _ _ _ hdefer]
  have plain : xop P H ρ o.op = some (v, H') → o.uponIn (FW r) n P b next Q ((execOp b.eval o).run P w) := by
    intro h
    obtain ⟨m, w', θ', h1, h2, h3, h4⟩ := xop_ok hr hρ h
    rw [h1]
    rcases h4 with ⟨v', rfl, hv⟩ | ⟨rfl, rfl⟩
    · exact k v' w' θ' h2 h3 hv
    · exact k undef w' θ' h2 h3 VR.undef
  unfold xopv at h
  split at h
  · rename_i f args ats hop
    have hx := hρ f
    split at h
    · rename_i g first cap hf
      rw [hf] at hx
      generalize hbf : b.eval f = fv at hx
      cases hx with
      | func hfn h1 h2 h3 h4 =>
        rename_i f' first' cap'
        cases hfn
        have ha : AR θ (first ++ args.map ρ ++ cap) (first' ++ args.map b.eval ++ cap') := (AR.append (AR.append ⟨h1, h2⟩ (AR.map ρ b.eval args hρ)) ⟨h3, h4⟩)
        obtain ⟨hc, fn, hfn, hbody, hname⟩ := xcall_ok hex h hr hat ha r (n - 1)
        have hrun : (execOp b.eval o).run P w = .ok (.enter g (first' ++ args.map b.eval ++ cap')) w := by
          obtain ⟨c, hc⟩ := Option.isSome_iff_exists.1 hbody
          have hname' : ¬ fn.name = "runtime.NumGoroutine" := by simpa using hname
          simp [execOp, hop, resolve, hbf, Deferred.ofValue, invoke, callFunc, hfn, hname', hc]
        rw [hrun, Oper.uponIn_enter]
        refine ⟨FW_depth r n, hc.mono ?_⟩
        rintro e w' ⟨v', θ', rfl, hs, hr', hv⟩
        exact k v' w' θ' hs hr' hv
    · rename_i l first cap hf
      rw [hf] at hx
      generalize hbf : b.eval f = fv at hx
      cases hx with
      | func hfn h1 h2 h3 h4 =>
        rename_i f' first' cap'
        cases hfn with
        | same _ hno => exact absurd rfl (hno l)
        | yield hp =>
          rename_i p
          have ha : AR θ (first ++ args.map ρ) (first' ++ args.map b.eval) := AR.append ⟨h1, h2⟩ (AR.map ρ b.eval args hρ)
          obtain ⟨fn, tmps, assign, body, hy, hR⟩ := xround_ok hex h hr hat ha hp r (n - 1)
          have hrun : (execOp b.eval o).run P w = .ok (.round p.blk fn tmps assign body) w := by
            simp only [execOp, hop, resolve, hbf, Deferred.ofValue, invoke, Sem.run_bind, Sem.run_pure, Result.andThen_ok]
            exact hy
          rw [hrun, Oper.uponIn_round]
          refine ⟨FW_depth r n, hR.mono ?_⟩
          rintro e w' ⟨v', θ', rfl, hs, hr', hv⟩
          exact k v' w' θ' hs hr' hv
    · cases h
  · exact plain h

/-- Is an operation wanted? 'none': it cannot be told. -/
def xwanted (ops : Array Oper) (tmps : Array Value) (o : Oper) : Option Bool :=
  match o.guard with
  | none => some true
  | some (j, want) => match ((ops[j]?).bind (·.dst)).bind (tmps[·]?) with
    | some (.bool b) => some (b == want)
    | some (.chan none) => none
    | _ => some false

theorem xwanted_ok {θ : Th} {ops : Array Oper} {tmps tmps' : Array Value} (ht : AR θ tmps tmps') {o : Oper} {c : Bool} (h : xwanted ops tmps o = some c) : Region.wanted o (yielded ops tmps') = c := by
  unfold xwanted at h
  unfold Region.wanted
  split at h
  · rename_i hg; cases h; rw [hg]
  · rename_i j want hg
    rw [hg]
    simp only
    unfold yielded
    cases hd : (ops[j]?).bind (·.dst) with
    | none =>
      rw [hd] at h
      simp at h; subst h; simp
    | some d =>
      rw [hd] at h
      simp only [Option.bind_some] at h ⊢
      cases hv : tmps[d]? with
      | none =>
        rw [hv] at h
        have : tmps'[d]? = none := by rw [Array.getElem?_eq_none_iff] at hv ⊢; rw [← ht.1]; exact hv
        rw [this]
        simp at h; subst h; simp
      | some v =>
        rw [hv] at h
        obtain ⟨v', hv', hr⟩ := ht.get hv
        rw [hv']
        cases hr <;> simp at h <;> subst h <;> simp

/-- A region's operations, in the order of the text. -/
def xrun (P : Program) [Gl P] [Orc P] (ex : Ex) (ops : Array Oper) : List Oper → Array Value → Heap → Option (Array Value × Heap)
  | [], t, H => some (t, H)
  | o :: rest, t, H => match xwanted ops t o with
    | some true => match xopv P ex (ev P t) o.op H with
      | some (v, H') => xrun P ex ops rest (put t o.dst v) H'
      | none => none
    | some false => xrun P ex ops rest (put t o.dst undef) H
    | none => none

theorem xrun_ok {P : Program} [Gl P] [Orc P] {ex : Ex} (hex : ExOk P ex) {ops : Array Oper} {Q : Exit → Act → World → Prop} (r : Option Nat) (n : Nat) :
    ∀ (l : List Oper) (i : Nat) (t t' : Array Value) (H H' : Heap) (θ : Th) (w : World) (b : Act), (∀ j, l[j]? = ops[i + j]?) → xrun P ex ops l t H = some (t', H') → Rel P θ H w → At P θ w → AR θ t b.tmps →
    (∀ (θ' : Th) (w' : World) (b' : Act), Stp θ w θ' w' → Rel P θ' H' w' → AR θ' t' b'.tmps → b'.defers = b.defers → Q .normal b' w') →
    wpOpsIn (FW r) n P ops Q (List.range' i l.length) b w := by
  intro l
  induction l with
  | nil =>
    intro i t t' H H' θ w b _ h hr hat ht k
    simp only [xrun] at h; cases h
    exact k θ w b (Stp.refl _ _) hr ht rfl
  | cons o l ih =>
    intro i t t' H H' θ w b hl h hr hat ht k
    have ho : ops[i]? = some o := by have := hl 0; simpa using this.symm
    have hl' : ∀ j, l[j]? = ops[i + 1 + j]? := fun j => by have := hl (j + 1); simp only [List.getElem?_cons_succ] at this; rw [this]; congr 1; omega
    simp only [List.length_cons, List.range'_succ, wpOpsIn, ho]
    simp only [xrun] at h
    split at h
    · rename_i hw
      rw [xwanted_ok ht hw]
      simp only [if_true]
      split at h
      · rename_i v H1 hv
        refine xopv_ok hex hr hat (ev_rel hat ht) hv r n ?_
        intro v' w' θ' hs hr' hvr
        refine ih (i + 1) _ _ _ _ θ' w' _ hl' h hr' (hat.stp hs) (put_rel (ht.ext hs.ext) hvr o.dst) ?_
        intro θ2 w2 b2 hs2 hr2 ht2 hd2
        exact k θ2 w2 b2 (hs.trans hs2) hr2 ht2 (hd2.trans (put_defers _ _ _))
      · cases h
    · rename_i hw
      rw [xwanted_ok ht hw]
      simp only [Bool.false_eq_true, if_false]
      refine ⟨fun _ _ => trivial, ?_⟩
      refine ih (i + 1) _ _ _ _ θ w _ hl' h hr hat (put_rel ht VR.undef o.dst) ?_
      intro θ2 w2 b2 hs2 hr2 ht2 hd2
      exact k θ2 w2 b2 hs2 hr2 ht2 (hd2.trans (put_defers _ _ _))
    · cases h

end Go.Xe
