/- Rules of reasoning over the executable reading of the model's code (part Z1): what a code comes to, in big steps; functions; regions, operation by operation. Conditions: none; for every program. -/
import Derived.Test.YtmalpmlcgkiahaaXp
import Derived.Test.YtmalpmlcgkiahaaYg
namespace Go.Xe
open Go
section
variable (P : Program) [Gl P] [Orc P]

/-- The code comes to e and a', whatever the depth, from some depth on. -/
def EvC (rnd : Option Nat) (c : Code) (a : AS) (e : XE) (a' : AS) : Prop := ∃ N0, ∀ N, N0 ≤ N → exec P N rnd c a = some (e, a')
/-- The function returns v, and leaves the heap H'. -/
def EvF (f : FuncId) (args : Array Value) (H : Heap) (v : Value) (H' : Heap) : Prop := ∃ N0, ∀ N, N0 ≤ N → xcall P (exec P N) f args H = some (v, H')
/-- A round. -/
def EvY (l : Nat) (args : Array Value) (H : Heap) (v : Value) (H' : Heap) : Prop := ∃ N0, ∀ N, N0 ≤ N → xround (exec P N) l args H = some (v, H')
/-- Operations in the order of the text. -/
def EvO (ops : Array Oper) (l : List Oper) (t : Array Value) (H : Heap) (t' : Array Value) (H' : Heap) : Prop := ∃ N0, ∀ N, N0 ≤ N → xrun P (exec P N) ops l t H = some (t', H')
/-- Operations in a plan's order. -/
def EvS (ops : Array Oper) (l : List Nat) (t : Array Value) (H : Heap) (t' : Array Value) (Gs : List Heap) : Prop := ∃ N0, ∀ N, N0 ≤ N → xsteps P (exec P N) ops l t H = some (t', Gs)

inductive Fr where
  | seq (c : Code)
  | block (id : Nat)

/-- What waits, run to its end, comes to what is asked. -/
def W (rnd : Option Nat) (Q : XE → AS → Prop) : List Fr → XE → AS → Prop
  | [], e, a => Q e a
  | .seq c :: K, .normal, a => ∃ e a', EvC P rnd c a e a' ∧ W rnd Q K e a'
  | .seq _ :: K, .exit id, a => W rnd Q K (.exit id) a
  | .seq _ :: K, .ret, a => W rnd Q K .ret a
  | .block id :: K, .exit id', a => if id' = id then W rnd Q K .normal a else W rnd Q K (.exit id') a
  | .block _ :: K, .normal, a => W rnd Q K .normal a
  | .block _ :: K, .ret, a => W rnd Q K .ret a

/-- The operations that are left of a region, and what waits behind it. -/
def WO (rnd : Option Nat) (Q : XE → AS → Prop) (K : List Fr) (m : List Nat) (ops : Array Oper) (l : List Oper) (t : Array Value) (H : Heap) : Prop := ∃ t' H', EvO P ops l t H t' H' ∧ W P rnd Q K .normal ⟨t', m, H'⟩
def F (f : FuncId) (args : Array Value) (H : Heap) (R : Value → Heap → Prop) : Prop := ∃ v H', EvF P f args H v H' ∧ R v H'
end

section
variable {P : Program} [Gl P] [Orc P] {rnd : Option Nat} {Q : XE → AS → Prop} {K : List Fr} {a : AS} {id id' : Nat} {c : Code}

theorem EvC.seq {x y : Code} {e : XE} {a a1 a2 : AS} (h : EvC P rnd x a .normal a1) (k : EvC P rnd y a1 e a2) : EvC P rnd (.seq x y) a e a2 := by
  obtain ⟨n, h⟩ := h; obtain ⟨m, k⟩ := k
  refine ⟨n + m + 1, fun N hN => ?_⟩
  obtain ⟨N, rfl⟩ : ∃ M, N = M + 1 := ⟨N - 1, by omega⟩
  simp only [exec, h N (by omega), k N (by omega)]
theorem EvC.seq' {x y : Code} {e : XE} {a a1 : AS} (h : EvC P rnd x a e a1) (hn : e ≠ .normal) : EvC P rnd (.seq x y) a e a1 := by
  obtain ⟨n, h⟩ := h
  refine ⟨n + 1, fun N hN => ?_⟩
  obtain ⟨N, rfl⟩ : ∃ M, N = M + 1 := ⟨N - 1, by omega⟩
  simp only [exec, h N (by omega)]
  cases e <;> first | exact absurd rfl hn | rfl

theorem W.seq {x y : Code} (h : W P rnd Q (.seq x :: .seq y :: K) .normal a) : W P rnd Q (.seq (.seq x y) :: K) .normal a := by
  obtain ⟨e, a1, h1, h2⟩ := h
  cases e with
  | normal => obtain ⟨e2, a2, h3, h4⟩ := h2; exact ⟨e2, a2, h1.seq h3, h4⟩
  | exit id => exact ⟨_, a1, h1.seq' (by simp), h2⟩
  | ret => exact ⟨_, a1, h1.seq' (by simp), h2⟩
theorem W.skip (h : W P rnd Q K .normal a) : W P rnd Q (.seq .skip :: K) .normal a :=
  ⟨_, a, ⟨1, fun N hN => by obtain ⟨N, rfl⟩ : ∃ M, N = M + 1 := ⟨N - 1, by omega⟩; simp only [exec]⟩, h⟩
theorem W.label {l : Nat} (h : W P rnd Q K .normal a) : W P rnd Q (.seq (.label l) :: K) .normal a :=
  ⟨_, a, ⟨1, fun N hN => by obtain ⟨N, rfl⟩ : ∃ M, N = M + 1 := ⟨N - 1, by omega⟩; simp only [exec]⟩, h⟩
theorem W.exit {id : Nat} (h : W P rnd Q K (.exit id) a) : W P rnd Q (.seq (.exit id) :: K) .normal a :=
  ⟨_, a, ⟨1, fun N hN => by obtain ⟨N, rfl⟩ : ∃ M, N = M + 1 := ⟨N - 1, by omega⟩; simp only [exec]⟩, h⟩
theorem W.ret (h : W P rnd Q K .ret a) : W P rnd Q (.seq .ret :: K) .normal a :=
  ⟨_, a, ⟨1, fun N hN => by obtain ⟨N, rfl⟩ : ∃ M, N = M + 1 := ⟨N - 1, by omega⟩; simp only [exec]⟩, h⟩
theorem W.cond {c : Operand} {x y : Code} {b : Bool} (hb : ev P a.tmps c = .bool b) (h : W P rnd Q (.seq (if b then x else y) :: K) .normal a) : W P rnd Q (.seq (.cond c x y) :: K) .normal a := by
  obtain ⟨e, a1, ⟨n, h1⟩, h2⟩ := h
  refine ⟨e, a1, ⟨n + 1, fun N hN => ?_⟩, h2⟩
  obtain ⟨N, rfl⟩ : ∃ M, N = M + 1 := ⟨N - 1, by omega⟩
  simp only [exec, hb]
  exact h1 N (by omega)
theorem W.condT {c : Operand} {x y : Code} {p : Prop} [Decidable p] (hb : ev P a.tmps c = .bool (decide p)) (h1 : p → W P rnd Q (.seq x :: K) .normal a) (h2 : ¬ p → W P rnd Q (.seq y :: K) .normal a) : W P rnd Q (.seq (.cond c x y) :: K) .normal a := by
  refine W.cond hb ?_
  by_cases hp : p
  · simpa [hp] using h1 hp
  · simpa [hp] using h2 hp
theorem W.condB {c : Operand} {x y : Code} {b : Bool} (hb : ev P a.tmps c = .bool b) (h1 : b = true → W P rnd Q (.seq x :: K) .normal a) (h2 : b = false → W P rnd Q (.seq y :: K) .normal a) : W P rnd Q (.seq (.cond c x y) :: K) .normal a := by
  refine W.cond hb ?_
  cases b
  · exact h2 rfl
  · exact h1 rfl
theorem W.block {id : Nat} {c : Code} (h : W P rnd Q (.seq c :: .block id :: K) .normal a) : W P rnd Q (.seq (.block id c) :: K) .normal a := by
  obtain ⟨e, a1, ⟨n, h1⟩, h2⟩ := h
  cases e with
  | normal =>
    refine ⟨.normal, a1, ⟨n + 1, fun N hN => ?_⟩, h2⟩
    obtain ⟨N, rfl⟩ : ∃ M, N = M + 1 := ⟨N - 1, by omega⟩
    simp only [exec, h1 N (by omega)]
  | ret =>
    refine ⟨.ret, a1, ⟨n + 1, fun N hN => ?_⟩, h2⟩
    obtain ⟨N, rfl⟩ : ∃ M, N = M + 1 := ⟨N - 1, by omega⟩
    simp only [exec, h1 N (by omega)]
  | exit id' =>
    simp only [W] at h2
    split at h2
    · rename_i hid
      refine ⟨.normal, a1, ⟨n + 1, fun N hN => ?_⟩, h2⟩
      obtain ⟨N, rfl⟩ : ∃ M, N = M + 1 := ⟨N - 1, by omega⟩
      simp only [exec, h1 N (by omega), hid, if_true]
    · rename_i hid
      refine ⟨.exit id', a1, ⟨n + 1, fun N hN => ?_⟩, h2⟩
      obtain ⟨N, rfl⟩ : ∃ M, N = M + 1 := ⟨N - 1, by omega⟩
      simp only [exec, h1 N (by omega), hid, if_false]
theorem W.scope {c : Code} (h : W P rnd Q (.seq c :: K) .normal a) : W P rnd Q (.seq (.scope c) :: K) .normal a := by
  obtain ⟨e, a1, ⟨n, h1⟩, h2⟩ := h
  refine ⟨e, a1, ⟨n + 1, fun N hN => ?_⟩, h2⟩
  obtain ⟨N, rfl⟩ : ∃ M, N = M + 1 := ⟨N - 1, by omega⟩
  simp only [exec]; exact h1 N (by omega)

/-! leaving -/
theorem W.out (h : W P rnd Q K (.exit id) a) (hid : id ≠ id') : W P rnd Q (.block id' :: K) (.exit id) a := by
  simp only [W]; rw [if_neg hid]; exact h
theorem W.here (h : W P rnd Q K .normal a) : W P rnd Q (.block id :: K) (.exit id) a := by
  simp only [W, if_true]; exact h
theorem W.pass (h : W P rnd Q K (.exit id) a) : W P rnd Q (.seq c :: K) (.exit id) a := h
theorem W.past (h : W P rnd Q K .ret a) : W P rnd Q (.seq c :: K) .ret a := h
theorem W.pastB (h : W P rnd Q K .ret a) : W P rnd Q (.block id :: K) .ret a := h
theorem W.close (h : W P rnd Q K .normal a) : W P rnd Q (.block id :: K) .normal a := h
theorem W.nil {e : XE} (h : Q e a) : W P rnd Q [] e a := h
theorem W.mono {Q' : XE → AS → Prop} (h : ∀ e a, Q e a → Q' e a) : ∀ {K : List Fr} {e : XE} {a : AS}, W P rnd Q K e a → W P rnd Q' K e a
  | [], e, a, k => h e a k
  | .seq c :: K, .normal, a, ⟨e, a', h1, h2⟩ => ⟨e, a', h1, W.mono h h2⟩
  | .seq c :: K, .exit id, a, k => W.mono (K := K) h k
  | .seq c :: K, .ret, a, k => W.mono (K := K) h k
  | .block id :: K, .normal, a, k => W.mono (K := K) h k
  | .block id :: K, .ret, a, k => W.mono (K := K) h k
  | .block id :: K, .exit id', a, k => by
    simp only [W] at k ⊢
    split
    · rename_i e; rw [if_pos e] at k; exact W.mono h k
    · rename_i e; rw [if_neg e] at k; exact W.mono h k

/-- A loop: m falls with each round. -/
theorem EvC.loop_round {body : Code} {a a1 a2 : AS} {e : XE} (h : EvC P rnd body a .normal a1) (k : EvC P rnd (.loop body) a1 e a2) : EvC P rnd (.loop body) a e a2 := by
  obtain ⟨n, h⟩ := h; obtain ⟨m, k⟩ := k
  refine ⟨n + m + 1, fun N hN => ?_⟩
  obtain ⟨N, rfl⟩ : ∃ M, N = M + 1 := ⟨N - 1, by omega⟩
  simp only [exec, h N (by omega), k N (by omega)]
theorem EvC.loop_end {body : Code} {a a1 : AS} {e : XE} (h : EvC P rnd body a e a1) (hn : e ≠ .normal) : EvC P rnd (.loop body) a e a1 := by
  obtain ⟨n, h⟩ := h
  refine ⟨n + 1, fun N hN => ?_⟩
  obtain ⟨N, rfl⟩ : ∃ M, N = M + 1 := ⟨N - 1, by omega⟩
  simp only [exec, h N (by omega)]
  cases e <;> first | exact absurd rfl hn | rfl
theorem W.loop {body : Code} (I : Nat → AS → Prop) (m : Nat) (h0 : I m a)
    (hs : ∀ m a, I m a → W P rnd (fun e a' => (e = .normal ∧ ∃ m', m' < m ∧ I m' a') ∨ (e ≠ .normal ∧ W P rnd Q K e a')) [.seq body] .normal a) : W P rnd Q (.seq (.loop body) :: K) .normal a := by
  induction m using Nat.strongRecOn generalizing a with
  | _ m ih =>
    obtain ⟨e, a1, h1, h2⟩ := hs m a h0
    rcases h2 with ⟨rfl, m', hm, hi⟩ | ⟨hn, hq⟩
    · obtain ⟨e2, a2, h3, h4⟩ := ih m' hm hi
      exact ⟨e2, a2, h1.loop_round h3, h4⟩
    · exact ⟨e, a1, h1.loop_end hn, hq⟩

/-! regions in the order of the text -/
theorem W.region {i : Nat} {ops : Array Oper} (h : WO P rnd Q K a.marks ops ops.toList a.tmps a.heap) : W P rnd Q (.seq (.region i ops false) :: K) .normal a := by
  obtain ⟨t', H', ⟨n, h1⟩, h2⟩ := h
  refine ⟨_, _, ⟨n + 1, fun N hN => ?_⟩, h2⟩
  obtain ⟨N, rfl⟩ : ∃ M, N = M + 1 := ⟨N - 1, by omega⟩
  simp only [exec, Bool.false_eq_true, if_false, h1 N (by omega)]

variable {m : List Nat} {ops : Array Oper} {l : List Oper} {o : Oper} {t : Array Value} {H : Heap}
theorem WO.done (h : W P rnd Q K .normal ⟨t, m, H⟩) : WO P rnd Q K m ops [] t H := ⟨t, H, ⟨0, fun _ _ => rfl⟩, h⟩
/-- An operation that calls nothing. -/
theorem WO.step {v : Value} {H1 : Heap} (hw : xwanted ops t o = some true) (h : ∀ ex, xopvS P ex (ev P t) o.op H = some (v, H1)) (k : WO P rnd Q K m ops l (put t o.dst v) H1) : WO P rnd Q K m ops (o :: l) t H := by
  obtain ⟨t', H', ⟨n, h1⟩, h2⟩ := k
  refine ⟨t', H', ⟨n, fun N hN => ?_⟩, h2⟩
  simp only [xrun, hw, h, h1 N hN]
theorem WO.not (hw : xwanted ops t o = some false) (k : WO P rnd Q K m ops l (put t o.dst undef) H) : WO P rnd Q K m ops (o :: l) t H := by
  obtain ⟨t', H', ⟨n, h1⟩, h2⟩ := k
  refine ⟨t', H', ⟨n, fun N hN => ?_⟩, h2⟩
  simp only [xrun, hw, h1 N hN]
/-- A call. -/
theorem WO.call {f : Operand} {args : Array Operand} {ts : Array TypeId} {g : FuncId} {first cap : Array Value} (hw : xwanted ops t o = some true) (ho : o.op = .call { callee := .value f, args := args, argTypes := ts })
    (hf : ev P t f = .func (.func g) first cap) (k : F P g (first ++ args.map (ev P t) ++ cap) H (fun v H1 => WO P rnd Q K m ops l (put t o.dst v) H1)) : WO P rnd Q K m ops (o :: l) t H := by
  obtain ⟨v, H1, ⟨n0, h0⟩, t', H', ⟨n, h1⟩, h2⟩ := k
  refine ⟨t', H', ⟨n0 + n, fun N hN => ?_⟩, h2⟩
  have : xopvS P (exec P N) (ev P t) o.op H = some (v, H1) := by
    unfold xopvS
    rw [ho]
    simp only [xopv, hf, h0 N (by omega)]
  simp only [xrun, hw, this, h1 N (by omega)]

/-! functions -/
theorem F.mono {f : FuncId} {args : Array Value} {R R' : Value → Heap → Prop} (h : F P f args H R) (k : ∀ v H', R v H' → R' v H') : F P f args H R' := by
  obtain ⟨v, H', h1, h2⟩ := h
  exact ⟨v, H', h1, k _ _ h2⟩

/-- The end of a function's body. -/
def Leave (P : Program) [Gl P] [Orc P] (fn : Func) (R : Value → Heap → Prop) (e : XE) (a : AS) : Prop := (∀ id, e ≠ .exit id) ∧ ∃ H1 v, xunmark a.marks a.heap = some H1 ∧ xresults P H1 fn a.tmps = some v ∧ R v H1

theorem F.of {f : FuncId} {fn : Func} {c : Code} {args : Array Value} {R : Value → Heap → Prop} (h0 : Orc.O P f = none) (h1 : P.funcs[f]? = some fn) (h2 : fn.body = some c) (h3 : (fn.name == "runtime.NumGoroutine") = false)
    (h : W P none (Leave P fn R) [.seq c] .normal ⟨args ++ Array.replicate (fn.ntmps - args.size) undef, [], H⟩) : F P f args H R := by
  obtain ⟨e, a, ⟨n, he⟩, hne, H1, v, hu, hv, hr⟩ := h
  refine ⟨v, H1, ⟨n, fun N hN => ?_⟩, hr⟩
  unfold xcall
  simp only [h0, h1, h2, h3, if_true, he N hN]
  cases e with
  | exit id => exact absurd rfl (hne id)
  | normal => simp only [hu, hv]
  | ret => simp only [hu, hv]
/-- What is taken at its word. -/
theorem F.orc {f : FuncId} {b : Bool} {R : Value → Heap → Prop} (h0 : Orc.O P f = some b) (h : R (.bool b) H) : F P f #[] H R :=
  ⟨_, H, ⟨0, fun N _ => by unfold xcall; simp [h0]⟩, h⟩

theorem F.use (hmix : P.follows .mixedOrders = true) {f : FuncId} {args args' : Array Value} {R : Value → Heap → Prop} (h : F P f args H R) {θ : Th} {w : World} (hr : Rel P θ H w) (hat : At P θ w) (ha : AR θ args args') (r : Option Nat) (n : Nat) :
    ∃ v H', R v H' ∧ CallsIn (FW r) n P f args' w (Returns P θ w v H') := by
  obtain ⟨v, H', ⟨N, hN⟩, h2⟩ := h
  exact ⟨v, H', h2, (xcall_ok (exec_ok hmix N) (hN N (Nat.le_refl _)) hr hat ha r n).1⟩
end
end Go.Xe
/- Rules of reasoning over the executable reading of the model's code (part Z2): operations over code whose types are resolved, in the direct style, over any heap. Conditions: none. -/
namespace Go.Xe
open Go

def gt : Pth → TT → Value
  | _, .e => undef
  | .o, .n v _ _ => v
  | .l p, .n _ l _ => gt p l
  | .r p, .n _ _ r => gt p r
def st (v : Value) : Pth → TT → TT
  | _, .e => .e
  | .o, .n _ l r => .n v l r
  | .l p, .n x l r => .n x (st v p l) r
  | .r p, .n x l r => .n x l (st v p r)
theorem gt_eq : ∀ (p : Pth) (t : TT), getP p t = gt p t
  | .o, .e => rfl
  | .o, .n v l r => rfl
  | .l p, .e => rfl
  | .l p, .n v l r => by rw [gt, ← gt_eq p l]; rfl
  | .r p, .e => rfl
  | .r p, .n v l r => by rw [gt, ← gt_eq p r]; rfl
theorem st_F {v : Value} : ∀ {f i : Nat} {t : TT}, i ≤ f → ∀ j, (st v (pthF f i) t).at j = if j = i ∧ (t.at i).isSome = true then some v else t.at j := by
  intro f
  induction f with
  | zero =>
    intro i t hi j
    have : i = 0 := by omega
    subst this
    cases t with
    | e => simp [pthF, st, TT.at]
    | n x l r => cases j <;> simp [pthF, st, TT.at]
  | succ f ih =>
    intro i t hi j
    cases i with
    | zero =>
      cases t with
      | e => simp [pthF, st, TT.at]
      | n x l r => cases j <;> simp [pthF, st, TT.at]
    | succ m =>
      rcases beq_mod m with ⟨hb, hm⟩ | ⟨hb, hm⟩
      · have e : pthF (f + 1) (m + 1) = .l (pthF f (m / 2)) := by simp only [pthF, hb]
        rw [e]
        cases t with
        | e => simp [st, TT.at]
        | n x l r =>
          cases j with
          | zero => simp [st, TT.at]
          | succ j =>
            simp only [st, TT.at, hb]
            rcases beq_mod j with ⟨hb', hj⟩ | ⟨hb', hj⟩
            · simp only [hb', ih (i := m / 2) (t := l) (by omega) (j / 2)]
              by_cases hjm : j = m
              · subst hjm; simp
              · rw [if_neg (by omega), if_neg (by omega)]
            · simp only [hb']
              rw [if_neg (by omega)]
      · have e : pthF (f + 1) (m + 1) = .r (pthF f (m / 2)) := by simp only [pthF, hb]
        rw [e]
        cases t with
        | e => simp [st, TT.at]
        | n x l r =>
          cases j with
          | zero => simp [st, TT.at]
          | succ j =>
            simp only [st, TT.at, hb]
            rcases beq_mod j with ⟨hb', hj⟩ | ⟨hb', hj⟩
            · simp only [hb']
              rw [if_neg (by omega)]
            · simp only [hb', ih (i := m / 2) (t := r) (by omega) (j / 2)]
              by_cases hjm : j = m
              · subst hjm; simp
              · rw [if_neg (by omega), if_neg (by omega)]
theorem TR.st {t : TT} {a : Array Value} (h : TR t a) (v : Value) (i : Nat) : TR (st v (pth i) t) (a.setIfInBounds i v) := by
  intro j
  have := st_F (v := v) (t := t) (Nat.le_refl i) j
  rw [pth, this, Array.getElem?_setIfInBounds, h i, h j]
  by_cases hj : j = i
  · subst hj
    by_cases hl : j < a.size
    · simp [hl]
    · simp [hl]
  · rw [if_neg (fun c => hj c.1), if_neg (fun c => hj c.symm)]
theorem TR.gt {t : TT} {a : Array Value} (h : TR t a) (i : Nat) : gt (pth i) t = a.getD i undef := by rw [← gt_eq, h.get]

def dA (t : TT) : FA → Value
  | .tmp p => gt p t
  | .con v => v
theorem dA_comp {P : Program} [Gl P] {t : TT} {a : Array Value} (h : TR t a) (x : Operand) : dA t (compA P x) = ev P a x := by
  cases x with
  | tmp i => exact h.gt i
  | const v => rfl
  | global g => rfl
  | func f => rfl

def ypick (c a b : Value) (H : Heap) : Option (Value × Heap) := match c with
  | .bool t => some (if t then a else b, H)
  | _ => none
def yload1 (H : Heap) (x : Value) : Option Value := match x with
  | .pointer (some ⟨i, o, none⟩) => match H.cellsAt i with
    | some (c, _, _) => c[o]?
    | none => none
  | _ => none
def yloadN (n : Nat) (H : Heap) (x : Value) : Option Value := match x with
  | .pointer (some ⟨i, o, none⟩) => match H.cellsAt i with
    | some (c, _, _) => if o + n ≤ c.size ∧ n ≠ 0 then some (.agg (c.extract o (o + n))) else none
    | none => none
  | _ => none
def ystore (n : Nat) (H : Heap) (x v : Value) : Option Heap := match x with
  | .pointer (some ⟨i, o, none⟩) => match H.cellsAt i with
    | some (c, el, true) =>
      if notTop v = true ∧ v.cells.size = n ∧ o + v.cells.size ≤ c.size ∧ v.cells.size ≠ 0 ∧ v.cells.toList.all (fun y => y.oneCell' && notTop y) = true then
        some (H.set i (.cells (setCells v.cells.toList o c) el true))
      else none
    | _ => none
  | _ => none
def yconv (k : IntKind) (x : Value) : Option Value := match x with
  | .int _ n => some (.int k (k.wrap n))
  | _ => none
def yfieldAddr (off : Nat) (x : Value) : Option Value := match x with
  | .pointer (some ⟨i, o, none⟩) => some (.pointer (some ⟨i, o + off, none⟩))
  | _ => none
def yfield1 (off : Nat) (x : Value) : Option Value := match x with
  | .agg cs => cs[off]?
  | _ => none
def yfieldN (off n : Nat) (x : Value) : Option Value := match x with
  | .agg cs => some (.agg (cs.extract off (off + n)))
  | _ => none
def yindexAddr (arr : Option Nat) (es : Nat) (x ix : Value) : Option Value := match ix with
  | .int _ n => match arr, x with
    | none, .slice (some ⟨i, o, none⟩) len _ => if 0 ≤ n ∧ n < (len : Int) then some (.pointer (some ⟨i, o + n.toNat * es, none⟩)) else none
    | some len, .pointer (some ⟨i, o, none⟩) => if 0 ≤ n ∧ n < (len : Int) then some (.pointer (some ⟨i, o + n.toNat * es, none⟩)) else none
    | _, _ => none
  | _ => none
def yindex (len es : Nat) (one : Bool) (x ix : Value) : Option Value := match ix, x with
  | .int _ n, .agg cs => if 0 ≤ n ∧ n < (len : Int) then (if one then cs[n.toNat * es]? else some (.agg (cs.extract (n.toNat * es) (n.toNat * es + es)))) else none
  | _, _ => none
def ybound (x : Option Value) (d y : Nat) : Option Nat := xbound x d y
def yslice (P : Program) (e : TypeId) (es : Nat) (H : Heap) (x : Value) (lo hi : Option Value) : Option Value := match x with
  | .slice (some ⟨i, o, none⟩) len cap => match H.cellsAt i with
    | some (_, el, rw) => if rw = false ∨ el = e ∨ P.cellsOf el = P.cellsOf e then match xbound hi len len with
      | some h => match xbound lo 0 h with
        | some l => if cap = l then some (.slice (some ⟨i, o, some 0⟩) 0 0) else some (.slice (some ⟨i, o + l * es, none⟩) (h - l) (cap - l))
        | none => none
      | none => none
      else none
    | none => none
  | .slice (some ⟨i, o, some s⟩) len _ => match xbound hi len len with
      | some h => match xbound lo 0 h with
        | some _ => some (.slice (some ⟨i, o, some s⟩) 0 0)
        | none => none
      | none => none
  | .slice none len cap => match xbound hi len len with
      | some h => match xbound lo 0 h with
        | some l => if len = 0 ∧ l = 0 ∧ h = 0 ∧ cap = 0 then some (.slice none 0 0) else none
        | none => none
      | none => none
  | _ => none
def ylen (kd : Nat) (H : Heap) (x : Value) : Option Value := match kd, x with
  | 0, .slice _ n _ => some (.int .i64 n)
  | 1, .string s => some (.int .i64 s.size)
  | 2, .map none => some (.int .i64 0)
  | 2, .map (some i) => match H.mapAt i with
    | some (_, es, _) => some (.int .i64 es.size)
    | none => none
  | _, _ => none
def yappend (e : TypeId) (es bytes : Nat) (H : Heap) (s x : Value) : Option (Value × Heap) := match s, x with
  | .slice a n c, .slice b m _ =>
    if m = 0 then match a with
      | none => if n = 0 then some (.slice none n c, H) else none
      | some a => some (.slice (some a) n c, H)
    else match xsource H es m b with
      | some new =>
        if new.toList.all (fun y => y.oneCell' && notTop y) = true ∧ (2 * (n + m) + 256) * bytes ≤ 2 ^ 48 ∧ n + m ≤ 2 ^ 48 then match a with
          | none => if n = 0 ∧ c = 0 then some (.slice (some ⟨H.next, 0, none⟩) m m, H.alloc (.cells new e true)) else none
          | some ⟨i, o, none⟩ => match H.cellsAt i with
            | some (cd, el, true) =>
              if el = e ∧ o + n * es ≤ cd.size ∧ o + c * es ≤ cd.size ∧ (n + m ≤ c → c * es ≠ 0) then
                some (.slice (some ⟨H.next, 0, none⟩) (n + m) (n + m), (H.set i .dead).alloc (.cells (cd.extract o (o + n * es) ++ new) e true))
              else none
            | _ => none
          | _ => none
        else none
      | none => none
  | _, _ => none
def ymakeSlice (e : TypeId) (bytes : Nat) (z : List Value) (H : Heap) (l c : Value) : Option (Value × Heap) := match l, c with
  | .int _ l, .int _ c => if 0 ≤ l ∧ l ≤ c ∧ c * bytes ≤ 2 ^ 48 ∧ c ≤ 2 ^ 48 then some (.slice (some ⟨H.next, 0, none⟩) l.toNat c.toNat, H.alloc (.cells (zeros ⟨z⟩ (c.toNat * z.length)) e true)) else none
  | _, _ => none
def ylookup (P : Program) (kt : TypeId) (z : Value) (H : Heap) (x k : Value) (ok : Bool) : Option Value := match x with
  | .map (some i) => match H.mapAt i with
    | some (kt', es, _) => if kt' = kt ∧ keyedB P kt = true ∧ keyishV k = true ∧ (keyOf P kt k).isSome = true then
          match xfind k es.toList 0 with
          | some j => match es[j]? with
            | some e => some (if ok then .tuple #[e.val, .bool true] else e.val)
            | none => none
          | none => some (if ok then .tuple #[z, .bool false] else z)
        else none
    | none => none
  | _ => none
def ymapUpdate (P : Program) (kt : TypeId) (H : Heap) (x k v : Value) : Option Heap := match x with
  | .map (some i) => match H.mapAt i with
    | some (kt', es, clock) =>
      if kt' = kt ∧ keyedB P kt = true ∧ keyishV k = true ∧ (keyOf P kt k).isSome = true then
        match xfind k es.toList 0 with
        | some j => some (H.set i (.map kt (es.modify j fun e => { e with key := k, val := v }) clock))
        | none => some (H.set i (.map kt (es.push { key := k, val := v, born := clock }) (clock + 1)))
      else none
    | none => none
  | _ => none
def ycap (x : Value) : Option Value := match x with
  | .slice none _ c => some (.int .i64 c)
  | _ => none
def ytoBytes (e : TypeId) (H : Heap) (x : Value) : Option (Value × Heap) := match x with
  | .string s => some (.slice (some ⟨H.next, 0, none⟩) s.data.toList.length s.data.toList.length, H.alloc (.cells ⟨bytesV s⟩ e true))
  | _ => none
def ytoStr (H : Heap) (x : Value) : Option (Value × Heap) := match x with
  | .slice a n _ => match a with
      | some ⟨i, o, none⟩ => match H.cellsAt i with
        | some (c, _, _) => if n = 0 then some (.string ⟨⟨[]⟩⟩, H) else if o + n ≤ c.size then match ofBytes (c.extract o (o + n)).toList with
          | some l => some (.string ⟨⟨l⟩⟩, H)
          | none => none
          else none
        | none => none
      | some ⟨_, _, some _⟩ => none
      | none => some (.string ⟨⟨[]⟩⟩, H)
  | _ => none
/-- Parts laid into cells, one behind the other. -/
def yfill (t : TT) : List (Nat × Nat × FA) → Array Value → Option (Array Value)
  | [], c => some c
  | (off, size, a) :: r, c => if notTop (dA t a) = true ∧ (dA t a).cells.size = size ∧ off + (dA t a).cells.size ≤ c.size then yfill t r (setCells (dA t a).cells.toList off c) else none

/-- One operation that calls no function. -/
def dop (P : Program) (f : FOp) (t : TT) (H : Heap) : Option (Value × Heap) := match f with
  | .move x => some (dA t x, H)
  | .pick c a b => ypick (dA t c) (dA t a) (dA t b) H
  | .alloc el z => some (.pointer (some ⟨H.next, 0, none⟩), H.alloc (.cells ⟨z⟩ el true))
  | .box el x => xbox H el (dA t x)
  | .build z ps => (yfill t ps ⟨z⟩).map fun c => (.agg c, H)
  | .buildSlice el n z ps => (yfill t ps ⟨z⟩).map fun c => (.slice (some ⟨H.next, 0, none⟩) n n, H.alloc (.cells c el true))
  | .load1 x => (yload1 H (dA t x)).map (·, H)
  | .loadN n x => (yloadN n H (dA t x)).map (·, H)
  | .store n a x => (ystore n H (dA t a) (dA t x)).map (undef, ·)
  | .nilCheck x => (xnil (dA t x)).map (·, H)
  | .bin op ty x y => (xbinOp P op ty (dA t x) (dA t y)).map (·, H)
  | .un op x => (xun op (dA t x)).map (·, H)
  | .conv k x => (yconv k (dA t x)).map (·, H)
  | .fieldAddr off x => (yfieldAddr off (dA t x)).map (·, H)
  | .field1 off x => (yfield1 off (dA t x)).map (·, H)
  | .fieldN off n x => (yfieldN off n (dA t x)).map (·, H)
  | .indexAddr arr es x i => (yindexAddr arr es (dA t x) (dA t i)).map (·, H)
  | .index len es one x i => (yindex len es one (dA t x) (dA t i)).map (·, H)
  | .slice e es x lo hi => (yslice P e es H (dA t x) (lo.map (dA t)) (hi.map (dA t))).map (·, H)
  | .len kd x => (ylen kd H (dA t x)).map (·, H)
  | .mm mx xs => (xmm mx (xs.map (dA t))).map (·, H)
  | .append e es bytes s x => yappend e es bytes H (dA t s) (dA t x)
  | .makeSlice e _ bytes z l c => ymakeSlice e bytes z H (dA t l) (dA t c)
  | .makeFunc f a b => some (.func (.func f) ⟨a.map (dA t)⟩ ⟨b.map (dA t)⟩, H)
  | .makeMap kt => some (.map (some H.next), H.alloc (.map kt #[] 0))
  | .lookup kt z x k ok => (ylookup P kt z H (dA t x) (dA t k) ok).map (·, H)
  | .mapUpdate kt m k v => (ymapUpdate P kt H (dA t m) (dA t k) (dA t v)).map (undef, ·)
  | .extract x i => (xextract (dA t x) i).map (·, H)
  | .cap x => (ycap (dA t x)).map (·, H)
  | .idxSlow ty x i => (xindex P ty (dA t x) (dA t i)).map (·, H)
  | .sliceSlow ty x lo hi => (xslice P ty (dA t x) (lo.map (dA t)) (hi.map (dA t)) none).map (·, H)
  | .toBytes e x => ytoBytes e H (dA t x)
  | .toStr x => ytoStr H (dA t x)
  | .appendMk .. | .call .. => none

/-- What is owed for an operation. -/
def DOk (P : Program) [Gl P] (f : FOp) (op : Op) : Prop := ∀ (t : TT) (tm : Array Value) (H H' : Heap) (v : Value), TR t tm → dop P f t H = some (v, H') → xop P H (ev P tm) op = some (v, H')

theorem setCells_zip (vs : List Value) : ∀ (off : Nat) (c : Array Value) (k : Nat), (vs.zipIdx k).foldl (fun cs x => cs.setIfInBounds (off + x.2) x.1) c = setCells vs (off + k) c := by
  induction vs with
  | nil => intro off c k; rfl
  | cons v vs ih =>
    intro off c k
    simp only [List.zipIdx_cons, List.foldl_cons, setCells]
    exact ih off _ (k + 1)

section
variable {P : Program} [Gl P]

theorem yfill_ok {pl : Nat → Option (Nat × Nat)} {t : TT} {tm : Array Value} (ht : TR t tm) : ∀ {l : List (Nat × Operand)} {ps : List (Nat × Nat × FA)} {c c' : Array Value}, compParts P pl l = some ps → yfill t ps c = some c' →
    (l.map fun x => (x.1, ev P tm x.2)).all (fun x => notTop x.2) = true ∧ Instr.fill pl c (l.map fun x => (x.1, ev P tm x.2)) = some c' ∧ c'.size = c.size
  | [], ps, c, c', h, k => by
    simp only [compParts] at h; cases h
    simp only [yfill] at k; cases k
    exact ⟨rfl, rfl, rfl⟩
  | (i, x) :: l, ps, c, c', h, k => by
    simp only [compParts] at h
    split at h
    · rename_i off size hpl
      split at h
      · rename_i r hr
        cases h
        simp only [yfill, dA_comp ht] at k
        split at k
        · rename_i hc
          obtain ⟨h1, h2, h3⟩ := hc
          obtain ⟨k1, k2, k3⟩ := yfill_ok ht hr k
          refine ⟨by simp only [List.map_cons, List.all_cons, h1, k1, Bool.and_self], ?_, by rw [k3, setCells_size]⟩
          simp only [List.map_cons, Instr.fill, hpl]
          have e1 : ((ev P tm x).cells.size != size) = false := by simp [h2]
          have e2 : ¬ (off + (ev P tm x).cells.size > c.size) := by omega
          have e3 : (ev P tm x).cells.zipIdx.foldl (fun cs (y : Value × Nat) => cs.setIfInBounds (off + y.2) y.1) c = setCells (ev P tm x).cells.toList off c := by
            rw [← Array.foldl_toList, Array.toList_zipIdx]
            exact setCells_zip _ off c 0
          simp only [h2, ne_eq, not_true_eq_false, decide_false, Bool.false_or] at e2 ⊢
          rw [if_neg (by simpa using e2)]
          rw [← k2]
          congr 1
        · cases k
      · cases h
    · cases h

end
end Go.Xe
