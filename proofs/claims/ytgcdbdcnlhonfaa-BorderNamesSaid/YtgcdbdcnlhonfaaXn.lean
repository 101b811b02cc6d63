/- An executable reading of the model's code over an abstract heap (part 14): the plan of a region that draws its order, its check, and its run. Conditions: what is executed at a lower depth agrees with the model (ExOk), and the program follows the mixed orders. -/
import Derived.Test.YtgcdbdcnlhonfaaXm
namespace Go.Xe
open Go
structure Plan where
  sig : List Nat
  pos : List Nat
  kind : List Nat
  chk : List (List Nat)
def hardOp : Op → Bool
  | .store .. | .mapUpdate .. | .insert .. => true
  | .call { callee := .builtin .append, .. } => true
  | .call { callee := .builtin .clear, .. } => true
  | .call { callee := .builtin .copy, .. } => true
  | .call { callee := .builtin _, .. } => false
  | .call _ => true
  | _ => false
def freeOp : Op → Bool
  | .move _ | .assign _ | .pick .. | .build .. | .nilCheck _ | .binOp .. | .unOp .. | .convert .. | .makeFunc .. | .fieldAddr .. | .field .. | .indexAddr .. | .index .. | .extract .. => true
  | _ => false
def mkKinds (ops : Array Oper) (mask : Array Nat) : List Nat :=
  let loud := (List.range ops.size).filter fun k => match ops[k]? with | some o => hardOp o.op || newOp o.op | none => false
  (List.range ops.size).foldl (init := []) fun acc k =>
    acc ++ [match ops[k]? with
    | none => 0
    | some o =>
      if hardOp o.op then 2
      else if newOp o.op then
        (if loud.all fun j => j == k || (mask.getD k 0).testBit j || (mask.getD j 0).testBit k then 2 else 1)
      else if (opTmps o.op).any fun t => (List.range k).any fun j => acc.getD j 0 == 1 && ((ops[j]?).bind (·.dst)) == some t then 1
      else 0]
def mkSig (ops : Array Oper) (mask : Array Nat) (kind : List Nat) : List Nat :=
  let r := (List.range ops.size).foldl (init := (([] : List Nat), ([] : List Nat))) fun (done, wait) k =>
    match kind.getD k 0 with
    | 0 => (done ++ [k], wait)
    | 1 => (done, wait ++ [k])
    | _ =>
      let (now, later) := wait.partition fun j => (mask.getD k 0).testBit j
      (done ++ now ++ [k], later)
  r.1 ++ r.2
def stopsOf (ops : Array Oper) (pos kind : Nat → Nat) : List Nat :=
  0 :: ((List.range ops.size).filter fun k => kind k == 2).map fun k => pos k + 1
def allB (n : Nat) (f : Nat → Bool) : Bool := (List.range n).all f
theorem allB_at {n : Nat} {f : Nat → Bool} (h : allB n f = true) {k : Nat} (hk : k < n) : f k = true := List.all_eq_true.1 h k (List.mem_range.2 hk)
def maskStep (rs : List Nat) (len : Nat) (o : Oper) : Nat := o.after.toList.foldl (fun m e => if Region.binds .any e then Nat.lor m (Nat.lor (Nat.pow 2 e.on) (rs.getD (len - 1 - e.on) 0)) else m) 0
def masksF {α : Type} : List Oper → List Nat → Nat → (List Nat → α) → α
  | [], rs, _, k => k rs
  | o :: l, rs, len, k => match maskStep rs len o with
    | 0 => masksF l (0 :: rs) (len + 1) k
    | m + 1 => masksF l ((m + 1) :: rs) (len + 1) k
def masksR : List Oper → List Nat → Nat → List Nat
  | [], rs, _ => rs
  | o :: l, rs, len => masksR l (maskStep rs len o :: rs) (len + 1)
theorem masksF_eq {α : Type} : ∀ (l : List Oper) (rs : List Nat) (len : Nat) (k : List Nat → α), masksF l rs len k = k (masksR l rs len)
  | [], rs, len, k => rfl
  | o :: l, rs, len, k => by
    simp only [masksF, masksR]
    split
    · rename_i h; rw [masksF_eq l, h]
    · rename_i m h; rw [masksF_eq l, h]
def rcOf (rs : List Nat) (n k j : Nat) : Bool := Nat.blt k n && Nat.beq (Nat.land (Nat.shiftRight (rs.getD (n - 1 - k) 0) j) 1) 1
theorem testBit_land (m j : Nat) : Nat.beq (Nat.land (Nat.shiftRight m j) 1) 1 = m.testBit j := by
  have h : Nat.land (Nat.shiftRight m j) 1 = (m >>> j) % 2 := Nat.and_one_is_mod _
  rw [h, Nat.testBit_eq_decide_div_mod_eq, Nat.shiftRight_eq_div_pow, Bool.eq_iff_iff, Nat.beq_eq]
  simp
theorem bit_fold {E : Type} (on : E → Nat) (p : E → Bool) (g : Nat → Nat) (j : Nat) : ∀ (es : List E) (m : Nat),
    (es.foldl (fun m e => if p e then Nat.lor m (Nat.lor (Nat.pow 2 (on e)) (g (on e))) else m) m).testBit j = (m.testBit j || es.any fun e => p e && (on e == j || (g (on e)).testBit j))
  | [], m => by simp
  | e :: es, m => by
    rw [List.foldl_cons, bit_fold on p g j es, List.any_cons]
    cases hp : p e with
    | false => simp
    | true =>
      simp only [if_true, Bool.true_and]
      have h : (Nat.lor m (Nat.lor (Nat.pow 2 (on e)) (g (on e)))).testBit j = (m.testBit j || (on e == j || (g (on e)).testBit j)) := by
        have h1 : Nat.lor m (Nat.lor (Nat.pow 2 (on e)) (g (on e))) = m ||| (2 ^ (on e) ||| g (on e)) := rfl
        rw [h1, Nat.testBit_or, Nat.testBit_or, Nat.testBit_two_pow]
        congr 2
      rw [h, Bool.or_assoc]
theorem masksR_ok {ops : Array Oper} (hd : ∀ (k : Nat) (o : Oper), ops[k]? = some o → ∀ e ∈ o.after.toList, Region.binds .any e = true → e.on < k) :
    ∀ (l : List Oper) (rs : List Nat) (len : Nat), rs.length = len → (∀ i, l[i]? = ops[len + i]?) → (∀ k, k < len → ∀ f, k < f → ∀ j, (rs.getD (len - 1 - k) 0).testBit j = reach ops f k j) →
      (masksR l rs len).length = len + l.length ∧ ∀ k, k < len + l.length → ∀ f, k < f → ∀ j, ((masksR l rs len).getD (len + l.length - 1 - k) 0).testBit j = reach ops f k j
  | [], rs, len, h1, _, h3 => ⟨by simpa [masksR] using h1, by simpa [masksR] using h3⟩
  | o :: l, rs, len, h1, h2, h3 => by
    have ho : ops[len]? = some o := by have := h2 0; simpa using this.symm
    have key : ∀ k, k < len + 1 → ∀ f, k < f → ∀ j, ((maskStep rs len o :: rs).getD (len + 1 - 1 - k) 0).testBit j = reach ops f k j := by
      intro k hk f hf j
      by_cases e : k = len
      · subst e
        rw [show k + 1 - 1 - k = 0 by omega, List.getD_cons_zero]
        obtain ⟨f, rfl⟩ : ∃ g, f = g + 1 := ⟨f - 1, by omega⟩
        unfold maskStep
        rw [bit_fold (fun e => e.on) (fun e => Region.binds .any e) (fun i => rs.getD (k - 1 - i) 0) j]
        simp only [Nat.zero_testBit, Bool.false_or, reach, ho]
        rw [Bool.eq_iff_iff]
        simp only [List.any_eq_true, Bool.and_eq_true]
        constructor
        · rintro ⟨e, he, hb, hj⟩
          have hlt := hd k o ho e he hb
          exact ⟨e, he, hb, by rw [← h3 e.on hlt f (by omega) j]; exact hj⟩
        · rintro ⟨e, he, hb, hj⟩
          have hlt := hd k o ho e he hb
          exact ⟨e, he, hb, by rw [h3 e.on hlt f (by omega) j]; exact hj⟩
      · rw [show len + 1 - 1 - k = (len - 1 - k) + 1 by omega, List.getD_cons_succ]
        exact h3 k (by omega) f hf j
    have := masksR_ok hd l (maskStep rs len o :: rs) (len + 1) (by simp [h1]) (fun i => by have := h2 (i + 1); simpa [Nat.add_assoc, Nat.add_comm 1 i] using this) key
    simp only [masksR, List.length_cons]
    rw [show len + (l.length + 1) = len + 1 + l.length by omega]
    exact this
theorem rcOf_eq {ops : Array Oper} (hd : ∀ (k : Nat) (o : Oper), ops[k]? = some o → ∀ e ∈ o.after.toList, Region.binds .any e = true → e.on < k) :
    rcOf (masksR ops.toList [] 0) ops.size = reach ops ops.size := by
  funext k j
  unfold rcOf
  rw [testBit_land]
  by_cases hk : k < ops.size
  · have h := (masksR_ok hd ops.toList [] 0 rfl (fun i => by simp) (fun k hk => absurd hk (Nat.not_lt_zero _))).2 k (by simpa using hk) ops.size hk j
    simp only [Nat.zero_add, Array.length_toList] at h
    have hb : Nat.blt k ops.size = true := by rw [Nat.blt_eq]; exact hk
    rw [h, hb, Bool.true_and]
  · have hb : Nat.blt k ops.size = false := by rw [Bool.eq_false_iff]; intro h; exact hk (by rwa [Nat.blt_eq] at h)
    rw [hb, Bool.false_and]
    have : ops[k]? = none := Array.getElem?_eq_none (by omega)
    cases hn : ops.size with
    | zero => rfl
    | succ n => simp only [reach, this]
def allowedG (rc : Nat → Nat → Bool) (n : Nat) (pos kind : Nat → Nat) (k q : Nat) : Bool :=
  (allB n fun j => !(kind j == 2) || ((!(rc k j) || decide (pos j < q)) && (!(decide (pos j < q)) || !(rc j k))))
def allowed (ops : Array Oper) (pos kind : Nat → Nat) (k q : Nat) : Bool :=
  (allB ops.size fun j => !(kind j == 2) || ((!(reach ops ops.size k j) || decide (pos j < q)) && (!(decide (pos j < q)) || !(reach ops ops.size j k))))
theorem allowedG_eq (ops : Array Oper) (pos kind : Nat → Nat) : allowedG (reach ops ops.size) ops.size pos kind = allowed ops pos kind := rfl
def still (pos kind sig : Nat → Nat) (k q : Nat) : Bool :=
  decide (q ≤ pos k) && (List.range (pos k - q)).all fun d => kind (sig (q + d)) == 0
def mkPlan (ops : Array Oper) : Plan := masksF ops.toList [] 0 fun rs =>
  let mask := Region.before ops
  let kind := mkKinds ops mask
  let sig := mkSig ops mask kind
  let pos := (List.range ops.size).map fun k => (sig.idxOf? k).getD ops.size
  let p := fun k => pos.getD k 0
  let kd := fun k => kind.getD k 0
  let sg := fun k => sig.getD k 0
  let stops := stopsOf ops p kd
  { sig, pos, kind, chk := (List.range ops.size).map fun k => match ops[k]? with
    | some o => if kd k == 0 && !freeOp o.op then stops.filter fun q => allowedG (rcOf rs ops.size) ops.size p kd k q && !still p kd sg k q else []
    | none => [] }
def Plan.p (pl : Plan) (k : Nat) : Nat := pl.pos.getD k 0
def Plan.k (pl : Plan) (k : Nat) : Nat := pl.kind.getD k 0
def Plan.s (pl : Plan) (k : Nat) : Nat := pl.sig.getD k 0
def planOkG (rc : Nat → Nat → Bool) (ops : Array Oper) (pl : Plan) : Bool :=
  (pl.sig.length == ops.size) &&
  (allB ops.size fun k => decide (pl.p k < ops.size) && (pl.s (pl.p k) == k)) &&
  (allB ops.size fun j => decide (pl.s j < ops.size) && (pl.p (pl.s j) == j)) &&
  (allB ops.size fun k => match ops[k]? with
    | none => true
    | some o =>
      ((opTmps o.op).all fun t => allB ops.size fun j => match ops[j]? with
        | none => true
        | some o' => !(o'.dst == some t) || ((bindsTo o j && decide (pl.p j < pl.p k) && (!(pl.k k == 0) || !(pl.k j == 1))) || (decide (pl.p k ≤ pl.p j) && (j == k || bindsTo o' k)))) &&
      (match o.guard with
        | none => true
        | some (g, _) => bindsTo o g && decide (pl.p g < pl.p k) && (!(pl.k k == 0) || !(pl.k g == 1))) &&
      (!(pl.k k == 0) || lightOp o.op) && (!(pl.k k == 1) || newOp o.op || softOp o.op) &&
      (pl.k k == 0 || pl.k k == 1 || pl.k k == 2) &&
      (o.after.toList.all fun e => !(Region.binds .any e) || decide (e.on < k)) &&
      (!(pl.k k == 0) || freeOp o.op || (stopsOf ops pl.p pl.k).all fun q => !(allowedG rc ops.size pl.p pl.k k q) || still pl.p pl.k pl.s k q || (pl.chk.getD k []).contains q)) &&
  (allB ops.size fun j => allB ops.size fun k => match (ops[j]?).bind (·.dst), (ops[k]?).bind (·.dst) with
    | some a, some b => j == k || !(a == b)
    | _, _ => true) &&
  (allB ops.size fun k => !(pl.k k == 2) || allB ops.size fun j => pl.k j == 0 || !(decide (pl.p j < pl.p k)) || rc k j)
def planOk (ops : Array Oper) (pl : Plan) : Bool := masksF ops.toList [] 0 fun rs => planOkG (rcOf rs ops.size) ops pl
theorem planOk_reach {ops : Array Oper} {pl : Plan} (h : planOk ops pl = true) : planOkG (reach ops ops.size) ops pl = true := by
  unfold planOk at h
  rw [masksF_eq] at h
  rw [← rcOf_eq]
  · exact h
  · unfold planOkG at h
    simp only [Bool.and_eq_true] at h
    obtain ⟨⟨⟨⟨⟨_, _⟩, _⟩, h4⟩, _⟩, _⟩ := h
    intro k o ho e he hb
    have := allB_at h4 (k := k) (Array.getElem?_eq_some_iff.1 ho).1
    rw [ho] at this
    simp only [Bool.and_eq_true] at this
    obtain ⟨⟨_, a⟩, _⟩ := this
    have := List.all_eq_true.1 a e he
    simpa [hb] using this
theorem planOk_p {ops : Array Oper} {pl : Plan} (h : planOk ops pl = true) : PlanP ops pl.p pl.k pl.s ∧ pl.sig.length = ops.size ∧
    (∀ (k : Nat) (o : Oper), ops[k]? = some o → pl.k k = 0 → freeOp o.op = true ∨ ∀ q ∈ stopsOf ops pl.p pl.k, allowed ops pl.p pl.k k q = true → still pl.p pl.k pl.s k q = true ∨ (pl.chk.getD k []).contains q = true) := by
  have h := planOk_reach h
  unfold planOkG at h
  rw [allowedG_eq] at h
  simp only [Bool.and_eq_true] at h
  obtain ⟨⟨⟨⟨⟨h1, h2⟩, h3⟩, h4⟩, h5⟩, h6⟩ := h
  have row : ∀ {k : Nat} {o : Oper}, ops[k]? = some o → _ := fun {k o} ho => by
    have := allB_at h4 (k := k) (Array.getElem?_eq_some_iff.1 ho).1
    rw [ho] at this
    simp only [Bool.and_eq_true] at this
    exact this
  have lt : ∀ {k : Nat} {o : Oper}, ops[k]? = some o → k < ops.size := fun h => (Array.getElem?_eq_some_iff.1 h).1
  refine ⟨⟨?_, ?_, ?_, ?_, ?_, ?_, ?_, ?_, ?_, ?_⟩, by simpa using h1, ?_⟩
  · intro k hk
    have := allB_at h2 hk
    simpa using this
  · intro j hj
    have := allB_at h3 hj
    simpa using this
  · intro k o ho t ht j o' ho' hd
    obtain ⟨⟨⟨⟨⟨⟨a, _⟩, _⟩, _⟩, _⟩, _⟩, _⟩ := row ho
    have := allB_at (List.all_eq_true.1 a t ht) (lt ho')
    rw [ho'] at this
    simp only [hd, beq_self_eq_true, Bool.not_true, Bool.false_or, Bool.and_eq_true, decide_eq_true_eq, Bool.or_eq_true, Bool.not_eq_true', beq_eq_false_iff_ne, beq_iff_eq] at this
    rcases this with ⟨⟨b1, b2⟩, b3⟩ | ⟨b1, b2⟩
    · exact .inl ⟨b1, b2, fun e => b3.resolve_left (fun hne => hne e)⟩
    · exact .inr ⟨b1, b2⟩
  · intro k o g c ho hg o' ho'
    obtain ⟨⟨⟨⟨⟨⟨_, a⟩, _⟩, _⟩, _⟩, _⟩, _⟩ := row ho
    rw [hg] at a
    simp only [Bool.and_eq_true, decide_eq_true_eq, Bool.or_eq_true, Bool.not_eq_true', beq_eq_false_iff_ne] at a
    obtain ⟨⟨b1, b2⟩, b3⟩ := a
    exact ⟨b1, b2, fun e => b3.resolve_left (fun hne => hne e)⟩
  · intro j k oj ok t hj hk hdj hdk
    have := allB_at (allB_at h5 (lt hj)) (lt hk)
    rw [hj, hk] at this
    simp only [Option.bind_some, hdj, hdk, beq_self_eq_true, Bool.not_true, Bool.or_false, beq_iff_eq] at this
    exact this
  · intro k o ho hk
    obtain ⟨⟨⟨⟨⟨⟨_, _⟩, a⟩, _⟩, _⟩, _⟩, _⟩ := row ho
    simpa [hk] using a
  · intro k o ho hk
    obtain ⟨⟨⟨⟨⟨⟨_, _⟩, _⟩, a⟩, _⟩, _⟩, _⟩ := row ho
    simpa [hk] using a
  · intro k j hk hj hk2 hj0 hlt
    have := allB_at h6 hk
    simp only [hk2, beq_self_eq_true, Bool.not_true, Bool.false_or] at this
    have := allB_at this hj
    simpa [hj0, hlt] using this
  · intro k hk
    have ho : ops[k]? = some ops[k] := Array.getElem?_eq_getElem hk
    obtain ⟨⟨⟨⟨⟨⟨_, _⟩, _⟩, _⟩, a⟩, _⟩, _⟩ := row ho
    simpa [or_assoc] using a
  · intro k o ho e he hb
    obtain ⟨⟨⟨⟨⟨⟨_, _⟩, _⟩, _⟩, _⟩, a⟩, _⟩ := row ho
    have := List.all_eq_true.1 a e he
    simpa [hb] using this
  · intro k o ho hk
    obtain ⟨⟨⟨⟨⟨⟨_, _⟩, _⟩, _⟩, _⟩, _⟩, a⟩ := row ho
    simp only [hk, beq_self_eq_true, Bool.not_true, Bool.false_or, Bool.or_eq_true] at a
    rcases a with a | a
    · exact .inl a
    · refine .inr (fun q hq hal => ?_)
      have := List.all_eq_true.1 a q hq
      simp only [hal, Bool.not_true, Bool.false_or, Bool.or_eq_true] at this
      exact this
def xsteps (P : Program) [Gl P] [Orc P] (ex : Ex) (ops : Array Oper) : List Nat → Array Value → Heap → Option (Array Value × List Heap)
  | [], t, H => some (t, [H])
  | k :: ks, t, H => match ops[k]? with
    | none => none
    | some o => match xwanted ops t o with
      | some true => match xopv P ex (ev P t) o.op H with
        | some (v, H') => match xsteps P ex ops ks (put t o.dst v) H' with
          | some (T, Gs) => some (T, H :: Gs)
          | none => none
        | none => none
      | some false => match xsteps P ex ops ks (put t o.dst undef) H with
        | some (T, Gs) => some (T, H :: Gs)
        | none => none
      | none => none
def checkRead (P : Program) (ρ : Operand → Value) (T : Array Value) (H : Heap) (o : Oper) : Bool :=
  match xop P H ρ o.op with
  | some (v, _) => match o.dst with
    | some d => vEq 3 (T.getD d undef) v
    | none => true
  | none => false
def dynOk (P : Program) [Gl P] (ops : Array Oper) (pl : Plan) (t0 T : Array Value) (Gs : List Heap) : Bool :=
  allB ops.size fun k => match ops[k]?, Gs[pl.p k]?, Gs[pl.p k + 1]? with
    | some o, some H, some H' =>
      decide (H.next ≤ H'.next) &&
      (match pl.k k with
       | 0 => (pl.chk.getD k []).all fun q => match xwanted ops T o, Gs[q]? with
         | some true, some Hq => checkRead P (evk P ops pl.p t0 T k) T Hq o
         | some true, none => false
         | _, _ => true
       | 1 => match xwanted ops T o with
         | some true =>
           (match o.dst with
            | some d => inBound H'.next 3 (T.getD d undef)
            | none => true) &&
           (!newC o.op || match H'.cellsAt H.next with
            | some (c, _, _) => c.toList.all (inBound H.next 2)
            | none => false)
         | _ => true
       | _ => true)
    | _, _, _ => false
def xdraw (P : Program) [Gl P] [Orc P] (ex : Ex) (ops : Array Oper) (t : Array Value) (H : Heap) : Option (Array Value × Heap) :=
  if planOk ops (mkPlan ops) then
    match xsteps P ex ops (mkPlan ops).sig t H with
    | some (T, Gs) => if dynOk P ops (mkPlan ops) t T Gs then some (T, Gs.getD ops.size H) else none
    | none => none
  else none
section
variable {P : Program} [Gl P] [Orc P] {ex : Ex} {ops : Array Oper}
theorem xsteps_size : ∀ {ks : List Nat} {t : Array Value} {H : Heap} {T : Array Value} {Gs : List Heap}, xsteps P ex ops ks t H = some (T, Gs) → T.size = t.size ∧ Gs.length = ks.length + 1 ∧ Gs[0]? = some H
  | [], t, H, T, Gs, h => by simp only [xsteps] at h; cases h; exact ⟨rfl, rfl, rfl⟩
  | k :: ks, t, H, T, Gs, h => by
    have hput : ∀ (dst : Option Tmp) (v : Value), (put t dst v).size = t.size := by intro dst v; cases dst <;> simp [put]
    simp only [xsteps] at h
    split at h
    · cases h
    · split at h
      · split at h
        · split at h
          · rename_i hs
            cases h
            obtain ⟨a, b, _⟩ := xsteps_size hs
            exact ⟨a.trans (hput _ _), by simp [b], rfl⟩
          · cases h
        · cases h
      · split at h
        · rename_i hs
          cases h
          obtain ⟨a, b, _⟩ := xsteps_size hs
          exact ⟨a.trans (hput _ _), by simp [b], rfl⟩
        · cases h
      · cases h
theorem put_other {t : Array Value} {dst : Option Tmp} {v : Value} {d : Nat} (h : dst ≠ some d) : (put t dst v)[d]? = t[d]? := by
  cases dst with
  | none => rfl
  | some e =>
    simp only [put]
    rw [Array.getElem?_setIfInBounds_ne (by intro he; exact h (by rw [he]))]
theorem xsteps_keep : ∀ {ks : List Nat} {t : Array Value} {H : Heap} {T : Array Value} {Gs : List Heap}, xsteps P ex ops ks t H = some (T, Gs) → ∀ d, (∀ k ∈ ks, ∀ o, ops[k]? = some o → o.dst ≠ some d) → T[d]? = t[d]?
  | [], t, H, T, Gs, h => by intro d _; simp only [xsteps] at h; cases h; rfl
  | k :: ks, t, H, T, Gs, h => by
    intro d hd
    simp only [xsteps] at h
    split at h
    · cases h
    · rename_i o ho
      have hne := hd k (by simp) o ho
      split at h
      · split at h
        · split at h
          · rename_i hs
            cases h
            rw [xsteps_keep hs d (fun k' hk' => hd k' (by simp [hk'])), put_other hne]
          · cases h
        · cases h
      · split at h
        · rename_i hs
          cases h
          rw [xsteps_keep hs d (fun k' hk' => hd k' (by simp [hk'])), put_other hne]
        · cases h
      · cases h
theorem xsteps_at : ∀ {ks : List Nat} {t : Array Value} {H : Heap} {T : Array Value} {Gs : List Heap}, xsteps P ex ops ks t H = some (T, Gs) → ∀ j, j ≤ ks.length → ∃ tj Hj, xsteps P ex ops (ks.drop j) tj Hj = some (T, Gs.drop j) ∧ Gs[j]? = some Hj ∧ ∀ d, (∀ k ∈ ks.take j, ∀ o, ops[k]? = some o → o.dst ≠ some d) → tj[d]? = t[d]?
  | ks, t, H, T, Gs, h, 0, _ => ⟨t, H, by simpa using h, (xsteps_size h).2.2, fun _ _ => rfl⟩
  | [], t, H, T, Gs, h, j + 1, hj => by simp at hj
  | k :: ks, t, H, T, Gs, h, j + 1, hj => by
    simp only [xsteps] at h
    split at h
    · cases h
    · rename_i o ho
      split at h
      · split at h
        · split at h
          · rename_i hs
            cases h
            obtain ⟨tj, Hj, h1, h2, h3⟩ := xsteps_at hs j (by simpa using hj)
            refine ⟨tj, Hj, by simpa using h1, by simpa using h2, fun d hd => ?_⟩
            rw [h3 d (fun k' hk' => hd k' (by simp [hk'])), put_other (hd k (by simp) o ho)]
          · cases h
        · cases h
      · split at h
        · rename_i hs
          cases h
          obtain ⟨tj, Hj, h1, h2, h3⟩ := xsteps_at hs j (by simpa using hj)
          refine ⟨tj, Hj, by simpa using h1, by simpa using h2, fun d hd => ?_⟩
          rw [h3 d (fun k' hk' => hd k' (by simp [hk'])), put_other (hd k (by simp) o ho)]
        · cases h
      · cases h
theorem free_heap {P : Program} {H H2 H' : Heap} {ρ : Operand → Value} {op : Op} (hf : freeOp op = true) {v : Value} (h : xop P H ρ op = some (v, H')) : xop P H2 ρ op = some (v, H2) := by
  have m1 : ∀ {x : Option Value}, x.map (·, H) = some (v, H') → x.map (·, H2) = some (v, H2) := fun h => by rw [(map_fst h).1]; rfl
  cases op <;> simp [freeOp] at hf <;> first
    | exact m1 h
    | (simp only [xop] at h ⊢; cases h; rfl)
    | skip
  case pick c a b =>
    simp only [xop] at h ⊢
    split at h
    · rename_i hc
      cases h
      rfl
    · cases h
end
end Go.Xe
