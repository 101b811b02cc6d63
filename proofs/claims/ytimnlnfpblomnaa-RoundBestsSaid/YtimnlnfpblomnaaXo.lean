/- An executable reading of the model's code over an abstract heap (part 14): the plan of a region that draws its order, its check, and its run. Conditions: what is executed at a lower depth agrees with the model (ExOk), and the program follows the mixed orders. -/
import Derived.Test.YtimnlnfpblomnaaXm
namespace Go.Xe
open Go
structure Plan where
 sig : List Nat
 pos : List Nat
 kind : List Nat
 chk : List (List Nat)
def hardOp : Op->Bool
 | .store .. | .mapUpdate .. | .insert .. => true
 | .call { callee := .builtin .append, .. } => true
 | .call { callee := .builtin .clear, .. } => true
 | .call { callee := .builtin _, .. } => false
 | .call _ => true
 | _ => false
def freeOp : Op->Bool
 | .move _ | .assign _ | .pick .. | .build .. | .nilCheck _ | .binOp .. | .unOp .. | .convert .. | .makeFunc .. | .fieldAddr .. | .field .. | .indexAddr .. | .index .. | .extract .. => true
 | _ => false
def mkKinds (ops : Array Oper) (mask : Array Nat) : List Nat :=
 let loud := (List.range ops.size).filter λk => match ops[k]? with | some o => hardOp o.op || newOp o.op | none => false
 (List.range ops.size).foldl (init := []) λacc k =>
  acc ++ [match ops[k]? with
  | none => 0
  | some o =>
   if hardOp o.op then 2
   else if newOp o.op then
    (if loud.all λj => j == k || (mask.getD k 0).testBit j || (mask.getD j 0).testBit k then 2 else 1)
   else if (opTmps o.op).any λt => (List.range k).any λj => acc.getD j 0 == 1 && ((ops[j]?).bind (·.dst)) == some t then 1
   else 0]
def mkSig (ops : Array Oper) (mask : Array Nat) (kind : List Nat) : List Nat :=
 let r := (List.range ops.size).foldl (init := (([] : List Nat), ([] : List Nat))) λ(done, wait) k =>
  match kind.getD k 0 with
  | 0 => (done ++ [k], wait)
  | 1 => (done, wait ++ [k])
  | _ =>
   let (now, later) := wait.partition λj => (mask.getD k 0).testBit j
   (done ++ now ++ [k], later)
 r.1 ++ r.2
def stopsOf (ops : Array Oper) (pos kind : Nat->Nat) : List Nat :=
 0 :: ((List.range ops.size).filter λk => kind k == 2).map λk => pos k + 1
def allB (n : Nat) (f : Nat->Bool) : Bool := (List.range n).all f
theorem allB_at {n : Nat} {f : Nat->Bool} (h : allB n f = true) {k : Nat} (hk : k < n) : f k = true := List.all_eq_true.1 h k (List.mem_range.2 hk)
def maskStep (rs : List Nat) (len : Nat) (o : Oper) : Nat := o.after.toList.foldl (λm e => if Region.binds .any e then Nat.lor m (Nat.lor (Nat.pow 2 e.on) (rs.getD (len - 1 - e.on) 0)) else m) 0
def masksF {α : Type} : List Oper->List Nat->Nat->(List Nat->α)->α
 | [], rs, _, k => k rs
 | o :: l, rs, len, k => match maskStep rs len o with
  | 0 => masksF l (0 :: rs) (len + 1) k
  | m + 1 => masksF l ((m + 1) :: rs) (len + 1) k
def masksR : List Oper->List Nat->Nat->List Nat
 | [], rs, _ => rs
 | o :: l, rs, len => masksR l (maskStep rs len o :: rs) (len + 1)
theorem masksF_eq {α : Type} : ∀ (l : List Oper) (rs : List Nat) (len : Nat) (k : List Nat->α), masksF l rs len k = k (masksR l rs len)
 | [], rs, len, k => rfl
 | o :: l, rs, len, k => by
  simp only [masksF, masksR]
  split
  · rename_i h; rw [masksF_eq l, h]
  · rename_i m h; rw [masksF_eq l, h]
def rcOf (rs : List Nat) (n k j : Nat) : Bool := Nat.blt k n && Nat.beq (Nat.land (Nat.shiftRight (rs.getD (n - 1 - k) 0) j) 1) 1
theorem testBit_land (m j : Nat) : Nat.beq (Nat.land (Nat.shiftRight m j) 1) 1 = m.testBit j := by
 have h : Nat.land (Nat.shiftRight m j) 1 = (m >>> j) % 2 := Nat.and_one_is_mod _
 rw [h, Nat.testBit_eq_decide_div_mod_eq, Nat.shiftRight_eq_div_pow, Bool.eq_iff_iff, Nat.beq_eq]
 simp
theorem bit_fold {E : Type} (on : E->Nat) (p : E->Bool) (g : Nat->Nat) (j : Nat) : ∀ (es : List E) (m : Nat),
  (es.foldl (λm e => if p e then Nat.lor m (Nat.lor (Nat.pow 2 (on e)) (g (on e))) else m) m).testBit j = (m.testBit j || es.any λe => p e && (on e == j || (g (on e)).testBit j))
 | [], m => by simp
 | e :: es, m => by
  rw [List.foldl_cons, bit_fold on p g j es, List.any_cons]
  cases hp : p e with
  | false => simp
  | true =>
   simp only [if_true, Bool.true_and]
   have h : (Nat.lor m (Nat.lor (Nat.pow 2 (on e)) (g (on e)))).testBit j = (m.testBit j || (on e == j || (g (on e)).testBit j)) := by
    have h1 : Nat.lor m (Nat.lor (Nat.pow 2 (on e)) (g (on e))) = m ||| (2 ^ (on e) ||| g (on e)) := rfl
    rw [h1, Nat.testBit_or, Nat.testBit_or, Nat.testBit_two_pow]
    congr 2
   rw [h, Bool.or_assoc]
theorem masksR_ok {ops : Array Oper} (hd : ∀ (k : Nat) (o : Oper), ops[k]? = some o->∀ e ∈ o.after.toList, Region.binds .any e = true->e.on < k) :
  ∀ (l : List Oper) (rs : List Nat) (len : Nat), rs.length = len->(∀ i, l[i]? = ops[len + i]?)->(∀ k, k < len->∀ f, k < f->∀ j, (rs.getD (len - 1 - k) 0).testBit j = reach ops f k j)->
   (masksR l rs len).length = len + l.length /\ ∀ k, k < len + l.length->∀ f, k < f->∀ j, ((masksR l rs len).getD (len + l.length - 1 - k) 0).testBit j = reach ops f k j
 | [], rs, len, h1, _, h3 => ⟨by simpa [masksR] using h1, by simpa [masksR] using h3⟩
 | o :: l, rs, len, h1, h2, h3 => by
  have ho : ops[len]? = some o := by have := h2 0; simpa using this.symm
  have key : ∀ k, k < len + 1->∀ f, k < f->∀ j, ((maskStep rs len o :: rs).getD (len + 1 - 1 - k) 0).testBit j = reach ops f k j := by
   intro k hk f hf j
   by_cases e : k = len
   · subst e
     rw [show k + 1 - 1 - k = 0 by omega, List.getD_cons_zero]
     obtain ⟨f, rfl⟩ : ∃ g, f = g + 1 := ⟨f - 1, by omega⟩
     unfold maskStep
     rw [bit_fold (λe => e.on) (λe => Region.binds .any e) (λi => rs.getD (k - 1 - i) 0) j]
     simp only [Nat.zero_testBit, Bool.false_or, reach, ho]
     rw [Bool.eq_iff_iff]
     simp only [List.any_eq_true, Bool.and_eq_true]
     constructor
     · rintro ⟨e, he, hb, hj⟩
       have hlt := hd k o ho e he hb
       exact ⟨e, he, hb, by rw [<- h3 e.on hlt f (by omega) j]; exact hj⟩
     · rintro ⟨e, he, hb, hj⟩
       have hlt := hd k o ho e he hb
       exact ⟨e, he, hb, by rw [h3 e.on hlt f (by omega) j]; exact hj⟩
   · rw [show len + 1 - 1 - k = (len - 1 - k) + 1 by omega, List.getD_cons_succ]
     exact h3 k (by omega) f hf j
  have := masksR_ok hd l (maskStep rs len o :: rs) (len + 1) (by simp [h1]) (λi => by have := h2 (i + 1); simpa [Nat.add_assoc, Nat.add_comm 1 i] using this) key
  simp only [masksR, List.length_cons]
  rw [show len + (l.length + 1) = len + 1 + l.length by omega]
  exact this
theorem rcOf_eq {ops : Array Oper} (hd : ∀ (k : Nat) (o : Oper), ops[k]? = some o->∀ e ∈ o.after.toList, Region.binds .any e = true->e.on < k) :
  rcOf (masksR ops.toList [] 0) ops.size = reach ops ops.size := by
 funext k j
 unfold rcOf
 rw [testBit_land]
 by_cases hk : k < ops.size
 · have h := (masksR_ok hd ops.toList [] 0 rfl (λi => by simp) (λk hk => absurd hk (Nat.not_lt_zero _))).2 k (by simpa using hk) ops.size hk j
   simp only [Nat.zero_add, Array.length_toList] at h
   have hb : Nat.blt k ops.size = true := by rw [Nat.blt_eq]; exact hk
   rw [h, hb, Bool.true_and]
 · have hb : Nat.blt k ops.size = false := by rw [Bool.eq_false_iff]; intro h; exact hk (by rwa [Nat.blt_eq] at h)
   rw [hb, Bool.false_and]
   have : ops[k]? = none := Array.getElem?_eq_none (by omega)
   cases hn : ops.size with
   | zero => rfl
   | succ n => simp only [reach, this]
def allowedG (rc : Nat->Nat->Bool) (n : Nat) (pos kind : Nat->Nat) (k q : Nat) : Bool :=
 (allB n λj => !(kind j == 2) || ((!(rc k j) || decide (pos j < q)) && (!(decide (pos j < q)) || !(rc j k))))
def allowed (ops : Array Oper) (pos kind : Nat->Nat) (k q : Nat) : Bool :=
 (allB ops.size λj => !(kind j == 2) || ((!(reach ops ops.size k j) || decide (pos j < q)) && (!(decide (pos j < q)) || !(reach ops ops.size j k))))
theorem allowedG_eq (ops : Array Oper) (pos kind : Nat->Nat) : allowedG (reach ops ops.size) ops.size pos kind = allowed ops pos kind := rfl
def still (pos kind sig : Nat->Nat) (k q : Nat) : Bool :=
 decide (q <= pos k) && (List.range (pos k - q)).all λd => kind (sig (q + d)) == 0
def mkPlan (ops : Array Oper) : Plan := masksF ops.toList [] 0 λrs =>
 let mask := Region.before ops
 let kind := mkKinds ops mask
 let sig := mkSig ops mask kind
 let pos := (List.range ops.size).map λk => (sig.idxOf? k).getD ops.size
 let p := λk => pos.getD k 0
 let kd := λk => kind.getD k 0
 let sg := λk => sig.getD k 0
 let stops := stopsOf ops p kd
 { sig, pos, kind, chk := (List.range ops.size).map λk => match ops[k]? with
  | some o => if kd k == 0 && !freeOp o.op then stops.filter λq => allowedG (rcOf rs ops.size) ops.size p kd k q && !still p kd sg k q else []
  | none => [] }
def Plan.p (pl : Plan) (k : Nat) : Nat := pl.pos.getD k 0
def Plan.k (pl : Plan) (k : Nat) : Nat := pl.kind.getD k 0
def Plan.s (pl : Plan) (k : Nat) : Nat := pl.sig.getD k 0
def planOkG (rc : Nat->Nat->Bool) (ops : Array Oper) (pl : Plan) : Bool :=
 (pl.sig.length == ops.size) &&
 (allB ops.size λk => decide (pl.p k < ops.size) && (pl.s (pl.p k) == k)) &&
 (allB ops.size λj => decide (pl.s j < ops.size) && (pl.p (pl.s j) == j)) &&
 (allB ops.size λk => match ops[k]? with
  | none => true
  | some o =>
   ((opTmps o.op).all λt => allB ops.size λj => match ops[j]? with
    | none => true
    | some o' => !(o'.dst == some t) || ((bindsTo o j && decide (pl.p j < pl.p k) && (!(pl.k k == 0) || !(pl.k j == 1))) || (decide (pl.p k <= pl.p j) && (j == k || bindsTo o' k)))) &&
   (match o.guard with
    | none => true
    | some (g, _) => bindsTo o g && decide (pl.p g < pl.p k) && (!(pl.k k == 0) || !(pl.k g == 1))) &&
   (!(pl.k k == 0) || lightOp o.op) && (!(pl.k k == 1) || newOp o.op || softOp o.op) &&
   (pl.k k == 0 || pl.k k == 1 || pl.k k == 2) &&
   (o.after.toList.all λe => !(Region.binds .any e) || decide (e.on < k)) &&
   (!(pl.k k == 0) || freeOp o.op || (stopsOf ops pl.p pl.k).all λq => !(allowedG rc ops.size pl.p pl.k k q) || still pl.p pl.k pl.s k q || (pl.chk.getD k []).contains q)) &&
 (allB ops.size λj => allB ops.size λk => match (ops[j]?).bind (·.dst), (ops[k]?).bind (·.dst) with
  | some a, some b => j == k || !(a == b)
  | _, _ => true) &&
 (allB ops.size λk => !(pl.k k == 2) || allB ops.size λj => pl.k j == 0 || !(decide (pl.p j < pl.p k)) || rc k j)
def planOk (ops : Array Oper) (pl : Plan) : Bool := masksF ops.toList [] 0 λrs => planOkG (rcOf rs ops.size) ops pl
theorem planOk_reach {ops : Array Oper} {pl : Plan} (h : planOk ops pl = true) : planOkG (reach ops ops.size) ops pl = true := by
 unfold planOk at h
 rw [masksF_eq] at h
 rw [<- rcOf_eq]
 · exact h
 · unfold planOkG at h
   simp only [Bool.and_eq_true] at h
   obtain ⟨⟨⟨⟨⟨_, _⟩, _⟩, h4⟩, _⟩, _⟩ := h
   intro k o ho e he hb
   have := allB_at h4 (k := k) (Array.getElem?_eq_some_iff.1 ho).1
   rw [ho] at this
   simp only [Bool.and_eq_true] at this
   obtain ⟨⟨_, a⟩, _⟩ := this
   have := List.all_eq_true.1 a e he
   simpa [hb] using this
theorem planOk_p {ops : Array Oper} {pl : Plan} (h : planOk ops pl = true) : PlanP ops pl.p pl.k pl.s /\ pl.sig.length = ops.size /\
  (∀ (k : Nat) (o : Oper), ops[k]? = some o->pl.k k = 0->freeOp o.op = true \/ ∀ q ∈ stopsOf ops pl.p pl.k, allowed ops pl.p pl.k k q = true->still pl.p pl.k pl.s k q = true \/ (pl.chk.getD k []).contains q = true) := by
 have h := planOk_reach h
 unfold planOkG at h
 rw [allowedG_eq] at h
 simp only [Bool.and_eq_true] at h
 obtain ⟨⟨⟨⟨⟨h1, h2⟩, h3⟩, h4⟩, h5⟩, h6⟩ := h
 have row : ∀ {k : Nat} {o : Oper}, ops[k]? = some o->_ := λ{k o} ho => by
  have := allB_at h4 (k := k) (Array.getElem?_eq_some_iff.1 ho).1
  rw [ho] at this
  simp only [Bool.and_eq_true] at this
  exact this
 have lt : ∀ {k : Nat} {o : Oper}, ops[k]? = some o->k < ops.size := λh => (Array.getElem?_eq_some_iff.1 h).1
 refine ⟨⟨?_, ?_, ?_, ?_, ?_, ?_, ?_, ?_, ?_, ?_⟩, by simpa using h1, ?_⟩
 · intro k hk
   have := allB_at h2 hk
   simpa using this
 · intro j hj
   have := allB_at h3 hj
   simpa using this
 · intro k o ho t ht j o' ho' hd
   obtain ⟨⟨⟨⟨⟨⟨a, _⟩, _⟩, _⟩, _⟩, _⟩, _⟩ := row ho
   have := allB_at (List.all_eq_true.1 a t ht) (lt ho')
   rw [ho'] at this
   simp only [hd, beq_self_eq_true, Bool.not_true, Bool.false_or, Bool.and_eq_true, decide_eq_true_eq, Bool.or_eq_true, Bool.not_eq_true', beq_eq_false_iff_ne, beq_iff_eq] at this
   rcases this with ⟨⟨b1, b2⟩, b3⟩ | ⟨b1, b2⟩
   · exact .inl ⟨b1, b2, λe => b3.resolve_left (λhne => hne e)⟩
   · exact .inr ⟨b1, b2⟩
 · intro k o g c ho hg o' ho'
   obtain ⟨⟨⟨⟨⟨⟨_, a⟩, _⟩, _⟩, _⟩, _⟩, _⟩ := row ho
   rw [hg] at a
   simp only [Bool.and_eq_true, decide_eq_true_eq, Bool.or_eq_true, Bool.not_eq_true', beq_eq_false_iff_ne] at a
   obtain ⟨⟨b1, b2⟩, b3⟩ := a
   exact ⟨b1, b2, λe => b3.resolve_left (λhne => hne e)⟩
 · intro j k oj ok t hj hk hdj hdk
   have := allB_at (allB_at h5 (lt hj)) (lt hk)
   rw [hj, hk] at this
   simp only [Option.bind_some, hdj, hdk, beq_self_eq_true, Bool.not_true, Bool.or_false, beq_iff_eq] at this
   exact this
 · intro k o ho hk
   obtain ⟨⟨⟨⟨⟨⟨_, _⟩, a⟩, _⟩, _⟩, _⟩, _⟩ := row ho
   simpa [hk] using a
 · intro k o ho hk
   obtain ⟨⟨⟨⟨⟨⟨_, _⟩, _⟩, a⟩, _⟩, _⟩, _⟩ := row ho
   simpa [hk] using a
 · intro k j hk hj hk2 hj0 hlt
   have := allB_at h6 hk
   simp only [hk2, beq_self_eq_true, Bool.not_true, Bool.false_or] at this
   have := allB_at this hj
   simpa [hj0, hlt] using this
 · intro k hk
   have ho : ops[k]? = some ops[k] := Array.getElem?_eq_getElem hk
   obtain ⟨⟨⟨⟨⟨⟨_, _⟩, _⟩, _⟩, a⟩, _⟩, _⟩ := row ho
   simpa [or_assoc] using a
 · intro k o ho e he hb
   obtain ⟨⟨⟨⟨⟨⟨_, _⟩, _⟩, _⟩, _⟩, a⟩, _⟩ := row ho
   have := List.all_eq_true.1 a e he
   simpa [hb] using this
 · intro k o ho hk
   obtain ⟨⟨⟨⟨⟨⟨_, _⟩, _⟩, _⟩, _⟩, _⟩, a⟩ := row ho
   simp only [hk, beq_self_eq_true, Bool.not_true, Bool.false_or, Bool.or_eq_true] at a
   rcases a with a | a
   · exact .inl a
   · refine .inr (λq hq hal => ?_)
     have := List.all_eq_true.1 a q hq
     simp only [hal, Bool.not_true, Bool.false_or, Bool.or_eq_true] at this
     exact this
def xsteps (P : Program) [Gl P] [Orc P] (ex : Ex) (ops : Array Oper) : List Nat->Array Value->Heap->Option (Array Value × List Heap)
 | [], t, H => some (t, [H])
 | k :: ks, t, H => match ops[k]? with
  | none => none
  | some o => match xwanted ops t o with
   | some true => match xopv P ex (ev P t) o.op H with
    | some (v, H') => match xsteps P ex ops ks (put t o.dst v) H' with
     | some (T, Gs) => some (T, H :: Gs)
     | none => none
    | none => none
   | some false => match xsteps P ex ops ks (put t o.dst undef) H with
    | some (T, Gs) => some (T, H :: Gs)
    | none => none
   | none => none
def checkRead (P : Program) (ρ : Operand->Value) (T : Array Value) (H : Heap) (o : Oper) : Bool :=
 match xop P H ρ o.op with
 | some (v, _) => match o.dst with
  | some d => vEq 3 (T.getD d undef) v
  | none => true
 | none => false
def dynOk (P : Program) [Gl P] (ops : Array Oper) (pl : Plan) (t0 T : Array Value) (Gs : List Heap) : Bool :=
 allB ops.size λk => match ops[k]?, Gs[pl.p k]?, Gs[pl.p k + 1]? with
  | some o, some H, some H' =>
   decide (H.next <= H'.next) &&
   (match pl.k k with
    | 0 => (pl.chk.getD k []).all λq => match xwanted ops T o, Gs[q]? with
     | some true, some Hq => checkRead P (evk P ops pl.p t0 T k) T Hq o
     | some true, none => false
     | _, _ => true
    | 1 => match xwanted ops T o with
     | some true =>
      (match o.dst with
       | some d => inBound H'.next 3 (T.getD d undef)
       | none => true) &&
      (!newC o.op || match H'.cellsAt H.next with
       | some (c, _, _) => c.toList.all (inBound H.next 2)
       | none => false)
     | _ => true
    | _ => true)
  | _, _, _ => false
def xdraw (P : Program) [Gl P] [Orc P] (ex : Ex) (ops : Array Oper) (t : Array Value) (H : Heap) : Option (Array Value × Heap) :=
 if planOk ops (mkPlan ops) then
  match xsteps P ex ops (mkPlan ops).sig t H with
  | some (T, Gs) => if dynOk P ops (mkPlan ops) t T Gs then some (T, Gs.getD ops.size H) else none
  | none => none
 else none
section
variable {P : Program} [Gl P] [Orc P] {ex : Ex} {ops : Array Oper}
theorem xsteps_size : ∀ {ks : List Nat} {t : Array Value} {H : Heap} {T : Array Value} {Gs : List Heap}, xsteps P ex ops ks t H = some (T, Gs)->T.size = t.size /\ Gs.length = ks.length + 1 /\ Gs[0]? = some H
 | [], t, H, T, Gs, h => by simp only [xsteps] at h; cases h; exact ⟨rfl, rfl, rfl⟩
 | k :: ks, t, H, T, Gs, h => by
  have hput : ∀ (dst : Option Tmp) (v : Value), (put t dst v).size = t.size := by intro dst v; cases dst <;> simp [put]
  simp only [xsteps] at h
  split at h
  · cases h
  · split at h
    · split at h
      · split at h
        · rename_i hs
          cases h
          obtain ⟨a, b, _⟩ := xsteps_size hs
          exact ⟨a.trans (hput _ _), by simp [b], rfl⟩
        · cases h
      · cases h
    · split at h
      · rename_i hs
        cases h
        obtain ⟨a, b, _⟩ := xsteps_size hs
        exact ⟨a.trans (hput _ _), by simp [b], rfl⟩
      · cases h
    · cases h
theorem put_other {t : Array Value} {dst : Option Tmp} {v : Value} {d : Nat} (h : dst ≠ some d) : (put t dst v)[d]? = t[d]? := by
 cases dst with
 | none => rfl
 | some e =>
  simp only [put]
  rw [Array.getElem?_setIfInBounds_ne (by intro he; exact h (by rw [he]))]
theorem xsteps_keep : ∀ {ks : List Nat} {t : Array Value} {H : Heap} {T : Array Value} {Gs : List Heap}, xsteps P ex ops ks t H = some (T, Gs)->∀ d, (∀ k ∈ ks, ∀ o, ops[k]? = some o->o.dst ≠ some d)->T[d]? = t[d]?
 | [], t, H, T, Gs, h => by intro d _; simp only [xsteps] at h; cases h; rfl
 | k :: ks, t, H, T, Gs, h => by
  intro d hd
  simp only [xsteps] at h
  split at h
  · cases h
  · rename_i o ho
    have hne := hd k (by simp) o ho
    split at h
    · split at h
      · split at h
        · rename_i hs
          cases h
          rw [xsteps_keep hs d (λk' hk' => hd k' (by simp [hk'])), put_other hne]
        · cases h
      · cases h
    · split at h
      · rename_i hs
        cases h
        rw [xsteps_keep hs d (λk' hk' => hd k' (by simp [hk'])), put_other hne]
      · cases h
    · cases h
theorem xsteps_at : ∀ {ks : List Nat} {t : Array Value} {H : Heap} {T : Array Value} {Gs : List Heap}, xsteps P ex ops ks t H = some (T, Gs)->∀ j, j <= ks.length->∃ tj Hj, xsteps P ex ops (ks.drop j) tj Hj = some (T, Gs.drop j) /\ Gs[j]? = some Hj /\ ∀ d, (∀ k ∈ ks.take j, ∀ o, ops[k]? = some o->o.dst ≠ some d)->tj[d]? = t[d]?
 | ks, t, H, T, Gs, h, 0, _ => ⟨t, H, by simpa using h, (xsteps_size h).2.2, λ_ _ => rfl⟩
 | [], t, H, T, Gs, h, j + 1, hj => by simp at hj
 | k :: ks, t, H, T, Gs, h, j + 1, hj => by
  simp only [xsteps] at h
  split at h
  · cases h
  · rename_i o ho
    split at h
    · split at h
      · split at h
        · rename_i hs
          cases h
          obtain ⟨tj, Hj, h1, h2, h3⟩ := xsteps_at hs j (by simpa using hj)
          refine ⟨tj, Hj, by simpa using h1, by simpa using h2, λd hd => ?_⟩
          rw [h3 d (λk' hk' => hd k' (by simp [hk'])), put_other (hd k (by simp) o ho)]
        · cases h
      · cases h
    · split at h
      · rename_i hs
        cases h
        obtain ⟨tj, Hj, h1, h2, h3⟩ := xsteps_at hs j (by simpa using hj)
        refine ⟨tj, Hj, by simpa using h1, by simpa using h2, λd hd => ?_⟩
        rw [h3 d (λk' hk' => hd k' (by simp [hk'])), put_other (hd k (by simp) o ho)]
      · cases h
    · cases h
theorem free_heap {P : Program} {H H2 H' : Heap} {ρ : Operand->Value} {op : Op} (hf : freeOp op = true) {v : Value} (h : xop P H ρ op = some (v, H')) : xop P H2 ρ op = some (v, H2) := by
 have m1 : ∀ {x : Option Value}, x.map (·, H) = some (v, H')->x.map (·, H2) = some (v, H2) := λh => by rw [(map_fst h).1]; rfl
 cases op <;> simp [freeOp] at hf <;> first
  | exact m1 h
  | (simp only [xop] at h ⊢; cases h; rfl)
  | skip
 case pick c a b =>
  simp only [xop] at h ⊢
  split at h
  · rename_i hc
    cases h
    rfl
  · cases h
end
section
variable {P : Program} [Gl P] [Orc P] {ex : Ex} {ops : Array Oper}
theorem xwanted_congr {t T : Array Value} {o : Oper} (h : ∀ g want,o.guard=some (g,want)->∀ (o' : Oper),ops[g]?=some o'->∀ d,o'.dst=some d->T[d]?=t[d]?) : xwanted ops T o=xwanted ops t o:=by
 unfold xwanted
 cases hg : o.guard with
 | none=>rfl
 | some gw=>
  obtain⟨g,want⟩:=gw
  simp only
  cases ho : ops[g]? with
  | none=>rfl
  | some o'=>
   simp only[Option.bind_some]
   cases hd : o'.dst with
   | none=>rfl
   | some d=>simp only[Option.bind_some,h g want hg o' ho d hd]
theorem xdraw_run {t T : Array Value} {H H' : Heap} (h : xdraw P ex ops t H=some (T,H')) :
  ∃ (pos kind sig : Nat->Nat) (G : Nat->Heap),PlanP ops pos kind sig/\RunP P ex ops pos kind sig t T G/\G 0=H/\G ops.size=H':=by
 unfold xdraw at h
 split at h
 ·rename_i hok
  generalize hpl : mkPlan ops=pl at h hok
  obtain⟨hp,hlen,hchk⟩:=planOk_p hok
  split at h
  ·rename_i T' Gs hs
   split at h
   ·rename_i hdyn
    cases h
    obtain⟨s1,s2,s3⟩:=xsteps_size hs
    have hG : ∀ j,j<=ops.size->∃ tj,xsteps P ex ops (pl.sig.drop j) tj (Gs.getD j H)=some (T,Gs.drop j)/\∀ d,(∀ k∈pl.sig.take j,∀ o,ops[k]?=some o->o.dst≠some d)->tj[d]?=t[d]?:=by
     intro j hj
     obtain⟨tj,Hj,h1,h2,h3⟩:=xsteps_at hs j (by omega)
     exact⟨tj,by rw[List.getD_eq_getElem?_getD,h2];exact h1,h3⟩
    have hsg : ∀ j,j<ops.size->pl.sig[j]?=some (pl.s j):=by
     intro j hj
     have : j<pl.sig.length:=by omega
     rw[List.getElem?_eq_getElem this,Plan.s,List.getD_eq_getElem?_getD,List.getElem?_eq_getElem this];rfl
    have hdrop : ∀ j,j<ops.size->pl.sig.drop j=pl.s j::pl.sig.drop (j+1):=by
     intro j hj
     have hlt : j<pl.sig.length:=by omega
     rw[List.drop_eq_getElem_cons hlt]
     congr 1
     have:=hsg j hj
     rw[List.getElem?_eq_getElem hlt] at this
     exact Option.some.inj this
    have hmem : ∀ j k,k∈pl.sig.drop j->∃ i,j<=i/\i<ops.size/\pl.s i=k:=by
     intro j k hk
     obtain⟨i,hi⟩:=List.getElem?_of_mem hk
     rw[List.getElem?_drop] at hi
     have hlt:=(List.getElem?_eq_some_iff.1 hi).1
     refine⟨j+i,by omega,by omega,?_⟩
     have:=hsg (j+i) (by omega)
     rw[hi] at this
     exact (Option.some.inj this).symm
    have hlt : ∀ {k : Nat} {o : Oper},ops[k]?=some o->k<ops.size:=λh=>(Array.getElem?_eq_some_iff.1 h).1
    -- what no later step writes
    have hkeep : ∀ j d tj Hj,xsteps P ex ops (pl.sig.drop j) tj Hj=some (T,Gs.drop j)->(∀ k o,ops[k]?=some o->o.dst=some d->pl.p k<j)->T[d]?=tj[d]?:=by
     intro j d tj Hj hx hw
     refine xsteps_keep hx d (λk hk o ho hd=>?_)
     obtain⟨i,h1,h2,h3⟩:=hmem j k hk
     have:=hw k o ho hd
     rw[<- h3,(hp.ps i h2).2] at this
     omega
    have hrun : ∀ j,j<ops.size->∀ (o : Oper),ops[pl.s j]?=some o->
      (xwanted ops T o=some true/\∃ v,xopv P ex (evk P ops pl.p t T (pl.s j)) o.op (Gs.getD j H)=some (v,Gs.getD (j+1) H)/\∀ d,o.dst=some d->d<T.size->T[d]?=some v) \/
      (xwanted ops T o=some false/\Gs.getD (j+1) H=Gs.getD j H/\∀ d,o.dst=some d->d<T.size->T[d]?=some undef):=by
     intro j hj o ho
     obtain⟨tj,hx,hpre0⟩:=hG j (by omega)
     have hpre : ∀ d,(∀ k o,ops[k]?=some o->o.dst=some d->j<=pl.p k)->tj[d]?=t[d]?:=by
      intro d hd
      refine hpre0 d (λk hk ok hok hkd=>?_)
      obtain⟨i,hi⟩:=List.getElem?_of_mem hk
      rw[List.getElem?_take] at hi
      split at hi
      ·rename_i hij
       have hlt:=(List.getElem?_eq_some_iff.1 hi).1
       have:=hsg i (by omega)
       rw[hi] at this
       have e : k=pl.s i:=Option.some.inj this
       have:=hd k ok hok hkd
       rw[e,(hp.ps i (by omega)).2] at this
       omega
      ·cases hi
     have hx0:=hx
     rw[hdrop j hj] at hx
     have hks:=(hp.ps j hj).2
     have hsz : T.size=tj.size:=(xsteps_size hx0).1
     -- the operands and the guard are as at the end
     have hop : ∀ x∈o.op.operands,evk P ops pl.p t T (pl.s j) x=ev P tj x:=by
      intro x hx'
      cases x with
      | tmp t'=>
       have ht : t'∈opTmps o.op:=List.mem_filterMap.2 ⟨.tmp t',Array.mem_toList_iff.2 hx',rfl⟩
       show (if late ops pl.p (pl.s j) t' then t.getD t' undef else T.getD t' undef)=tj.getD t' undef
       by_cases hl : late ops pl.p (pl.s j) t'=true
       ·rw[if_pos hl]
        obtain⟨k,ok,hk,hkd,hkp⟩:=late_true hl
        have:=hpre t' (λk2 ok2 hk2 hkd2=>by
         have e : k2=k:=hp.dst k2 k ok2 ok t' hk2 hk hkd2 hkd
         subst e;omega)
        simp only[Array.getD_eq_getD_getElem?,this]
       ·rw[if_neg hl]
        have:=hkeep j t' tj _ hx0 (λk ok hk hd=>by
         rcases hp.opd _ o ho t' ht k ok hk hd with h1|⟨h1,_⟩
         ·have:=h1.2.1;omega
         ·exact absurd (late_of hk hd h1) hl)
        simp only[Array.getD_eq_getD_getElem?,this]
      | _=>rfl
     have hw : xwanted ops T o=xwanted ops tj o:=xwanted_congr (λg want hg o' ho' d hd=>hkeep j d tj _ hx0 (λk ok hk hkd=>by
      have e : k=g:=hp.dst k g ok o' d hk ho' hkd hd
      subst e
      have:=(hp.gd _ o k want ho hg o' ho').2.1;omega))
     have hput : ∀ v tj1 H1,xsteps P ex ops (pl.sig.drop (j+1)) tj1 H1=some (T,Gs.drop (j+1))->tj1=put tj o.dst v->∀ d,o.dst=some d->d<T.size->T[d]?=some v:=by
      intro v tj1 H1 h1 h2 d hd hlt'
      rw[hkeep (j+1) d tj1 H1 h1 (λk ok hk hkd=>by
       have e : k=pl.s j:=hp.dst k _ ok o d hk ho hkd hd
       rw[e,hks];omega),h2]
      simp only[hd,put]
      rw[Array.getElem?_setIfInBounds_self_of_lt (by rw[<- hsz];exact hlt')]
     have hGd : ∀ {H1 : Heap} {Gs1 : List Heap} {tj1 : Array Value},xsteps P ex ops (pl.sig.drop (j+1)) tj1 H1=some (T,Gs1)->Gs.drop j=Gs.getD j H::Gs1->Gs1=Gs.drop (j+1)/\Gs.getD (j+1) H=H1:=by
      intro H1 Gs1 tj1 h1 h2
      have e : Gs1=Gs.drop (j+1):=by
       have:=congrArg (List.drop 1) h2
       simp only[List.drop_drop,List.drop_succ_cons,List.drop_zero] at this
       rw[<- this,Nat.add_comm]
      refine⟨e,?_⟩
      have:=(xsteps_size h1).2.2
      rw[e,List.getElem?_drop] at this
      rw[List.getD_eq_getElem?_getD,show j+1=j+1+0 from rfl,this];rfl
     simp only[xsteps,ho] at hx
     split at hx
     ·rename_i hwt
      split at hx
      ·rename_i v H1 hv
       split at hx
       ·rename_i T1 Gs1 hs1
        simp only[Option.some.injEq,Prod.mk.injEq] at hx
        obtain⟨rfl,hx2⟩:=hx
        obtain⟨e1,e2⟩:=hGd hs1 hx2.symm
        subst e1
        refine .inl ⟨hw.trans hwt,v,?_,hput v _ _ hs1 rfl⟩
        rw[xopv_congr hop,e2];exact hv
       ·cases hx
      ·cases hx
     ·rename_i hwt
      split at hx
      ·rename_i T1 Gs1 hs1
       simp only[Option.some.injEq,Prod.mk.injEq] at hx
       obtain⟨rfl,hx2⟩:=hx
       obtain⟨e1,e2⟩:=hGd hs1 hx2.symm
       subst e1
       exact .inr ⟨hw.trans hwt,e2,hput undef _ _ hs1 rfl⟩
      ·cases hx
     ·cases hx
    have dyn : ∀ {k : Nat} {o : Oper},ops[k]?=some o->_:=λ{k o} ho=>by
     have:=allB_at hdyn (hlt ho)
     rw[ho] at this
     have hpk:=(hp.sp k (hlt ho)).1
     have l1 : Gs[pl.p k]?=some (Gs.getD (pl.p k) H):=by
      rw[List.getD_eq_getElem?_getD,List.getElem?_eq_getElem (by omega)];rfl
     have l2 : Gs[pl.p k+1]?=some (Gs.getD (pl.p k+1) H):=by
      rw[List.getD_eq_getElem?_getD,List.getElem?_eq_getElem (by omega)];rfl
     rw[l1,l2] at this
     simp only[Bool.and_eq_true] at this
     exact this
    have hclean : ∀ j,j<ops.size->pl.k (pl.s j)=0->Gs.getD (j+1) H=Gs.getD j H:=by
     intro j hj hk
     have hsj:=(hp.ps j hj).1
     have ho : ops[pl.s j]?=some ops[pl.s j]:=Array.getElem?_eq_getElem hsj
     rcases hrun j hj _ ho with⟨hw,v,hx,_⟩|⟨_,hG',_⟩
     ·have hlight:=hp.k0 _ _ ho hk
      unfold xopv at hx
      split at hx
      ·rename_i heq;rw[heq] at hlight;simp[lightOp] at hlight
      ·exact light_heap hlight hx
     ·exact hG'
    have hstill : ∀ k q,k<ops.size->still pl.p pl.k pl.s k q=true->Gs.getD (pl.p k) H=Gs.getD q H:=by
     intro k q hk hst
     simp only[still,Bool.and_eq_true,decide_eq_true_eq,List.all_eq_true,List.mem_range,beq_iff_eq] at hst
     obtain⟨h1,h2⟩:=hst
     have hpk:=(hp.sp k hk).1
     have : ∀ d,d<=pl.p k-q->Gs.getD (q+d) H=Gs.getD q H:=by
      intro d
      induction d with
      | zero=>intro _;rfl
      | succ d ih=>
       intro hd
       rw[show q+(d+1)=q+d+1 by omega,hclean (q+d) (by omega) (h2 d (by omega))]
       exact ih (by omega)
     have:=this (pl.p k-q) (Nat.le_refl _)
     rw[show q+(pl.p k-q)=pl.p k by omega] at this
     exact this
    refine⟨pl.p,pl.k,pl.s,λj=>Gs.getD j H,hp,⟨s1,hrun,?_,?_,?_,?_,?_⟩,?_,rfl⟩
    ·intro t' hno
     exact xsteps_keep hs t' (λk _ o ho=>hno k o ho)
    ·intro j hj
     have hsj:=(hp.ps j hj).1
     have ho : ops[pl.s j]?=some ops[pl.s j]:=Array.getElem?_eq_getElem hsj
     have:=(dyn ho).1
     rw[(hp.ps j hj).2] at this
     simpa using this
    ·intro k o ho hk hw q hq hst hal1 hal2
     have hkn:=hlt ho
     have hpk:=(hp.sp k hkn)
     have hval : ∃ v,xop P (Gs.getD (pl.p k) H) (evk P ops pl.p t T k) o.op=some (v,Gs.getD (pl.p k) H)/\∀ d,o.dst=some d->d<T.size->T[d]?=some v:=by
      rcases hrun (pl.p k) hpk.1 o (by rw[hpk.2];exact ho) with⟨_,v,hx,hd⟩|⟨hw',_,_⟩
      ·have hlight:=hp.k0 _ _ ho hk
       rw[hpk.2] at hx
       have hx' : xop P (Gs.getD (pl.p k) H) (evk P ops pl.p t T k) o.op=some (v,Gs.getD (pl.p k+1) H):=by
        unfold xopv at hx
        split at hx
        ·rename_i heq;rw[heq] at hlight;simp[lightOp] at hlight
        ·exact hx
       rw[light_heap hlight hx'] at hx'
       exact⟨v,hx',hd⟩
      ·rw[hw] at hw';cases hw'
     obtain⟨v,hx,hd⟩:=hval
     rcases hchk k o ho hk with hf|hall
     ·exact⟨v,free_heap hf hx,hd⟩
     ·have hqs : q∈stopsOf ops pl.p pl.k:=by
       unfold stopsOf
       rcases hst with rfl|⟨b,h1,h2,rfl⟩
       ·simp
       ·refine List.mem_cons_of_mem _ (List.mem_map.2 ⟨b,List.mem_filter.2 ⟨List.mem_range.2 h1,by simp[h2]⟩,rfl⟩)
      have hal : allowed ops pl.p pl.k k q=true:=by
       unfold allowed allB
       rw[List.all_eq_true]
       intro j hj
       have hj':=List.mem_range.1 hj
       by_cases hk2 : pl.k j=2
       ·have a1:=hal1 j hj' hk2
        have a2:=hal2 j hj' hk2
        cases hr1 : reach ops ops.size k j with
        | false=>
         by_cases hlt2 : pl.p j<q
         ·simp[hk2,hlt2,a2 hlt2]
         ·simp[hk2,hlt2]
        | true=>
         have hlt2:=a1 hr1
         simp[hk2,hlt2,a2 hlt2]
       ·simp[hk2]
      rcases hall q hqs hal with hsl|hc
      ·exact⟨v,by rw[<- hstill k q hkn hsl];exact hx,hd⟩
      ·have hmem' : q∈pl.chk.getD k []:=by simpa using hc
       have:=(dyn ho).2
       rw[hk] at this
       simp only at this
       have:=List.all_eq_true.1 this q hmem'
       have l1 : Gs[q]?=some (Gs.getD q H):=by
        rw[List.getD_eq_getElem?_getD,List.getElem?_eq_getElem (by omega)];rfl
       rw[hw,l1] at this
       simp only[checkRead] at this
       split at this
       ·rename_i v2 H2 hx2
        have hlight:=hp.k0 _ _ ho hk
        have e:=light_heap hlight hx2
        rw[e] at hx2
        refine⟨v2,hx2,λd hdd hdl=>?_⟩
        rw[hdd] at this
        simp only at this
        have hv2:=vEq_eq this
        rw[<- hv2]
        rw[Array.getD_eq_getD_getElem?,Array.getElem?_eq_getElem hdl];rfl
       ·cases this
    ·intro k o ho hk hw d v hd hv
     have:=(dyn ho).2
     rw[hk] at this
     simp only[hw,hd,Bool.and_eq_true] at this
     have:=this.1
     rw[Array.getD_eq_getD_getElem?,hv] at this
     exact this
    ·intro k o c el ho hk hw hn hG'
     have:=(dyn ho).2
     rw[hk] at this
     simp only[hw,hn,Bool.not_true,Bool.false_or,Bool.and_eq_true] at this
     have:=this.2
     rw[hG'] at this
     have hc : ((Gs.getD (pl.p k) H).alloc (.cells c el true)).cellsAt (Gs.getD (pl.p k) H).next=some (c,el,true):=by
      unfold Heap.cellsAt
      rw[Heap.get_alloc];simp
     rw[hc] at this
     exact this
    ·show Gs.getD 0 H=H
     rw[List.getD_eq_getElem?_getD,s3];rfl
   ·cases h
  ·cases h
 ·cases h
end
end Go.Xe
