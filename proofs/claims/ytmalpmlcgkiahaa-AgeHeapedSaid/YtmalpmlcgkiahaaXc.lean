/- An executable reading of the model's code over an abstract heap (part 1): tries, abstract objects, the relation between abstract and concrete values and heaps, and how a step may change the concrete world. Conditions: none; these are definitions and lemmas for every program. -/
import Derived.CallsIn
import Derived.RangeFuncLeaves
import Derived.RangeFuncRecord
import Derived.RangeFuncCalls
import Derived.Below
import GoSem.ClaimKeys
import Derived.Laws.Tables
import Derived.Laws.StructEq
namespace Go.Xe
open Go

inductive Tr (α : Type) where
  | nil
  | node (v : Option α) (l r : Tr α)

def Tr.get {α : Type} : Tr α → Nat → Option α
  | .nil, _ => none
  | .node v _ _, 0 => v
  | .node _ l r, m + 1 => match Nat.beq (m % 2) 0 with
    | true => l.get (m / 2)
    | false => r.get (m / 2)

def Tr.setF {α : Type} (x : α) : Nat → Tr α → Nat → Tr α
  | 0, t, _ => t
  | _ + 1, .nil, 0 => .node (some x) .nil .nil
  | f + 1, .nil, m + 1 => match Nat.beq (m % 2) 0 with
    | true => .node none (Tr.setF x f .nil (m / 2)) .nil
    | false => .node none .nil (Tr.setF x f .nil (m / 2))
  | _ + 1, .node _ l r, 0 => .node (some x) l r
  | f + 1, .node v l r, m + 1 => match Nat.beq (m % 2) 0 with
    | true => .node v (Tr.setF x f l (m / 2)) r
    | false => .node v l (Tr.setF x f r (m / 2))

theorem Tr.get_nil {α : Type} (n : Nat) : (Tr.nil : Tr α).get n = none := by cases n <;> rfl

theorem Tr.get_setF {α : Type} (x : α) : ∀ (f : Nat) (t : Tr α) (n m : Nat), n < f → (t.setF x f n).get m = if m = n then some x else t.get m := by
  intro f
  induction f with
  | zero => intro t n m h; omega
  | succ f ih =>
    intro t n m h
    cases t with
    | nil =>
      cases n with
      | zero =>
        cases m with
        | zero => simp [Tr.setF, Tr.get]
        | succ m => rw [if_neg (by omega), Tr.get_nil]; simp only [Tr.setF, Tr.get]; cases Nat.beq (m % 2) 0 <;> rfl
      | succ n =>
        have hlt : n / 2 < f := by omega
        by_cases hb : n % 2 = 0
        · have hb' : Nat.beq (n % 2) 0 = true := by rw [hb]; rfl
          simp only [Tr.setF, hb']
          cases m with
          | zero => simp [Tr.get]
          | succ m =>
            by_cases hm : m % 2 = 0
            · have hm' : Nat.beq (m % 2) 0 = true := by rw [hm]; rfl
              simp only [Tr.get, hm', ih _ _ _ hlt]
              have : (m / 2 = n / 2) ↔ (m + 1 = n + 1) := by omega
              simp [this]
            · have hm' : Nat.beq (m % 2) 0 = false := by
                have : m % 2 = 1 := by omega
                rw [this]; rfl
              simp only [Tr.get, hm']
              have : ¬ (m + 1 = n + 1) := by omega
              rw [if_neg this]
        · have hb1 : n % 2 = 1 := by omega
          have hb' : Nat.beq (n % 2) 0 = false := by rw [hb1]; rfl
          simp only [Tr.setF, hb']
          cases m with
          | zero => simp [Tr.get]
          | succ m =>
            by_cases hm : m % 2 = 0
            · have hm' : Nat.beq (m % 2) 0 = true := by rw [hm]; rfl
              have : ¬ (m + 1 = n + 1) := by omega
              rw [if_neg this]
              simp only [Tr.get, hm']
            · have hm' : Nat.beq (m % 2) 0 = false := by
                have : m % 2 = 1 := by omega
                rw [this]; rfl
              simp only [Tr.get, hm', ih _ _ _ hlt]
              have : (m / 2 = n / 2) ↔ (m + 1 = n + 1) := by omega
              simp [this]
    | node v l r =>
      cases n with
      | zero => cases m <;> simp [Tr.setF, Tr.get]
      | succ n =>
        have hlt : n / 2 < f := by omega
        by_cases hb : n % 2 = 0
        · have hb' : Nat.beq (n % 2) 0 = true := by rw [hb]; rfl
          simp only [Tr.setF, hb']
          cases m with
          | zero => simp [Tr.get]
          | succ m =>
            by_cases hm : m % 2 = 0
            · have hm' : Nat.beq (m % 2) 0 = true := by rw [hm]; rfl
              simp only [Tr.get, hm', ih _ _ _ hlt]
              have : (m / 2 = n / 2) ↔ (m + 1 = n + 1) := by omega
              simp [this]
            · have hm' : Nat.beq (m % 2) 0 = false := by
                have : m % 2 = 1 := by omega
                rw [this]; rfl
              simp only [Tr.get, hm']
              have : ¬ (m + 1 = n + 1) := by omega
              rw [if_neg this]
        · have hb1 : n % 2 = 1 := by omega
          have hb' : Nat.beq (n % 2) 0 = false := by rw [hb1]; rfl
          simp only [Tr.setF, hb']
          cases m with
          | zero => simp [Tr.get]
          | succ m =>
            by_cases hm : m % 2 = 0
            · have hm' : Nat.beq (m % 2) 0 = true := by rw [hm]; rfl
              simp only [Tr.get, hm']
              have : ¬ (m + 1 = n + 1) := by omega
              rw [if_neg this]
            · have hm' : Nat.beq (m % 2) 0 = false := by
                have : m % 2 = 1 := by omega
                rw [this]; rfl
              simp only [Tr.get, hm', ih _ _ _ hlt]
              have : (m / 2 = n / 2) ↔ (m + 1 = n + 1) := by omega
              simp [this]

/-- An abstract object. 'dead': taken over by an append, no longer read. -/
inductive AO where
  | cells (c : Array Value) (el : TypeId) (rw : Bool)
  | map (kt : TypeId) (es : Array MapEntry) (clock : Nat)
  | loop (r : Loop)
  | deferred (fresh : Bool)
  | dead

def AO.live : AO → Bool
  | .dead => false
  | _ => true

structure Heap where
  next : Nat
  t : Tr AO

def Heap.get (H : Heap) (i : Nat) : Option AO := H.t.get i
def Heap.set (H : Heap) (i : Nat) (o : AO) : Heap := { H with t := H.t.setF o (i + 1) i }
def Heap.alloc (H : Heap) (o : AO) : Heap := { next := H.next + 1, t := H.t.setF o (H.next + 1) H.next }
def Heap.empty : Heap := { next := 0, t := .nil }

theorem Heap.get_set (H : Heap) (i j : Nat) (o : AO) : (H.set i o).get j = if j = i then some o else H.get j :=
  Tr.get_setF o (i + 1) H.t i j (Nat.lt_succ_self i)
theorem Heap.get_alloc (H : Heap) (j : Nat) (o : AO) : (H.alloc o).get j = if j = H.next then some o else H.get j :=
  Tr.get_setF o (H.next + 1) H.t H.next j (Nat.lt_succ_self _)
@[simp] theorem Heap.next_set (H : Heap) (i : Nat) (o : AO) : (H.set i o).next = H.next := rfl
@[simp] theorem Heap.next_alloc (H : Heap) (o : AO) : (H.alloc o).next = H.next + 1 := rfl

/-- Where an abstract object lies: its block, the offset of its first cell, how many cells the block has, the cells of one element, and whether it may be written. -/
structure Pl where
  blk : Nat
  base : Nat
  sz : Nat
  st : Nat
  rw : Bool

abbrev Th := Nat → Option Pl

inductive FnR (θ : Th) : Fn → Fn → Prop
  | same (f : Fn) (h : ∀ l, f ≠ .yield l) : FnR θ f f
  | yield {l : Nat} {p : Pl} (h : θ l = some p) : FnR θ (.yield l) (.yield p.blk)

/-- An abstract value stands for a concrete one. '.chan none' stands for whatever. -/
inductive VR (θ : Th) : Value → Value → Prop
  | top (v : Value) : VR θ (.chan none) v
  | bool (b : Bool) : VR θ (.bool b) (.bool b)
  | int (k : IntKind) (n : Int) : VR θ (.int k n) (.int k n)
  | float (k : FloatKind) (b : Nat) : VR θ (.float k b) (.float k b)
  | string (s : ByteArray) : VR θ (.string s) (.string s)
  | pnil : VR θ (.pointer none) (.pointer none)
  | ptr {i o : Nat} {p : Pl} (h : θ i = some p) : VR θ (.pointer (some ⟨i, o, none⟩)) (.pointer (some ⟨p.blk, p.base + o, none⟩))
  | snil (n c : Nat) : VR θ (.slice none n c) (.slice none n c)
  | slice {i o n c c' : Nat} {p : Pl} (h : θ i = some p) (hn : n ≤ c) (hc : c ≤ c') (hs : p.rw = true → c' = c ∨ p.base + o + c' * p.st ≤ p.sz) :
      VR θ (.slice (some ⟨i, o, none⟩) n c) (.slice (some ⟨p.blk, p.base + o, none⟩) n c')
  | sempty (i o s : Nat) (a : Addr) (c : Nat) : VR θ (.slice (some ⟨i, o, some s⟩) 0 0) (.slice (some a) 0 c)
  | mnil : VR θ (.map none) (.map none)
  | map {i : Nat} {p : Pl} (h : θ i = some p) : VR θ (.map (some i)) (.map (some p.blk))
  | nilFunc : VR θ .nilFunc .nilFunc
  | nilIface : VR θ .nilIface .nilIface
  | func {f f' : Fn} {a a' b b' : Array Value} (hf : FnR θ f f') (h1 : a.size = a'.size) (h2 : ∀ (i : Nat) (v w : Value), a[i]? = some v → a'[i]? = some w → VR θ v w)
      (h3 : b.size = b'.size) (h4 : ∀ (i : Nat) (v w : Value), b[i]? = some v → b'[i]? = some w → VR θ v w) : VR θ (.func f a b) (.func f' a' b')
  | iface (t : TypeId) {v w : Value} (h : VR θ v w) : VR θ (.iface t v) (.iface t w)
  | agg {a a' : Array Value} (h1 : a.size = a'.size) (h2 : ∀ (i : Nat) (v w : Value), a[i]? = some v → a'[i]? = some w → VR θ v w) : VR θ (.agg a) (.agg a')
  | tuple {a a' : Array Value} (h1 : a.size = a'.size) (h2 : ∀ (i : Nat) (v w : Value), a[i]? = some v → a'[i]? = some w → VR θ v w) : VR θ (.tuple a) (.tuple a')

/-- Arrays, cell by cell. -/
def AR (θ : Th) (a a' : Array Value) : Prop := a.size = a'.size ∧ ∀ (i : Nat) (v w : Value), a[i]? = some v → a'[i]? = some w → VR θ v w

def Ext (θ θ' : Th) : Prop := ∀ i p, θ i = some p → θ' i = some p

theorem Ext.refl (θ : Th) : Ext θ θ := fun _ _ h => h
theorem Ext.trans {a b c : Th} (h : Ext a b) (k : Ext b c) : Ext a c := fun i p hp => k i p (h i p hp)

theorem FnR.ext {θ θ' : Th} {f f' : Fn} (h : FnR θ f f') (e : Ext θ θ') : FnR θ' f f' := by
  cases h with
  | same _ h => exact .same _ h
  | yield h => exact .yield (e _ _ h)

theorem VR.ext {θ θ' : Th} (e : Ext θ θ') {v w : Value} (h : VR θ v w) : VR θ' v w := by
  induction h with
  | top v => exact .top v
  | bool b => exact .bool b
  | int k n => exact .int k n
  | float k b => exact .float k b
  | string s => exact .string s
  | pnil => exact .pnil
  | ptr h => exact .ptr (e _ _ h)
  | snil n c => exact .snil n c
  | slice h hn hc hs => exact .slice (e _ _ h) hn hc hs
  | sempty i o s a c => exact .sempty i o s a c
  | mnil => exact .mnil
  | map h => exact .map (e _ _ h)
  | nilFunc => exact .nilFunc
  | nilIface => exact .nilIface
  | func hf h1 _ h3 _ ih2 ih4 => exact .func (hf.ext e) h1 ih2 h3 ih4
  | iface t _ ih => exact .iface t ih
  | agg h1 _ ih => exact .agg h1 ih
  | tuple h1 _ ih => exact .tuple h1 ih

theorem AR.ext {θ θ' : Th} (e : Ext θ θ') {a a' : Array Value} (h : AR θ a a') : AR θ' a a' := ⟨h.1, fun i v w hv hw => (h.2 i v w hv hw).ext e⟩

theorem AR.get {θ : Th} {a a' : Array Value} (h : AR θ a a') {i : Nat} {v : Value} (hv : a[i]? = some v) : ∃ w, a'[i]? = some w ∧ VR θ v w := by
  obtain ⟨hi, _⟩ := Array.getElem?_eq_some_iff.1 hv
  have hi' : i < a'.size := h.1 ▸ hi
  exact ⟨a'[i], Array.getElem?_eq_getElem hi', h.2 i v _ hv (Array.getElem?_eq_getElem hi')⟩

theorem AR.getD {θ : Th} {a a' : Array Value} (h : AR θ a a') (i : Nat) : VR θ (a.getD i undef) (a'.getD i undef) := by
  simp only [Array.getD_eq_getD_getElem?]
  cases hv : a[i]? with
  | some v => obtain ⟨w, hw, hr⟩ := h.get hv; rw [hw]; exact hr
  | none =>
    have : a'[i]? = none := by rw [Array.getElem?_eq_none_iff] at hv ⊢; rw [← h.1]; exact hv
    rw [this]
    exact .tuple rfl (fun i v w hv => by simp at hv)

theorem VR.undef {θ : Th} : VR θ undef undef := .tuple rfl (fun i v w hv => by simp at hv)

theorem AR.set {θ : Th} {a a' : Array Value} (h : AR θ a a') {v v' : Value} (hv : VR θ v v') (i : Nat) : AR θ (a.setIfInBounds i v) (a'.setIfInBounds i v') := by
  refine ⟨by simp [h.1], fun j x y hx hy => ?_⟩
  rw [Array.getElem?_setIfInBounds] at hx hy
  by_cases e : i = j
  · subst e
    by_cases hl : i < a.size
    · have hl' : i < a'.size := h.1 ▸ hl
      simp [hl] at hx; simp [hl'] at hy
      subst hx; subst hy; exact hv
    · simp [hl] at hx
  · simp [e] at hx hy
    exact h.2 j x y (by simpa using hx) (by simpa using hy)

theorem AR.append {θ : Th} {a a' b b' : Array Value} (h : AR θ a a') (k : AR θ b b') : AR θ (a ++ b) (a' ++ b') := by
  refine ⟨by simp [h.1, k.1], fun j x y hx hy => ?_⟩
  rw [Array.getElem?_append] at hx hy
  rw [← h.1] at hy
  by_cases hl : j < a.size
  · simp [hl] at hx hy
    exact h.2 j x y (by simpa [Array.getElem?_eq_getElem hl] using hx) (by simpa using hy)
  · simp [hl] at hx hy
    exact k.2 _ x y hx hy

theorem AR.nil {θ : Th} : AR θ #[] #[] := ⟨rfl, fun i v w hv => by simp at hv⟩
theorem AR.one {θ : Th} {v w : Value} (h : VR θ v w) : AR θ #[v] #[w] := ⟨rfl, fun i x y hx hy => by
  cases i with
  | zero => simp at hx hy; subst hx; subst hy; exact h
  | succ i => simp at hx⟩
theorem AR.replicate {θ : Th} (n : Nat) {v w : Value} (h : VR θ v w) : AR θ (Array.replicate n v) (Array.replicate n w) := by
  refine ⟨by simp, fun i x y hx hy => ?_⟩
  rw [Array.getElem?_replicate] at hx hy
  by_cases hl : i < n
  · simp [hl] at hx hy; subst hx; subst hy; exact h
  · simp [hl] at hx
theorem AR.push {θ : Th} {a a' : Array Value} (h : AR θ a a') {v w : Value} (k : VR θ v w) : AR θ (a.push v) (a'.push w) := by
  have := h.append (AR.one k)
  simpa using this
theorem AR.extract {θ : Th} {a a' : Array Value} (h : AR θ a a') (i j : Nat) : AR θ (a.extract i j) (a'.extract i j) := by
  refine ⟨by simp [h.1], fun k x y hx hy => ?_⟩
  rw [Array.getElem?_extract] at hx hy
  rw [← h.1] at hy
  split at hx
  · rename_i hl; rw [if_pos hl] at hy
    exact h.2 _ x y hx hy
  · cases hx
theorem AR.map {θ : Th} {β : Type} (f g : β → Value) (l : Array β) (h : ∀ x, VR θ (f x) (g x)) : AR θ (l.map f) (l.map g) := by
  refine ⟨by simp, fun i x y hx hy => ?_⟩
  rw [Array.getElem?_map] at hx hy
  cases hl : l[i]? with
  | none => rw [hl] at hx; simp at hx
  | some z =>
    rw [hl] at hx hy; simp at hx hy
    subst hx; subst hy; exact h z

theorem VR.cells {θ : Th} {v w : Value} (h : VR θ v w) (ht : v ≠ .chan none) : AR θ v.cells w.cells := by
  cases h with
  | top => exact absurd rfl ht
  | agg h1 h2 => exact ⟨h1, h2⟩
  | bool b => exact AR.one (.bool b)
  | int k n => exact AR.one (.int k n)
  | float k n => exact AR.one (.float k n)
  | string s => exact AR.one (.string s)
  | pnil => exact AR.one .pnil
  | ptr h => exact AR.one (.ptr h)
  | snil n c => exact AR.one (.snil n c)
  | slice h a b c => exact AR.one (.slice h a b c)
  | sempty i o s a c => exact AR.one (.sempty i o s a c)
  | mnil => exact AR.one .mnil
  | map h => exact AR.one (.map h)
  | nilFunc => exact AR.one .nilFunc
  | nilIface => exact AR.one .nilIface
  | func a b c d e => exact AR.one (.func a b c d e)
  | iface t h => exact AR.one (.iface t h)
  | tuple h1 h2 => exact AR.one (.tuple h1 h2)

/-- None of the first n cells is frozen. -/
def Thaw (fz : Nat × Nat) (n : Nat) : Prop := fz = (0, 0) ∨ n ≤ fz.1

/-- The abstract object lies at p in w. 'stride': the cells of an element of a type. -/
def OR (P : Program) (θ : Th) (w : World) (p : Pl) : AO → Prop
  | .cells c el rw => ∃ c' el' fz, w.heap[p.blk]? = some (.cells c' el' fz) ∧ p.rw = rw ∧ (rw = true → el' = el ∧ Thaw fz c'.size ∧ c'.size = p.sz ∧ p.st = P.cellsOf el) ∧
      ∀ (k : Nat) (v : Value), c[k]? = some v → ∃ v', c'[p.base + k]? = some v' ∧ VR θ v v'
  | .map kt es clock => ∃ es', w.heap[p.blk]? = some (.map es' clock) ∧ p.rw = true ∧ es.size = es'.size ∧ es'.toList.Pairwise (fun a b => a.key ≠ b.key) ∧
      ∀ (k : Nat) (e e' : MapEntry), es[k]? = some e → es'[k]? = some e' → e.key = e'.key ∧ (keyOf P kt e.key).isSome = true ∧ VR θ e.val e'.val
  | .loop r => ∃ r' : Loop, w.heap[p.blk]? = some (.loop r') ∧ p.rw = true ∧ r'.state = r.state ∧ r'.pending = r.pending ∧ AR θ r.tmps r'.tmps ∧
      r'.params = r.params ∧ r'.assign = r.assign ∧ r'.body = r.body ∧ ∃ pd, θ r.defers = some pd ∧ r'.defers = pd.blk
  | .deferred fresh => w.heap[p.blk]? = some (.deferred (if fresh then some [] else none)) ∧ p.rw = true
  | .dead => True

theorem OR.ext {P : Program} {θ θ' : Th} {w w' : World} {p : Pl} {o : AO} (h : OR P θ w p o) (e : Ext θ θ') (hb : w'.heap[p.blk]? = w.heap[p.blk]?) : OR P θ' w' p o := by
  cases o with
  | cells c el rw =>
    obtain ⟨c', el', fz, h1, h2, h3, h4⟩ := h
    exact ⟨c', el', fz, hb.trans h1, h2, h3, fun k v hv => let ⟨v', a, b⟩ := h4 k v hv; ⟨v', a, b.ext e⟩⟩
  | map kt es clock =>
    obtain ⟨es', h1, h2, h3, h5, h4⟩ := h
    exact ⟨es', hb.trans h1, h2, h3, h5, fun k x y hx hy => let ⟨a, b, c⟩ := h4 k x y hx hy; ⟨a, b, c.ext e⟩⟩
  | loop r =>
    obtain ⟨r', h1, h2, h3, h4, h5, h6, h7, h8, pd, h9, h10⟩ := h
    exact ⟨r', hb.trans h1, h2, h3, h4, h5.ext e, h6, h7, h8, pd, e _ _ h9, h10⟩
  | deferred f => exact ⟨hb.trans h.1, h.2⟩
  | dead => trivial

structure Rel (P : Program) (θ : Th) (H : Heap) (w : World) : Prop where
  obj : ∀ i o, H.get i = some o → o.live = true → ∃ p, θ i = some p ∧ OR P θ w p o
  dom : ∀ i p, θ i = some p → i < H.next ∧ p.blk < w.heap.size
  inj : ∀ i j p q oi oj, H.get i = some oi → H.get j = some oj → oi.live = true → oj.live = true → θ i = some p → θ j = some q → i ≠ j → p.rw = true → p.blk ≠ q.blk

/-- What a step does to the concrete world: new places are new blocks or taken over; blocks that stand for no written object lie as they lay. -/
structure Stp (θ : Th) (w : World) (θ' : Th) (w' : World) : Prop where
  ext : Ext θ θ'
  new : ∀ i p, θ' i = some p → θ i = some p ∨ (p.rw = true ∧ (w.heap.size ≤ p.blk ∨ ∃ j q, θ j = some q ∧ q.rw = true ∧ q.blk = p.blk))
  size : w.heap.size ≤ w'.heap.size
  frame : ∀ b, b < w.heap.size → (∀ i p, θ i = some p → p.rw = true → p.blk ≠ b) → w'.heap[b]? = w.heap[b]?
  os : w'.os = w.os
  tape : w'.tape = w.tape
  output : w'.output = w.output

theorem Stp.refl (θ : Th) (w : World) : Stp θ w θ w := ⟨Ext.refl θ, fun _ _ h => .inl h, Nat.le_refl _, fun _ _ _ => rfl, rfl, rfl, rfl⟩

theorem Stp.trans {θ θ₁ θ₂ : Th} {w w₁ w₂ : World} (h : Stp θ w θ₁ w₁) (k : Stp θ₁ w₁ θ₂ w₂) : Stp θ w θ₂ w₂ := by
  refine ⟨h.ext.trans k.ext, ?_, Nat.le_trans h.size k.size, ?_, k.os.trans h.os, k.tape.trans h.tape, k.output.trans h.output⟩
  · intro i p hp
    rcases k.new i p hp with h1 | ⟨hrw, h1 | ⟨j, q, hj, hq, hb⟩⟩
    · exact h.new i p h1
    · exact .inr ⟨hrw, .inl (Nat.le_trans h.size h1)⟩
    · rcases h.new j q hj with h2 | ⟨_, h2 | ⟨j', q', hj', hq', hb'⟩⟩
      · exact .inr ⟨hrw, .inr ⟨j, q, h2, hq, hb⟩⟩
      · exact .inr ⟨hrw, .inl (hb ▸ h2)⟩
      · exact .inr ⟨hrw, .inr ⟨j', q', hj', hq', hb'.trans hb⟩⟩
  · intro b hb hno
    rw [k.frame b (Nat.lt_of_lt_of_le hb h.size) ?_, h.frame b hb hno]
    intro i p hp hrw hpb
    rcases h.new i p hp with h1 | ⟨_, h1 | ⟨j, q, hj, hq, hbq⟩⟩
    · exact hno i p h1 hrw hpb
    · omega
    · exact hno j q hj hq (hbq.trans hpb)

/-- A draw changes nothing that is related. -/
theorem Rel.drew {P : Program} {θ : Th} {H : Heap} {w : World} (h : Rel P θ H w) : Rel P θ H { w with drawn := w.drawn + 1 } :=
  ⟨fun i o hi ho => let ⟨p, a, b⟩ := h.obj i o hi ho; ⟨p, a, b.ext (Ext.refl _) rfl⟩, h.dom, h.inj⟩
theorem Stp.drew (θ : Th) (w : World) : Stp θ w θ { w with drawn := w.drawn + 1 } := ⟨Ext.refl θ, fun _ _ h => .inl h, Nat.le_refl _, fun _ _ _ => rfl, rfl, rfl, rfl⟩

def Th.put (θ : Th) (i : Nat) (p : Pl) : Th := fun j => if j = i then some p else θ j

theorem Th.put_same (θ : Th) (i : Nat) (p : Pl) : θ.put i p i = some p := by simp [Th.put]
theorem Th.ext_put {θ : Th} {i : Nat} {p : Pl} (h : θ i = none) : Ext θ (θ.put i p) := by
  intro j q hq
  by_cases e : j = i
  · subst e; rw [h] at hq; cases hq
  · simp [Th.put, e, hq]

theorem Rel.fresh {P : Program} {θ : Th} {H : Heap} {w : World} (h : Rel P θ H w) : θ H.next = none := by
  cases e : θ H.next with
  | none => rfl
  | some p => exact absurd (h.dom _ _ e).1 (Nat.lt_irrefl _)

theorem heap_alloc_lt (w : World) (o : Obj) (k : Nat) (h : k < w.heap.size) : (w.alloc o).heap[k]? = w.heap[k]? := RowKit.Below.heap_alloc w o k h

/-- A new block for a new object. -/
theorem Rel.alloc {P : Program} {θ : Th} {H : Heap} {w : World} (h : Rel P θ H w) (o : AO) (ob : Obj) (p : Pl) (hp : p.blk = w.heap.size) (hrw : p.rw = true)
    (ho : OR P (θ.put H.next p) (w.alloc ob) p o) :
    Rel P (θ.put H.next p) (H.alloc o) (w.alloc ob) ∧ Stp θ w (θ.put H.next p) (w.alloc ob) := by
  have he : Ext θ (θ.put H.next p) := Th.ext_put h.fresh
  refine ⟨⟨?_, ?_, ?_⟩, ⟨he, ?_, by simp, ?_, rfl, rfl, rfl⟩⟩
  · intro i x hi hx
    rw [Heap.get_alloc] at hi
    by_cases e : i = H.next
    · subst e; simp at hi; subst hi
      exact ⟨p, Th.put_same _ _ _, ho⟩
    · simp [e] at hi
      obtain ⟨q, hq, hor⟩ := h.obj i x hi hx
      exact ⟨q, he _ _ hq, hor.ext he (heap_alloc_lt w ob _ (h.dom _ _ hq).2)⟩
  · intro i q hq
    by_cases e : i = H.next
    · subst e
      rw [Th.put_same] at hq; cases hq
      exact ⟨by simp, by simp [hp]⟩
    · simp [Th.put, e] at hq
      have := h.dom i q hq
      exact ⟨by simp; omega, by simp; omega⟩
  · intro i j p1 q1 oi oj hi hj li lj hpi hqj hne hrw1
    rw [Heap.get_alloc] at hi hj
    by_cases ei : i = H.next
    · by_cases ej : j = H.next
      · omega
      · simp [Th.put, ej] at hqj
        subst ei
        rw [Th.put_same] at hpi; cases hpi
        have := (h.dom j q1 hqj).2
        omega
    · simp [Th.put, ei] at hpi
      simp [ei] at hi
      by_cases ej : j = H.next
      · subst ej
        rw [Th.put_same] at hqj; cases hqj
        have := (h.dom i p1 hpi).2
        omega
      · simp [Th.put, ej] at hqj
        simp [ej] at hj
        exact h.inj i j p1 q1 oi oj hi hj li lj hpi hqj hne hrw1
  · intro i q hq
    by_cases e : i = H.next
    · subst e
      rw [Th.put_same] at hq; cases hq
      exact .inr ⟨hrw, .inl (by omega)⟩
    · simp [Th.put, e] at hq
      exact .inl hq
  · intro b hb _
    exact heap_alloc_lt w ob b hb

/-- An object that is written. -/
theorem Rel.write {P : Program} {θ : Th} {H : Heap} {w : World} (h : Rel P θ H w) {i : Nat} {o o' : AO} {p : Pl} (hi : H.get i = some o) (hl : o.live = true)
    (hp : θ i = some p) (hrw : p.rw = true) {w' : World} (hsz : w'.heap.size = w.heap.size) (hw : ∀ b, b ≠ p.blk → w'.heap[b]? = w.heap[b]?)
    (hos : w'.os = w.os) (htape : w'.tape = w.tape) (hout : w'.output = w.output) (ho : OR P θ w' p o') :
    Rel P θ (H.set i o') w' ∧ Stp θ w θ w' := by
  refine ⟨⟨?_, ?_, ?_⟩, ⟨Ext.refl θ, fun _ _ h => .inl h, by omega, ?_, hos, htape, hout⟩⟩
  · intro j x hj hx
    rw [Heap.get_set] at hj
    by_cases e : j = i
    · subst e; simp at hj; subst hj; exact ⟨p, hp, ho⟩
    · simp [e] at hj
      obtain ⟨q, hq, hor⟩ := h.obj j x hj hx
      have hne : q.blk ≠ p.blk := fun hb => h.inj i j p q o x hi hj hl hx hp hq (fun e' => e e'.symm) hrw hb.symm
      exact ⟨q, hq, hor.ext (Ext.refl _) (hw _ hne)⟩
  · intro j q hq
    have := h.dom j q hq
    exact ⟨this.1, by omega⟩
  · intro a b pa pb oa ob ha hb la lb hpa hpb hne hr
    rw [Heap.get_set] at ha hb
    by_cases ea : a = i
    · by_cases eb : b = i
      · omega
      · simp [eb] at hb
        subst ea
        rw [hp] at hpa; cases hpa
        exact h.inj a b p pb o ob hi hb hl lb hp hpb hne hr
    · simp [ea] at ha
      by_cases eb : b = i
      · subst eb
        rw [hp] at hpb; cases hpb
        exact h.inj a b pa p oa o ha hi la hl hpa hp hne hr
      · simp [eb] at hb
        exact h.inj a b pa pb oa ob ha hb la lb hpa hpb hne hr
  · intro b _ hno
    exact hw b (fun e => hno i p hp hrw e.symm)

end Go.Xe
/- An executable reading of the model's code over an abstract heap (part 2): the operations that change no memory, and that the model's own run of each agrees. Conditions: none; definitions and lemmas for every program. -/
namespace Go.Xe
open Go

/-- Values without an address. -/
def atomV : Value → Bool
  | .bool _ | .int _ _ | .float _ _ | .string _ | .pointer none | .slice none _ _ | .map none | .nilFunc | .nilIface => true
  | _ => false
def plainV : Value → Bool
  | .agg cs => cs.toList.all atomV
  | .tuple vs => vs.toList.all atomV
  | v => atomV v

theorem VR.atom {θ : Th} {v : Value} (h : atomV v = true) : VR θ v v := by
  cases v with
  | bool b => exact .bool b
  | int k n => exact .int k n
  | float k b => exact .float k b
  | string s => exact .string s
  | pointer a => cases a with
    | none => exact .pnil
    | some a => simp [atomV] at h
  | slice a n c => cases a with
    | none => exact .snil n c
    | some a => simp [atomV] at h
  | map r => cases r with
    | none => exact .mnil
    | some a => simp [atomV] at h
  | nilFunc => exact .nilFunc
  | nilIface => exact .nilIface
  | _ => simp [atomV] at h

theorem AR.atoms {θ : Th} {a : Array Value} (h : a.toList.all atomV = true) : AR θ a a := by
  refine ⟨rfl, fun i v w hv hw => ?_⟩
  rw [hv] at hw; cases hw
  refine VR.atom (List.all_eq_true.1 h v ?_)
  exact Array.mem_toList_iff.2 (Array.mem_of_getElem? hv)

theorem VR.plain {θ : Th} {v : Value} (h : plainV v = true) : VR θ v v := by
  cases v with
  | agg cs => exact .agg rfl (AR.atoms (θ := θ) h).2
  | tuple cs => exact .tuple rfl (AR.atoms (θ := θ) h).2
  | bool b => exact .bool b
  | int k n => exact .int k n
  | float k b => exact .float k b
  | string s => exact .string s
  | pointer a => exact VR.atom h
  | slice a n c => exact VR.atom h
  | map r => exact VR.atom h
  | nilFunc => exact .nilFunc
  | nilIface => exact .nilIface
  | complex _ _ _ => simp [plainV, atomV] at h
  | chan _ => simp [plainV, atomV] at h
  | func _ _ _ => simp [plainV, atomV] at h
  | iface _ _ => simp [plainV, atomV] at h

def top : Value := .chan none

def xwrap (k : IntKind) (n : Int) : Int := k.wrap n

def xbin (P : Program) (op : BinOp) (t : TypeId) (x y : Value) : Option Value :=
  match op, x, y with
  | .shl, .int k a, .int _ b => if b < 0 then none else some (.int k (k.wrap (a * 2 ^ (min b.toNat k.bits))))
  | .shr, .int k a, .int _ b => if b < 0 then none else some (.int k (a.fdiv (2 ^ (min b.toNat k.bits))))
  | op, .int k a, .int k' b =>
    if k ≠ k' then none else
    match op with
    | .add => some (.int k (k.wrap (a + b)))
    | .sub => some (.int k (k.wrap (a - b)))
    | .mul => some (.int k (k.wrap (a * b)))
    | .quo => if b = 0 then none else some (.int k (k.wrap (a.tdiv b)))
    | .rem => if b = 0 then none else some (.int k (a.tmod b))
    | .and => some (.int k (k.wrap (BitVec.ofInt k.bits a &&& BitVec.ofInt k.bits b).toNat))
    | .or => some (.int k (k.wrap (BitVec.ofInt k.bits a ||| BitVec.ofInt k.bits b).toNat))
    | .xor => some (.int k (k.wrap (BitVec.ofInt k.bits a ^^^ BitVec.ofInt k.bits b).toNat))
    | .andNot => some (.int k (k.wrap (BitVec.ofInt k.bits a &&& ~~~ BitVec.ofInt k.bits b).toNat))
    | .eql => some (.bool (a == b))
    | .neq => some (.bool (a != b))
    | .lss => some (.bool (decide (a < b)))
    | .leq => some (.bool (decide (a ≤ b)))
    | .gtr => some (.bool (decide (a > b)))
    | .geq => some (.bool (decide (a ≥ b)))
    | _ => none
  | .eql, .bool a, .bool b => match P.underlying t with
    | some .bool => some (.bool (a == b))
    | _ => none
  | .neq, .bool a, .bool b => match P.underlying t with
    | some .bool => some (.bool (!(a == b)))
    | _ => none
  | _, _, _ => none

theorem int_eqGuard {P : Program} {w : World} {op : BinOp} {t : TypeId} {x y : Operand} {k k' : IntKind} {a b : Int} : (eqGuard op t x y (.int k a) (.int k' b)).run P w = .ok () w := by
  unfold eqGuard; cases op <;> rfl
theorem bool_eqGuard {P : Program} {w : World} {op : BinOp} {t : TypeId} {x y : Operand} {a b : Bool} : (eqGuard op t x y (.bool a) (.bool b)).run P w = .ok () w := by
  unfold eqGuard; cases op <;> rfl

theorem eql_bool {P : Program} {t : TypeId} {a b : Bool} (hu : P.underlying t = some .bool) (w : World) : (binOp .eql t (.bool a) (.bool b)).run P w = .ok (.bool (a == b)) w := by
  show (do pure (.bool (← Op.equalIn (9999 + 1) t (.bool a) (.bool b))) : Sem Value).run P w = _
  simp only [Sem.run_bind, run_equalIn_bool w 9999 t a b hu, Result.andThen_ok, Sem.run_pure]
theorem neq_bool {P : Program} {t : TypeId} {a b : Bool} (hu : P.underlying t = some .bool) (w : World) : (binOp .neq t (.bool a) (.bool b)).run P w = .ok (.bool (!(a == b))) w := by
  show (do pure (.bool (!(← Op.equalIn (9999 + 1) t (.bool a) (.bool b)))) : Sem Value).run P w = _
  simp only [Sem.run_bind, run_equalIn_bool w 9999 t a b hu, Result.andThen_ok, Sem.run_pure]

theorem xbin_ok {P : Program} {θ : Th} {op : BinOp} {t : TypeId} {x y : Value} {x' y' : Value} {ox oy : Operand} {v : Value} (h : xbin P op t x y = some v)
    (hx : VR θ x x') (hy : VR θ y y') (w : World) : ∃ v', (do eqGuard op t ox oy x' y'; binOp op t x' y' : Sem Value).run P w = .ok v' w ∧ VR θ v v' := by
  cases hx with
  | int k a =>
    cases hy with
    | int k' b =>
      simp only [Sem.run_bind, int_eqGuard, Result.andThen_ok]
      cases op with
      | shl =>
        simp only [xbin] at h
        split at h
        · cases h
        · cases h
          rename_i hb
          refine ⟨_, ?_, .int _ _⟩
          simp only [binOp, Op.shift, if_neg hb]; rfl
      | shr =>
        simp only [xbin] at h
        split at h
        · cases h
        · cases h
          rename_i hb
          refine ⟨_, ?_, .int _ _⟩
          simp only [binOp, Op.shift, if_neg hb]; rfl
      | quo =>
        simp only [xbin] at h
        split at h
        · cases h
        · rename_i hk
          split at h
          · cases h
          · cases h
            rename_i hb
            refine ⟨_, ?_, .int _ _⟩
            simp only [binOp, Op.intDiv, if_neg hk, if_neg hb]; rfl
      | rem =>
        simp only [xbin] at h
        split at h
        · cases h
        · rename_i hk
          split at h
          · cases h
          · cases h
            rename_i hb
            refine ⟨_, ?_, .int _ _⟩
            simp only [binOp, Op.intDiv, if_neg hk, if_neg hb]; rfl
      | _ =>
        simp only [xbin] at h
        split at h
        · cases h
        · cases h
          rename_i hk
          refine ⟨_, ?_, by first | exact .int _ _ | exact .bool _⟩
          simp only [binOp, if_neg hk]; rfl
    | _ => cases op <;> simp [xbin] at h
  | bool a =>
    cases hy with
    | bool b =>
      simp only [Sem.run_bind, bool_eqGuard, Result.andThen_ok]
      cases op with
      | eql =>
        simp only [xbin] at h
        split at h
        · cases h
          rename_i hu
          exact ⟨_, eql_bool hu w, .bool _⟩
        · cases h
      | neq =>
        simp only [xbin] at h
        split at h
        · cases h
          rename_i hu
          exact ⟨_, neq_bool hu w, .bool _⟩
        · cases h
      | _ => simp [xbin] at h
    | _ => cases op <;> simp [xbin] at h
  | _ => cases op <;> simp [xbin] at h

def xun (op : UnOp) (x : Value) : Option Value :=
  match op, x with
  | .neg, .int k n => some (.int k (k.wrap (0 - n)))
  | .not, .bool b => some (.bool !b)
  | _, _ => none

theorem xun_ok {P : Program} {θ : Th} {op : UnOp} {x x' v : Value} (h : xun op x = some v) (hx : VR θ x x') (w : World) : ∃ v', (Op.unary op x').run P w = .ok v' w ∧ VR θ v v' := by
  cases hx <;> cases op <;> simp only [xun] at h <;> first | (cases h; done) | (cases h; exact ⟨_, rfl, by first | exact .bool _ | exact .int _ _⟩)

def xconv (P : Program) (src dst : TypeId) (x : Value) : Option Value :=
  match x with
  | .int _ n => match P.underlying src, P.underlying dst with
    | some _, some (.int k) => some (.int k (k.wrap n))
    | _, _ => none
  | _ => none

theorem xconv_ok {P : Program} {θ : Th} {src dst : TypeId} {x x' v : Value} (h : xconv P src dst x = some v) (hx : VR θ x x') (w : World) :
    ∃ v', (convert src dst x').run P w = .ok v' w ∧ VR θ v v' := by
  cases hx <;> simp only [xconv] at h <;> try (cases h; done)
  split at h
  · cases h
    rename_i hs hd
    refine ⟨_, ?_, .int _ _⟩
    simp [convert, run_underlying hs, run_underlying hd, Conv.intToInt]
  · cases h

/-! fill, of related cells -/
theorem AR.setMany {θ : Th} (off : Nat) : ∀ (l : List Value) (l' : List Value) (n : Nat), l.length = l'.length → (∀ (i : Nat) (v w : Value), l[i]? = some v → l'[i]? = some w → VR θ v w) →
    ∀ {a a' : Array Value}, AR θ a a' → AR θ ((l.zipIdx n).foldl (fun cs (c, j) => cs.setIfInBounds (off + j) c) a) ((l'.zipIdx n).foldl (fun cs (c, j) => cs.setIfInBounds (off + j) c) a') := by
  intro l
  induction l with
  | nil => intro l' n hl _ a a' ha; cases l' with
    | nil => simpa using ha
    | cons _ _ => simp at hl
  | cons x l ih =>
    intro l' n hl h a a' ha
    cases l' with
    | nil => simp at hl
    | cons y l' =>
      simp only [List.zipIdx_cons, List.foldl_cons]
      exact ih l' (n + 1) (by simpa using hl) (fun i v w hv hw => h (i + 1) v w (by simpa using hv) (by simpa using hw)) (ha.set (h 0 x y rfl rfl) _)

inductive PartsR (θ : Th) : List (Nat × Value) → List (Nat × Value) → Prop
  | nil : PartsR θ [] []
  | cons {x y : Nat × Value} {l l' : List (Nat × Value)} (h : x.1 = y.1 ∧ VR θ x.2 y.2 ∧ x.2 ≠ .chan none) (t : PartsR θ l l') : PartsR θ (x :: l) (y :: l')

theorem fill_rel {θ : Th} (place : Nat → Option (Nat × Nat)) : ∀ (l l' : List (Nat × Value)) (cs cs' r : Array Value), AR θ cs cs' →
    PartsR θ l l' → Instr.fill place cs l = some r → ∃ r', Instr.fill place cs' l' = some r' ∧ AR θ r r' := by
  intro l
  induction l with
  | nil =>
    intro l' cs cs' r hc hl h
    cases hl
    simp only [Instr.fill] at h; cases h
    exact ⟨cs', rfl, hc⟩
  | cons x l ih =>
    intro l' cs cs' r hc hl h
    cases hl with
    | cons hx hrest =>
      rename_i y l'
      obtain ⟨i, v⟩ := x
      obtain ⟨i', v'⟩ := y
      obtain ⟨rfl, hv, hne⟩ := hx
      have hcells := hv.cells hne
      simp only [Instr.fill] at h ⊢
      split at h
      · cases h
      · rename_i off size hp
        dsimp only at hcells
        rw [← hcells.1, ← hc.1]
        split at h
        · cases h
        · rename_i hn
          rw [if_neg hn]
          have e1 := Array.foldl_toList (xs := v.cells.zipIdx) (f := fun cs (x : Value × Nat) => cs.setIfInBounds (off + x.2) x.1) (init := cs)
          have e2 := Array.foldl_toList (xs := v'.cells.zipIdx) (f := fun cs (x : Value × Nat) => cs.setIfInBounds (off + x.2) x.1) (init := cs')
          refine ih l' _ _ r ?_ hrest h
          rw [← e1, ← e2, Array.toList_zipIdx, Array.toList_zipIdx]
          exact AR.setMany off _ _ 0 (by simpa using hcells.1) (fun j a b ha hb => hcells.2 j a b (by simpa using ha) (by simpa using hb)) hc

def notTop : Value → Bool
  | .chan none => false
  | _ => true
theorem notTop_ne {v : Value} (h : notTop v = true) : v ≠ .chan none := by intro e; subst e; simp [notTop] at h

/-- Parts that are all known, evaluated. -/
def xparts (ρ : Operand → Value) (parts : Array (Nat × Operand)) : List (Nat × Value) := parts.toList.map fun x => (x.1, ρ x.2)

theorem parts_rel {θ : Th} {ρ ρ' : Operand → Value} (hρ : ∀ x, VR θ (ρ x) (ρ' x)) (parts : List (Nat × Operand)) (h : (parts.map fun x => (x.1, ρ x.2)).all (fun x => notTop x.2) = true) :
    PartsR θ (parts.map fun x => (x.1, ρ x.2)) (parts.map fun x => (x.1, ρ' x.2)) := by
  induction parts with
  | nil => exact .nil
  | cons x l ih =>
    simp only [List.map_cons, List.all_cons, Bool.and_eq_true] at h
    exact .cons ⟨rfl, hρ _, notTop_ne h.1⟩ (ih h.2)

def xbuild (P : Program) (t : TypeId) (parts : List (Nat × Value)) : Option Value :=
  match P.info? t, P.underlying t with
  | some it, some (.array _ e) =>
    match it.zero, P.info? e with
    | some z, some ie => if plainV z && parts.all (fun x => notTop x.2) then (Instr.fill (fun i => some (i * ie.size, ie.size)) z.cells parts).map .agg else none
    | _, _ => none
  | some it, some (.struct fields) =>
    match it.zero, fields.toList.mapM (fun f => (P.info? f.type).map fun i => (f.offset, i.size)) with
    | some z, some places => if plainV z && parts.all (fun x => notTop x.2) then (Instr.fill (places.toArray[·]?) z.cells parts).map .agg else none
    | _, _ => none
  | _, _ => none

theorem plain_cells {θ : Th} {z : Value} (h : plainV z = true) : AR θ z.cells z.cells :=
  (VR.plain h).cells (fun e => by subst e; simp [plainV, atomV] at h)

theorem xbuild_ok {P : Program} {θ : Th} {ρ ρ' : Operand → Value} {t : TypeId} {parts : Array (Nat × Operand)} {v : Value} (h : xbuild P t (xparts ρ parts) = some v)
    (hρ : ∀ x, VR θ (ρ x) (ρ' x)) (w : World) : ∃ v', (Instr.build t (parts.map fun (i, x) => (i, ρ' x))).run P w = .ok v' w ∧ VR θ v v' := by
  have key : ∃ cells : Array Value, P.built t (parts.map fun (i, x) => (i, ρ' x)).toList = some cells ∧ VR θ v (.agg cells) := by
    unfold xbuild at h
    unfold Program.built
    have hl : (parts.map fun (i, x) => (i, ρ' x)).toList = parts.toList.map fun x => (x.1, ρ' x.2) := by simp
    rw [hl]
    split at h
    · rename_i it _ e hi hu
      rw [hi, hu]
      simp only
      split at h
      · rename_i z ie hz hie
        rw [hz, hie]
        simp only
        split at h
        · rename_i hc
          simp only [Bool.and_eq_true] at hc
          simp only [Option.map_eq_some_iff] at h
          obtain ⟨cs, hcs, rfl⟩ := h
          obtain ⟨r', hr', har⟩ := fill_rel _ _ _ _ z.cells _ (plain_cells hc.1) (parts_rel hρ parts.toList hc.2) hcs
          exact ⟨r', hr', .agg har.1 har.2⟩
        · cases h
      · cases h
    · rename_i it fields hi hu
      rw [hi, hu]
      simp only
      split at h
      · rename_i z places hz hp
        rw [hz, hp]
        simp only
        split at h
        · rename_i hc
          simp only [Bool.and_eq_true] at hc
          simp only [Option.map_eq_some_iff] at h
          obtain ⟨cs, hcs, rfl⟩ := h
          obtain ⟨r', hr', har⟩ := fill_rel _ _ _ _ z.cells _ (plain_cells hc.1) (parts_rel hρ parts.toList hc.2) hcs
          exact ⟨r', hr', .agg har.1 har.2⟩
        · cases h
      · cases h
    · cases h
  obtain ⟨cells, hb, hv⟩ := key
  exact ⟨.agg cells, run_build w t _ cells hb, hv⟩

theorem addr_add (b o n : Nat) : (⟨b, o, none⟩ : Addr).add n = ⟨b, o + n, none⟩ := by
  unfold Addr.add; split
  · rename_i h; subst h; rfl
  · rfl

/-- A part of an aggregate. -/
def xpart (P : Program) (t : TypeId) (cs : Array Value) (off : Nat) : Option Value :=
  match P.underlying t, P.info? t with
  | some (.struct _), some i | some (.array _ _), some i => some (.agg (cs.extract off (off + i.size)))
  | some _, some _ => cs[off]?
  | _, _ => none

theorem run_isAgg {P : Program} {t : TypeId} {d : TypeDesc} (h : P.underlying t = some d) (w : World) :
    (isAgg t).run P w = .ok (match d with | .struct _ | .array _ _ => true | _ => false) w := by
  simp only [isAgg, Sem.run_bind, run_underlying h, Result.andThen_ok]
  cases d <;> rfl
theorem run_sizeOf' {P : Program} {t : TypeId} {i : TypeInfo} (h : P.info? t = some i) (w : World) : (sizeOf t).run P w = .ok i.size w := by simp [sizeOf, typeInfo, h]
theorem run_typeInfo' {P : Program} {t : TypeId} {i : TypeInfo} (h : P.info? t = some i) (w : World) : (typeInfo t).run P w = .ok i w := by simp [typeInfo, h]
theorem run_zeroValue' {P : Program} {t : TypeId} {i : TypeInfo} {z : Value} (h : P.info? t = some i) (hz : i.zero = some z) (w : World) : (zeroValue t).run P w = .ok z w := by simp [zeroValue, typeInfo, h, hz]

theorem xpart_ok {P : Program} {θ : Th} {t : TypeId} {cs cs' : Array Value} {off : Nat} {v : Value} (h : xpart P t cs off = some v) (hc : AR θ cs cs') (w : World) :
    ∃ v', (part t cs' off).run P w = .ok v' w ∧ VR θ v v' := by
  unfold xpart at h
  split at h
  · cases h
    rename_i hu hi
    have := hc.extract off (off + TypeInfo.size (by assumption))
    exact ⟨_, by simp [part, run_isAgg hu, run_sizeOf' hi], .agg this.1 this.2⟩
  · cases h
    rename_i hu hi
    have := hc.extract off (off + TypeInfo.size (by assumption))
    exact ⟨_, by simp [part, run_isAgg hu, run_sizeOf' hi], .agg this.1 this.2⟩
  · rename_i d i hns hna hu hi
    obtain ⟨v', hv', hr⟩ := hc.get h
    refine ⟨v', ?_, hr⟩
    have : (isAgg t).run P w = .ok false w := by
      rw [run_isAgg hu]
      cases d <;> first | rfl | (exact absurd rfl (hns _)) | (exact absurd rfl (hna _ _))
    simp [part, this, hv']
  · cases h

end Go.Xe
/- An executable reading of the model's code over an abstract heap (part 3): addresses, slices, and the whole of the operations that change no memory and read none. Conditions: none. -/
namespace Go.Xe
open Go

def xfieldAddr (P : Program) (s : TypeId) (x : Value) (f : Nat) : Option Value :=
  match x, P.underlying s with
  | .pointer (some ⟨i, o, none⟩), some (.struct fields) =>
    match fields[f]? with
    | some fd => match P.info? fd.type with
      | some inf => if inf.size = 0 then none else some (.pointer (some ⟨i, o + fd.offset, none⟩))
      | none => none
    | none => none
  | _, _ => none

theorem xfieldAddr_ok {P : Program} {θ : Th} {s : TypeId} {x x' v : Value} {f : Nat} (h : xfieldAddr P s x f = some v) (hx : VR θ x x') (w : World) :
    ∃ v', (Instr.fieldAt s x' f).run P w = .ok v' w ∧ VR θ v v' := by
  cases hx with
  | ptr hp =>
    rename_i i o p
    cases hu : P.underlying s with
    | none => simp [xfieldAddr, hu] at h
    | some d =>
      cases d <;> try (simp [xfieldAddr, hu] at h; done)
      rename_i fields
      simp only [xfieldAddr, hu] at h
      split at h
      · rename_i fd hfd
        split at h
        · rename_i inf hinf
          split at h
          · cases h
          · rename_i hs
            cases h
            refine ⟨_, ?_, .ptr hp⟩
            simp [Instr.fieldAt, run_underlying hu, hfd, Instr.sureAddr, fieldPlace, run_sizeOf' hinf, hs, addr_add, Nat.add_assoc]
        · cases h
      · cases h
  | _ => simp [xfieldAddr] at h

def xindexAddr (P : Program) (t : TypeId) (x ix : Value) : Option Value :=
  match ix with
  | .int _ n =>
    match x, P.underlying t with
    | .slice (some ⟨i, o, none⟩) len _, some (.slice e) => match P.info? e with
      | some inf => if 0 ≤ n ∧ n < (len : Int) then some (.pointer (some ⟨i, o + n.toNat * inf.size, none⟩)) else none
      | none => none
    | .pointer (some ⟨i, o, none⟩), some (.array len e) => match P.info? e with
      | some inf => if 0 ≤ n ∧ n < (len : Int) then some (.pointer (some ⟨i, o + n.toNat * inf.size, none⟩)) else none
      | none => none
    | _, _ => none
  | _ => none

theorem xindexAddr_ok {P : Program} {θ : Th} {t : TypeId} {x x' ix ix' v : Value} (h : xindexAddr P t x ix = some v) (hx : VR θ x x') (hi : VR θ ix ix') (w : World) :
    ∃ v', (Instr.indexAt t x' ix').run P w = .ok v' w ∧ VR θ v v' := by
  cases hi with
  | int k n =>
    cases hu : P.underlying t with
    | none => cases hx <;> simp [xindexAddr, hu] at h
    | some d =>
      cases hx with
      | slice hp hn hc hs =>
        cases d <;> try (simp [xindexAddr, hu] at h; done)
        rename_i e
        simp only [xindexAddr, hu] at h
        split at h
        · rename_i inf hinf
          split at h
          · rename_i hb
            cases h
            refine ⟨_, ?_, .ptr hp⟩
            simp [Instr.indexAt, asIntOf, run_underlying hu, hb, run_sizeOf' hinf, addr_add, Nat.add_assoc]
          · cases h
        · cases h
      | ptr hp =>
        cases d <;> try (simp [xindexAddr, hu] at h; done)
        simp only [xindexAddr, hu] at h
        split at h
        · rename_i inf hinf
          split at h
          · rename_i hb
            cases h
            refine ⟨_, ?_, .ptr hp⟩
            simp [Instr.indexAt, asIntOf, Instr.sureAddr, run_underlying hu, hb, run_sizeOf' hinf, addr_add, Nat.add_assoc]
          · cases h
        · cases h
      | _ => simp [xindexAddr] at h
  | _ => simp [xindexAddr] at h

def xfield (P : Program) (t : TypeId) (x : Value) (f : Nat) : Option Value :=
  match x, P.underlying t with
  | .agg cs, some (.struct fields) => match fields[f]? with
    | some fd => xpart P fd.type cs fd.offset
    | none => none
  | _, _ => none

theorem xfield_ok {P : Program} {θ : Th} {t : TypeId} {x x' v : Value} {f : Nat} (h : xfield P t x f = some v) (hx : VR θ x x') (w : World) :
    ∃ v', (Instr.field t x' f).run P w = .ok v' w ∧ VR θ v v' := by
  cases hx with
  | agg h1 h2 =>
    cases hu : P.underlying t with
    | none => simp [xfield, hu] at h
    | some d =>
      cases d <;> try (simp [xfield, hu] at h; done)
      simp only [xfield, hu] at h
      split at h
      · rename_i fd hfd
        obtain ⟨v', hr, hv⟩ := xpart_ok h ⟨h1, h2⟩ w
        exact ⟨v', by simp [Instr.field, run_underlying hu, hfd, asAgg, hr], hv⟩
      · cases h
  | _ => simp [xfield] at h

def xindex (P : Program) (t : TypeId) (x ix : Value) : Option Value :=
  match ix, x, P.underlying t with
  | .int _ n, .agg cs, some (.array len e) => match P.info? e with
    | some inf => if 0 ≤ n ∧ n < (len : Int) then xpart P e cs (n.toNat * inf.size) else none
    | none => none
  | .int _ n, .string s, some .string => if 0 ≤ n then match s.data.toList[n.toNat]? with
    | some b => some (.int .u8 (b.toNat : Int))
    | none => none
    else none
  | _, _, _ => none

theorem xindex_ok {P : Program} {θ : Th} {t : TypeId} {x x' ix ix' v : Value} (h : xindex P t x ix = some v) (hx : VR θ x x') (hi : VR θ ix ix') (w : World) :
    ∃ v', (Instr.index t x' ix').run P w = .ok v' w ∧ VR θ v v' := by
  cases hi with
  | int k n =>
    cases hx with
    | agg h1 h2 =>
      cases hu : P.underlying t with
      | none => simp [xindex, hu] at h
      | some d =>
        cases d <;> try (simp [xindex, hu] at h; done)
        simp only [xindex, hu] at h
        split at h
        · rename_i inf hinf
          split at h
          · rename_i hb
            obtain ⟨v', hr, hv⟩ := xpart_ok h ⟨h1, h2⟩ w
            exact ⟨v', by simp [Instr.index, asIntOf, run_underlying hu, hb, run_sizeOf' hinf, hr], hv⟩
          · cases h
        · cases h
    | string s =>
      cases hu : P.underlying t with
      | none => simp [xindex, hu] at h
      | some d =>
        cases d <;> try (simp [xindex, hu] at h; done)
        simp only [xindex, hu] at h
        split at h
        · rename_i hn
          split at h
          · rename_i b hb
            cases h
            have hb' : s[n.toNat]? = some b := by
              rw [← hb]; simp [getElem?_def]; rfl
            exact ⟨_, by simp [Instr.index, asIntOf, run_underlying hu, hn, hb'], .int _ _⟩
          · cases h
        · cases h
    | _ => simp [xindex] at h
  | _ => simp [xindex] at h

def xextract (x : Value) (ix : Nat) : Option Value :=
  match x with
  | .tuple vs => vs[ix]?
  | _ => none

theorem xextract_ok {P : Program} {θ : Th} {x x' v : Value} {ix : Nat} (h : xextract x ix = some v) (hx : VR θ x x') (w : World) :
    ∃ v', (Instr.extract x' ix).run P w = .ok v' w ∧ VR θ v v' := by
  cases hx with
  | tuple h1 h2 =>
    obtain ⟨v', hv', hr⟩ := AR.get ⟨h1, h2⟩ h
    exact ⟨v', by simp [Instr.extract, hv'], hr⟩
  | _ => simp [xextract] at h

def xbound (x : Option Value) (d y : Nat) : Option Nat :=
  match x with
  | none => some d
  | some (.int _ n) => if 0 ≤ n ∧ n ≤ (y : Int) then some n.toNat else none
  | _ => none

/-- x[lo:hi] of a slice: hi at most its length, so that no capacity is looked at but is handed on. -/
def xslice (P : Program) (t : TypeId) (x : Value) (lo hi mx : Option Value) : Option Value :=
  match mx, x, P.underlying t with
  | none, .slice a len cap, some (.slice e) => match P.info? e, xbound hi len len with
    | some inf, some h => match xbound lo 0 h with
      | some l => match a with
        | some ⟨i, o, none⟩ => if cap = l then some (.slice (some ⟨i, o, some 0⟩) 0 0) else some (.slice (some ⟨i, o + l * inf.size, none⟩) (h - l) (cap - l))
        | some ⟨i, o, some s⟩ => some (.slice (some ⟨i, o, some s⟩) 0 0)
        | none => if len = 0 ∧ l = 0 ∧ h = 0 ∧ cap = 0 then some (.slice none 0 0) else none
      | none => none
    | _, _ => none
  | none, .string s, some .string => match xbound hi s.size s.size with
    | some h => match xbound lo 0 h with
      | some l => some (.string (s.extract l h))
      | none => none
    | none => none
  | none, .pointer (some ⟨i, o, none⟩), some (.array n e) => match P.info? e, xbound hi n n with
    | some inf, some h => match xbound lo 0 h with
      | some l => if n = l then some (.slice (some ⟨i, o, some 0⟩) 0 0) else some (.slice (some ⟨i, o + l * inf.size, none⟩) (h - l) (n - l))
      | none => none
    | _, _ => none
  | _, _, _ => none

inductive OV (θ : Th) : Option Value → Option Value → Prop
  | none : OV θ none none
  | some {v w : Value} (h : VR θ v w) : OV θ (some v) (some w)

theorem OV.map {θ : Th} {ρ ρ' : Operand → Value} (hρ : ∀ x, VR θ (ρ x) (ρ' x)) (x : Option Operand) : OV θ (x.map ρ) (x.map ρ') := by
  cases x with
  | none => exact .none
  | some x => exact .some (hρ x)

theorem run_bound {P : Program} {θ : Th} {x x' : Option Value} {d y r : Nat} {y' : Nat} {code : BoundsCode} (h : xbound x d y = some r) (hx : OV θ x x') (hy : y ≤ y') (w : World) :
    (match x' with | some v => Instr.sliceBound v y' code | none => pure d : Sem Nat).run P w = .ok r w := by
  cases hx with
  | none => simp only [xbound] at h; cases h; rfl
  | some hv =>
    cases hv with
    | int k n =>
      simp only [xbound] at h
      split at h
      · rename_i hb
        cases h
        have hb' : 0 ≤ n ∧ n ≤ (y' : Int) := ⟨hb.1, by omega⟩
        simp [Instr.sliceBound, asIntOf, hb']
      · cases h
    | _ => simp [xbound] at h

theorem xbound_le {x : Option Value} {d y r : Nat} (h : xbound x d y = some r) (hd : d ≤ y) : r ≤ y := by
  unfold xbound at h
  split at h
  · cases h; exact hd
  · split at h
    · cases h; omega
    · cases h
  · cases h


theorem run_bounds {P : Program} {θ : Th} {lo hi lo' hi' : Option Value} {len y cap' l h : Nat} {isSlice : Bool} (hh : xbound hi len y = some h) (hl : xbound lo 0 h = some l) (hy : y ≤ cap')
    (hlo : OV θ lo lo') (hhi : OV θ hi hi') (w : World) : (Instr.sliceBounds isSlice len cap' lo' hi' none).run P w = .ok (l, h, cap') w := by
  have e1 := fun code => run_bound (P := P) (code := code) hh hhi hy w
  have e2 := fun code => run_bound (P := P) (code := code) hl hlo (Nat.le_refl _) w
  simp only [Instr.sliceBounds, Sem.run_bind, Result.andThen_ok, Sem.run_pure, Option.isSome_none, Bool.false_eq_true, if_false]
  cases hhi with
  | none =>
    have a1 := e1 .index
    simp only [Sem.run_pure, Result.ok.injEq, and_true] at a1
    subst a1
    cases hlo with
    | none =>
      have a2 := e2 .index
      simp only [Sem.run_pure, Result.ok.injEq, and_true] at a2
      subst a2
      simp
    | some hv => simp [e2]
  | some hv' =>
    cases hlo with
    | none =>
      have a2 := e2 .index
      simp only [Sem.run_pure, Result.ok.injEq, and_true] at a2
      subst a2
      simp [e1]
    | some hv => simp [e1, e2]

theorem xslice_ok {P : Program} {θ : Th} {t : TypeId} {x x' v : Value} {lo hi mx lo' hi' mx' : Option Value} (h : xslice P t x lo hi mx = some v)
    (hx : VR θ x x') (hlo : OV θ lo lo') (hhi : OV θ hi hi') (hmx : OV θ mx mx')
    (hst : ∀ i o n c p e inf, x = .slice (some ⟨i, o, none⟩) n c → θ i = some p → p.rw = true → P.underlying t = some (.slice e) → P.info? e = some inf → p.st = inf.size) (w : World) :
    ∃ v', (Instr.sliceAt t x' lo' hi' mx').run P w = .ok v' w ∧ VR θ v v' := by
  cases hmx with
  | some _ => cases x <;> simp [xslice] at h
  | none =>
    cases hu : P.underlying t with
    | none => cases hx <;> simp [xslice, hu] at h
    | some d =>
      cases hx with
      | string s =>
        cases d <;> try (simp [xslice, hu] at h; done)
        simp only [xslice, hu] at h
        split at h
        · rename_i hh hhh
          split at h
          · rename_i l hl
            cases h
            refine ⟨_, ?_, .string _⟩
            simp [Instr.sliceAt, run_underlying hu, Instr.slice, run_bounds hhh hl (Nat.le_refl _) hlo hhi]
          · cases h
        · cases h
      | snil n c =>
        cases d <;> try (simp [xslice, hu] at h; done)
        simp only [xslice, hu] at h
        split at h
        · rename_i inf hh hinf hhh
          split at h
          · rename_i l hl
            split at h
            · rename_i hz
              obtain ⟨rfl, rfl, rfl, rfl⟩ := hz
              cases h
              refine ⟨_, ?_, .snil _ _⟩
              simp [Instr.sliceAt, run_underlying hu, Instr.slice, run_bounds hhh hl (Nat.le_refl _) hlo hhi, run_sizeOf' hinf]
            · cases h
          · cases h
        · cases h
      | slice hp hn hc hs =>
        rename_i i o n c c' p
        cases d <;> try (simp [xslice, hu] at h; done)
        rename_i e
        simp only [xslice, hu] at h
        split at h
        · rename_i inf hh hinf hhh
          split at h
          · rename_i l hl
            have h1 := xbound_le hhh (Nat.le_refl _)
            have h2 := xbound_le hl (Nat.zero_le _)
            split at h
            · rename_i hcl
              cases h
              refine ⟨_, ?_, .sempty _ _ _ (if c' = l then ⟨p.blk, p.base + o, none⟩ else ⟨p.blk, p.base + o + l * inf.size, none⟩) (c' - l)⟩
              have e0 : hh - l = 0 := by omega
              simp only [Instr.sliceAt, Sem.run_bind, run_underlying hu, Result.andThen_ok, Instr.slice, run_bounds hhh hl (show n ≤ c' by omega) hlo hhi, run_sizeOf' hinf, Sem.run_pure, e0]
              split <;> simp [addr_add]
            · rename_i hcl
              cases h
              have hcl' : c' ≠ l := by omega
              have hst' := hst i o n c p e inf rfl hp
              refine ⟨_, ?_, .slice hp (by omega) (show c - l ≤ c' - l by omega) (fun hrw => ?_)⟩
              · simp [Instr.sliceAt, run_underlying hu, Instr.slice, run_bounds hhh hl (show n ≤ c' by omega) hlo hhi, run_sizeOf' hinf, hcl', addr_add, Nat.add_assoc]
              · have h3 := hs hrw
                rw [hst' hrw hu hinf] at h3 ⊢
                have : (c' - l) * inf.size + l * inf.size = c' * inf.size := by rw [← Nat.add_mul]; congr 1; omega
                omega
          · cases h
        · cases h
      | sempty i o s a c =>
        cases d <;> try (simp [xslice, hu] at h; done)
        rename_i e
        simp only [xslice, hu] at h
        split at h
        · rename_i inf hh hinf hhh
          split at h
          · rename_i l hl
            have h1 := xbound_le hhh (Nat.le_refl _)
            have h2 := xbound_le hl (Nat.zero_le _)
            obtain rfl : hh = 0 := by omega
            obtain rfl : l = 0 := by omega
            cases h
            refine ⟨_, ?_, .sempty i o s (if c = 0 then a else a.add 0) c⟩
            simp only [Instr.sliceAt, Sem.run_bind, run_underlying hu, Result.andThen_ok, Instr.slice, run_bounds hhh hl (show 0 ≤ c by omega) hlo hhi, run_sizeOf' hinf, Sem.run_pure]
            split <;> simp
          · cases h
        · cases h
      | ptr hp =>
        rename_i i o p
        cases d <;> try (simp [xslice, hu] at h; done)
        rename_i n e
        simp only [xslice, hu] at h
        split at h
        · rename_i inf hh hinf hhh
          split at h
          · rename_i l hl
            have h1 := xbound_le hhh (Nat.le_refl _)
            have h2 := xbound_le hl (Nat.zero_le _)
            split at h
            · rename_i hcl
              cases h
              refine ⟨_, ?_, .sempty _ _ _ ⟨p.blk, p.base + o, none⟩ 0⟩
              have e0 : hh - l = 0 := by omega
              subst hcl
              simp [Instr.sliceAt, Instr.sureAddr, run_underlying hu, run_bounds hhh hl (Nat.le_refl _) hlo hhi, run_sizeOf' hinf, e0]
            · rename_i hcl
              cases h
              refine ⟨_, ?_, .slice hp (by omega) (Nat.le_refl _) (fun _ => .inl rfl)⟩
              simp [Instr.sliceAt, Instr.sureAddr, run_underlying hu, run_bounds hhh hl (Nat.le_refl _) hlo hhi, run_sizeOf' hinf, hcl, addr_add, Nat.add_assoc]
          · cases h
        · cases h
      | _ => cases d <;> simp [xslice] at h
end Go.Xe
