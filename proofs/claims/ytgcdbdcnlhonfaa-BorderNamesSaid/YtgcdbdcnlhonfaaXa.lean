/- An executable reading of the model's code over an abstract heap (part 1): tries, abstract objects, the relation between abstract and concrete values and heaps, and how a step may change the concrete world. Conditions: none; these are definitions and lemmas for every program. -/
import Derived.CallsIn
import Derived.RangeFuncLeaves
import Derived.RangeFuncRecord
import Derived.RangeFuncCalls
import Derived.Below
import GoSem.ClaimKeys
namespace Go.Xe
open Go
inductive Tr (α : Type) where
 | nil
 | node (v : Option α) (l r : Tr α)
def Tr.get {α : Type} : Tr α→Nat→Option α
 | .nil,_=>none
 | .node v _ _,0=>v
 | .node _ l r,m+1=>match Nat.beq (m%2) 0 with
  | true=>l.get (m/2)
  | false=>r.get (m/2)
def Tr.setF {α : Type} (x : α) : Nat→Tr α→Nat→Tr α
 | 0,t,_=>t
 | _+1,.nil,0=>.node (some x) .nil .nil
 | f+1,.nil,m+1=>match Nat.beq (m%2) 0 with
  | true=>.node none (Tr.setF x f .nil (m/2)) .nil
  | false=>.node none .nil (Tr.setF x f .nil (m/2))
 | _+1,.node _ l r,0=>.node (some x) l r
 | f+1,.node v l r,m+1=>match Nat.beq (m%2) 0 with
  | true=>.node v (Tr.setF x f l (m/2)) r
  | false=>.node v l (Tr.setF x f r (m/2))
theorem Tr.get_nil {α : Type} (n : Nat) : (Tr.nil : Tr α).get n=none:=by cases n<;>rfl
theorem Tr.get_setF {α : Type} (x : α) : ∀ (f : Nat) (t : Tr α) (n m : Nat),n<f→(t.setF x f n).get m=if m=n then some x else t.get m:=by
 intro f
 induction f with
 | zero=>intro t n m h;omega
 | succ f ih=>
  intro t n m h
  cases t with
  | nil=>
   cases n with
   | zero=>
    cases m with
    | zero=>simp[Tr.setF,Tr.get]
    | succ m=>rw[if_neg (by omega),Tr.get_nil];simp only[Tr.setF,Tr.get];cases Nat.beq (m%2) 0<;>rfl
   | succ n=>
    have hlt : n/2<f:=by omega
    by_cases hb : n%2=0
    ·have hb' : Nat.beq (n%2) 0=true:=by rw[hb];rfl
     simp only[Tr.setF,hb']
     cases m with
     | zero=>simp[Tr.get]
     | succ m=>
      by_cases hm : m%2=0
      ·have hm' : Nat.beq (m%2) 0=true:=by rw[hm];rfl
       simp only[Tr.get,hm',ih _ _ _ hlt]
       have : (m/2=n/2)↔(m+1=n+1):=by omega
       simp[this]
      ·have hm' : Nat.beq (m%2) 0=false:=by
        have : m%2=1:=by omega
        rw[this];rfl
       simp only[Tr.get,hm']
       have : ¬ (m+1=n+1):=by omega
       rw[if_neg this]
    ·have hb1 : n%2=1:=by omega
     have hb' : Nat.beq (n%2) 0=false:=by rw[hb1];rfl
     simp only[Tr.setF,hb']
     cases m with
     | zero=>simp[Tr.get]
     | succ m=>
      by_cases hm : m%2=0
      ·have hm' : Nat.beq (m%2) 0=true:=by rw[hm];rfl
       have : ¬ (m+1=n+1):=by omega
       rw[if_neg this]
       simp only[Tr.get,hm']
      ·have hm' : Nat.beq (m%2) 0=false:=by
        have : m%2=1:=by omega
        rw[this];rfl
       simp only[Tr.get,hm',ih _ _ _ hlt]
       have : (m/2=n/2)↔(m+1=n+1):=by omega
       simp[this]
  | node v l r=>
   cases n with
   | zero=>cases m<;>simp[Tr.setF,Tr.get]
   | succ n=>
    have hlt : n/2<f:=by omega
    by_cases hb : n%2=0
    ·have hb' : Nat.beq (n%2) 0=true:=by rw[hb];rfl
     simp only[Tr.setF,hb']
     cases m with
     | zero=>simp[Tr.get]
     | succ m=>
      by_cases hm : m%2=0
      ·have hm' : Nat.beq (m%2) 0=true:=by rw[hm];rfl
       simp only[Tr.get,hm',ih _ _ _ hlt]
       have : (m/2=n/2)↔(m+1=n+1):=by omega
       simp[this]
      ·have hm' : Nat.beq (m%2) 0=false:=by
        have : m%2=1:=by omega
        rw[this];rfl
       simp only[Tr.get,hm']
       have : ¬ (m+1=n+1):=by omega
       rw[if_neg this]
    ·have hb1 : n%2=1:=by omega
     have hb' : Nat.beq (n%2) 0=false:=by rw[hb1];rfl
     simp only[Tr.setF,hb']
     cases m with
     | zero=>simp[Tr.get]
     | succ m=>
      by_cases hm : m%2=0
      ·have hm' : Nat.beq (m%2) 0=true:=by rw[hm];rfl
       simp only[Tr.get,hm']
       have : ¬ (m+1=n+1):=by omega
       rw[if_neg this]
      ·have hm' : Nat.beq (m%2) 0=false:=by
        have : m%2=1:=by omega
        rw[this];rfl
       simp only[Tr.get,hm',ih _ _ _ hlt]
       have : (m/2=n/2)↔(m+1=n+1):=by omega
       simp[this]
inductive AO where
 | cells (c : Array Value) (el : TypeId) (rw : Bool)
 | map (kt : TypeId) (es : Array MapEntry) (clock : Nat)
 | loop (r : Loop)
 | deferred (fresh : Bool)
 | dead
 | lent (c : Array Value) (el : TypeId) (k : Nat)
def AO.live : AO→Bool
 | .dead=>false
 | .lent ..=>false
 | _=>true
structure Heap where
 next : Nat
 t : Tr AO
def Heap.get (H : Heap) (i : Nat) : Option AO:=H.t.get i
def Heap.set (H : Heap) (i : Nat) (o : AO) : Heap:={ H with t:=H.t.setF o (i+1) i }
def Heap.alloc (H : Heap) (o : AO) : Heap:={ next:=H.next+1,t:=H.t.setF o (H.next+1) H.next }
def Heap.empty : Heap:={ next:=0,t:=.nil }
theorem Heap.get_set (H : Heap) (i j : Nat) (o : AO) : (H.set i o).get j=if j=i then some o else H.get j:=
 Tr.get_setF o (i+1) H.t i j (Nat.lt_succ_self i)
theorem Heap.get_alloc (H : Heap) (j : Nat) (o : AO) : (H.alloc o).get j=if j=H.next then some o else H.get j:=
 Tr.get_setF o (H.next+1) H.t H.next j (Nat.lt_succ_self _)
@[simp] theorem Heap.next_set (H : Heap) (i : Nat) (o : AO) : (H.set i o).next=H.next:=rfl
@[simp] theorem Heap.next_alloc (H : Heap) (o : AO) : (H.alloc o).next=H.next+1:=rfl
structure Pl where
 blk : Nat
 base : Nat
 sz : Nat
 st : Nat
 rw : Bool
abbrev Th:=Nat→Option Pl
inductive FnR (θ : Th) : Fn→Fn→Prop
 | same (f : Fn) (h : ∀ l,f≠.yield l) : FnR θ f f
 | yield {l : Nat} {p : Pl} (h : θ l=some p) : FnR θ (.yield l) (.yield p.blk)
inductive VR (θ : Th) : Value→Value→Prop
 | top (v : Value) : VR θ (.chan none) v
 | bool (b : Bool) : VR θ (.bool b) (.bool b)
 | int (k : IntKind) (n : Int) : VR θ (.int k n) (.int k n)
 | float (k : FloatKind) (b : Nat) : VR θ (.float k b) (.float k b)
 | string (s : ByteArray) : VR θ (.string s) (.string s)
 | pnil : VR θ (.pointer none) (.pointer none)
 | ptr {i o : Nat} {p : Pl} (h : θ i=some p) : VR θ (.pointer (some ⟨i,o,none⟩)) (.pointer (some ⟨p.blk,p.base+o,none⟩))
 | snil (n c : Nat) : VR θ (.slice none n c) (.slice none n c)
 | slice {i o n c c' : Nat} {p : Pl} (h : θ i=some p) (hn : n≤c) (hc : c≤c') (hs : p.rw=true→c'=c∨p.base+o+c'*p.st≤p.sz) :
   VR θ (.slice (some ⟨i,o,none⟩) n c) (.slice (some ⟨p.blk,p.base+o,none⟩) n c')
 | sempty (i o s : Nat) (a : Addr) (c : Nat) : VR θ (.slice (some ⟨i,o,some s⟩) 0 0) (.slice (some a) 0 c)
 | mnil : VR θ (.map none) (.map none)
 | map {i : Nat} {p : Pl} (h : θ i=some p) : VR θ (.map (some i)) (.map (some p.blk))
 | nilFunc : VR θ .nilFunc .nilFunc
 | nilIface : VR θ .nilIface .nilIface
 | func {f f' : Fn} {a a' b b' : Array Value} (hf : FnR θ f f') (h1 : a.size=a'.size) (h2 : ∀ (i : Nat) (v w : Value),a[i]?=some v→a'[i]?=some w→VR θ v w)
   (h3 : b.size=b'.size) (h4 : ∀ (i : Nat) (v w : Value),b[i]?=some v→b'[i]?=some w→VR θ v w) : VR θ (.func f a b) (.func f' a' b')
 | iface (t : TypeId) {v w : Value} (h : VR θ v w) : VR θ (.iface t v) (.iface t w)
 | agg {a a' : Array Value} (h1 : a.size=a'.size) (h2 : ∀ (i : Nat) (v w : Value),a[i]?=some v→a'[i]?=some w→VR θ v w) : VR θ (.agg a) (.agg a')
 | tuple {a a' : Array Value} (h1 : a.size=a'.size) (h2 : ∀ (i : Nat) (v w : Value),a[i]?=some v→a'[i]?=some w→VR θ v w) : VR θ (.tuple a) (.tuple a')
def AR (θ : Th) (a a' : Array Value) : Prop:=a.size=a'.size∧∀ (i : Nat) (v w : Value),a[i]?=some v→a'[i]?=some w→VR θ v w
def Ext (θ θ' : Th) : Prop:=∀ i p,θ i=some p→θ' i=some p
theorem Ext.refl (θ : Th) : Ext θ θ:=fun _ _ h=>h
theorem Ext.trans {a b c : Th} (h : Ext a b) (k : Ext b c) : Ext a c:=fun i p hp=>k i p (h i p hp)
theorem FnR.ext {θ θ' : Th} {f f' : Fn} (h : FnR θ f f') (e : Ext θ θ') : FnR θ' f f':=by
 cases h with
 | same _ h=>exact .same _ h
 | yield h=>exact .yield (e _ _ h)
theorem VR.ext {θ θ' : Th} (e : Ext θ θ') {v w : Value} (h : VR θ v w) : VR θ' v w:=by
 induction h with
 | top v=>exact .top v
 | bool b=>exact .bool b
 | int k n=>exact .int k n
 | float k b=>exact .float k b
 | string s=>exact .string s
 | pnil=>exact .pnil
 | ptr h=>exact .ptr (e _ _ h)
 | snil n c=>exact .snil n c
 | slice h hn hc hs=>exact .slice (e _ _ h) hn hc hs
 | sempty i o s a c=>exact .sempty i o s a c
 | mnil=>exact .mnil
 | map h=>exact .map (e _ _ h)
 | nilFunc=>exact .nilFunc
 | nilIface=>exact .nilIface
 | func hf h1 _ h3 _ ih2 ih4=>exact .func (hf.ext e) h1 ih2 h3 ih4
 | iface t _ ih=>exact .iface t ih
 | agg h1 _ ih=>exact .agg h1 ih
 | tuple h1 _ ih=>exact .tuple h1 ih
theorem AR.ext {θ θ' : Th} (e : Ext θ θ') {a a' : Array Value} (h : AR θ a a') : AR θ' a a':=⟨h.1,fun i v w hv hw=>(h.2 i v w hv hw).ext e⟩
theorem AR.get {θ : Th} {a a' : Array Value} (h : AR θ a a') {i : Nat} {v : Value} (hv : a[i]?=some v) : ∃ w,a'[i]?=some w∧VR θ v w:=by
 obtain⟨hi,_⟩:=Array.getElem?_eq_some_iff.1 hv
 have hi' : i<a'.size:=h.1 ▸ hi
 exact⟨a'[i],Array.getElem?_eq_getElem hi',h.2 i v _ hv (Array.getElem?_eq_getElem hi')⟩
theorem AR.getD {θ : Th} {a a' : Array Value} (h : AR θ a a') (i : Nat) : VR θ (a.getD i undef) (a'.getD i undef):=by
 simp only[Array.getD_eq_getD_getElem?]
 cases hv : a[i]? with
 | some v=>obtain⟨w,hw,hr⟩:=h.get hv;rw[hw];exact hr
 | none=>
  have : a'[i]?=none:=by rw[Array.getElem?_eq_none_iff] at hv ⊢;rw[← h.1];exact hv
  rw[this]
  exact .tuple rfl (fun i v w hv=>by simp at hv)
theorem VR.undef {θ : Th} : VR θ undef undef:=.tuple rfl (fun i v w hv=>by simp at hv)
theorem AR.set {θ : Th} {a a' : Array Value} (h : AR θ a a') {v v' : Value} (hv : VR θ v v') (i : Nat) : AR θ (a.setIfInBounds i v) (a'.setIfInBounds i v'):=by
 refine⟨by simp[h.1],fun j x y hx hy=>?_⟩
 rw[Array.getElem?_setIfInBounds] at hx hy
 by_cases e : i=j
 ·subst e
  by_cases hl : i<a.size
  ·have hl' : i<a'.size:=h.1 ▸ hl
   simp[hl] at hx;simp[hl'] at hy
   subst hx;subst hy;exact hv
  ·simp[hl] at hx
 ·simp[e] at hx hy
  exact h.2 j x y (by simpa using hx) (by simpa using hy)
theorem AR.append {θ : Th} {a a' b b' : Array Value} (h : AR θ a a') (k : AR θ b b') : AR θ (a++b) (a'++b'):=by
 refine⟨by simp[h.1,k.1],fun j x y hx hy=>?_⟩
 rw[Array.getElem?_append] at hx hy
 rw[← h.1] at hy
 by_cases hl : j<a.size
 ·simp[hl] at hx hy
  exact h.2 j x y (by simpa [Array.getElem?_eq_getElem hl] using hx) (by simpa using hy)
 ·simp[hl] at hx hy
  exact k.2 _ x y hx hy
theorem AR.nil {θ : Th} : AR θ #[] #[]:=⟨rfl,fun i v w hv=>by simp at hv⟩
theorem AR.one {θ : Th} {v w : Value} (h : VR θ v w) : AR θ #[v] #[w]:=⟨rfl,fun i x y hx hy=>by
 cases i with
 | zero=>simp at hx hy;subst hx;subst hy;exact h
 | succ i=>simp at hx⟩
theorem AR.replicate {θ : Th} (n : Nat) {v w : Value} (h : VR θ v w) : AR θ (Array.replicate n v) (Array.replicate n w):=by
 refine⟨by simp,fun i x y hx hy=>?_⟩
 rw[Array.getElem?_replicate] at hx hy
 by_cases hl : i<n
 ·simp[hl] at hx hy;subst hx;subst hy;exact h
 ·simp[hl] at hx
theorem AR.push {θ : Th} {a a' : Array Value} (h : AR θ a a') {v w : Value} (k : VR θ v w) : AR θ (a.push v) (a'.push w):=by
 have:=h.append (AR.one k)
 simpa using this
theorem AR.extract {θ : Th} {a a' : Array Value} (h : AR θ a a') (i j : Nat) : AR θ (a.extract i j) (a'.extract i j):=by
 refine⟨by simp[h.1],fun k x y hx hy=>?_⟩
 rw[Array.getElem?_extract] at hx hy
 rw[← h.1] at hy
 split at hx
 ·rename_i hl;rw[if_pos hl] at hy
  exact h.2 _ x y hx hy
 ·cases hx
theorem AR.map {θ : Th} {β : Type} (f g : β→Value) (l : Array β) (h : ∀ x,VR θ (f x) (g x)) : AR θ (l.map f) (l.map g):=by
 refine⟨by simp,fun i x y hx hy=>?_⟩
 rw[Array.getElem?_map] at hx hy
 cases hl : l[i]? with
 | none=>rw[hl] at hx;simp at hx
 | some z=>
  rw[hl] at hx hy;simp at hx hy
  subst hx;subst hy;exact h z
theorem VR.cells {θ : Th} {v w : Value} (h : VR θ v w) (ht : v≠.chan none) : AR θ v.cells w.cells:=by
 cases h with
 | top=>exact absurd rfl ht
 | agg h1 h2=>exact⟨h1,h2⟩
 | bool b=>exact AR.one (.bool b)
 | int k n=>exact AR.one (.int k n)
 | float k n=>exact AR.one (.float k n)
 | string s=>exact AR.one (.string s)
 | pnil=>exact AR.one .pnil
 | ptr h=>exact AR.one (.ptr h)
 | snil n c=>exact AR.one (.snil n c)
 | slice h a b c=>exact AR.one (.slice h a b c)
 | sempty i o s a c=>exact AR.one (.sempty i o s a c)
 | mnil=>exact AR.one .mnil
 | map h=>exact AR.one (.map h)
 | nilFunc=>exact AR.one .nilFunc
 | nilIface=>exact AR.one .nilIface
 | func a b c d e=>exact AR.one (.func a b c d e)
 | iface t h=>exact AR.one (.iface t h)
 | tuple h1 h2=>exact AR.one (.tuple h1 h2)
def Thaw (fz : Nat×Nat) (n : Nat) : Prop:=fz=(0,0)∨n≤fz.1
def OR (P : Program) (θ : Th) (w : World) (p : Pl) : AO→Prop
 | .cells c el rw=>∃ c' el' fz,w.heap[p.blk]?=some (.cells c' el' fz)∧p.rw=rw∧(rw=true→el'=el∧Thaw fz c'.size∧c'.size=p.sz∧p.st=P.cellsOf el) ∧
   ∀ (k : Nat) (v : Value),c[k]?=some v→∃ v',c'[p.base+k]?=some v'∧VR θ v v'
 | .map kt es clock=>∃ es',w.heap[p.blk]?=some (.map es' clock)∧p.rw=true∧es.size=es'.size∧es'.toList.Pairwise (fun a b=>a.key≠b.key) ∧
   ∀ (k : Nat) (e e' : MapEntry),es[k]?=some e→es'[k]?=some e'→e.key=e'.key∧(keyOf P kt e.key).isSome=true∧VR θ e.val e'.val
 | .loop r=>∃ r' : Loop,w.heap[p.blk]?=some (.loop r')∧p.rw=true∧r'.state=r.state∧r'.pending=r.pending∧AR θ r.tmps r'.tmps ∧
   r'.params=r.params∧r'.assign=r.assign∧r'.body=r.body∧∃ pd,θ r.defers=some pd∧r'.defers=pd.blk
 | .deferred fresh=>w.heap[p.blk]?=some (.deferred (if fresh then some [] else none))∧p.rw=true
 | .dead=>True
 | .lent ..=>True
theorem OR.ext {P : Program} {θ θ' : Th} {w w' : World} {p : Pl} {o : AO} (h : OR P θ w p o) (e : Ext θ θ') (hb : w'.heap[p.blk]?=w.heap[p.blk]?) : OR P θ' w' p o:=by
 cases o with
 | cells c el rw=>
  obtain⟨c',el',fz,h1,h2,h3,h4⟩:=h
  exact⟨c',el',fz,hb.trans h1,h2,h3,fun k v hv=>let ⟨v',a,b⟩:=h4 k v hv;⟨v',a,b.ext e⟩⟩
 | map kt es clock=>
  obtain⟨es',h1,h2,h3,h5,h4⟩:=h
  exact⟨es',hb.trans h1,h2,h3,h5,fun k x y hx hy=>let ⟨a,b,c⟩:=h4 k x y hx hy;⟨a,b,c.ext e⟩⟩
 | loop r=>
  obtain⟨r',h1,h2,h3,h4,h5,h6,h7,h8,pd,h9,h10⟩:=h
  exact⟨r',hb.trans h1,h2,h3,h4,h5.ext e,h6,h7,h8,pd,e _ _ h9,h10⟩
 | deferred f=>exact⟨hb.trans h.1,h.2⟩
 | dead=>trivial
 | lent c el k=>trivial
inductive Val (H : Heap) : Nat→Prop
 | live {i : Nat} {o : AO} (h : H.get i=some o) (hl : o.live=true) : Val H i
 | lent {i k : Nat} {c : Array Value} {el : TypeId} (h : H.get i=some (.lent c el k)) (hk : Val H k) : Val H i
theorem Val.sub {H H' : Heap} {S : Nat→Prop} (h : ∀ i,S i→∀ o,H'.get i=some o→Val H i∨(∃ c el k,o=.lent c el k∧S k∧(Val H k→Val H i))∨(o.live=false∧∀ c el k,o≠.lent c el k)) :
  ∀ {i : Nat},Val H' i→S i→Val H i:=by
 intro i hv
 induction hv with
 | live hg hl=>
  intro hs
  rcases h _ hs _ hg with h1|⟨c,el,k,rfl,_⟩|⟨h1,_⟩
  ·exact h1
  ·cases hl
  ·rw[h1] at hl;cases hl
 | lent hg _ ih=>
  intro hs
  rcases h _ hs _ hg with h1|⟨c,el,k,e,h1,h2⟩|⟨_,h1⟩
  ·exact h1
  ·cases e;exact h2 (ih h1)
  ·exact absurd rfl (h1 _ _ _)
def Cont (P : Program) (θ : Th) (w : World) (p : Pl) (c : Array Value) (el : TypeId) : Prop:=∃ c' fz,w.heap[p.blk]?=some (.cells c' el fz)∧Thaw fz c'.size∧c'.size=p.sz∧p.st=P.cellsOf el ∧
 ∀ (k : Nat) (v : Value),c[k]?=some v→∃ v',c'[p.base+k]?=some v'∧VR θ v v'
theorem Cont.ext {P : Program} {θ θ' : Th} {w w' : World} {p : Pl} {c : Array Value} {el : TypeId} (h : Cont P θ w p c el) (e : Ext θ θ') (hb : w'.heap[p.blk]?=w.heap[p.blk]?) : Cont P θ' w' p c el:=by
 obtain⟨c',fz,h1,h2,h3,h4,h5⟩:=h
 exact⟨c',fz,hb.trans h1,h2,h3,h4,fun k v hv=>let ⟨v',a,b⟩:=h5 k v hv;⟨v',a,b.ext e⟩⟩
structure Own (P : Program) (θ : Th) (H : Heap) (w : World) (ow : Nat→Option Nat) : Prop where
 rwo : ∀ i o p,H.get i=some o→o.live=true→θ i=some p→p.rw=true→ow p.blk=some i
 roo : ∀ i o p,H.get i=some o→o.live=true→θ i=some p→p.rw=false→ow p.blk=none
 len : ∀ i c el k,H.get i=some (.lent c el k)→i<k∧k<H.next∧(Val H k→∃ p pk,θ i=some p∧θ k=some pk∧p.rw=true∧pk.rw=true∧((p.blk=pk.blk∧pk.base=p.base∧pk.sz=p.sz∧pk.st=p.st)∨(ow p.blk=some i∧Cont P θ w p c el)))
structure Rel (P : Program) (θ : Th) (H : Heap) (w : World) : Prop where
 obj : ∀ i o,H.get i=some o→o.live=true→∃ p,θ i=some p∧OR P θ w p o
 dom : ∀ i p,θ i=some p→i<H.next∧p.blk<w.heap.size
 own : ∃ ow,Own P θ H w ow
theorem Rel.inj {P : Program} {θ : Th} {H : Heap} {w : World} (h : Rel P θ H w) : ∀ i j p q oi oj,H.get i=some oi→H.get j=some oj→oi.live=true→oj.live=true→θ i=some p→θ j=some q→i≠j→p.rw=true→p.blk≠q.blk:=by
 intro i j p q oi oj hi hj li lj hp hq hne hrw hb
 obtain⟨ow,ho⟩:=h.own
 have h1:=ho.rwo i oi p hi li hp hrw
 cases hr : q.rw with
 | true=>
  have h2:=ho.rwo j oj q hj lj hq hr
  rw[← hb,h1] at h2
  exact hne (Option.some.inj h2)
 | false=>
  have h2:=ho.roo j oj q hj lj hq hr
  rw[← hb,h1] at h2
  cases h2
theorem Own.ro {P : Program} {θ : Th} {H : Heap} {w : World} (hθ : ∀ i p,θ i=some p→p.rw=false) (hl : ∀ i c el k,H.get i≠some (.lent c el k)) : Own P θ H w (fun _=>none):=
 ⟨fun i _ p _ _ hp hr=>(by rw[hθ i p hp] at hr;cases hr),fun _ _ _ _ _ _ _=>rfl,fun i c el k h=>absurd h (hl i c el k)⟩
theorem Own.same {P : Program} {θ : Th} {H : Heap} {w w' : World} {ow : Nat→Option Nat} (h : Own P θ H w ow) (hw : ∀ i q,θ i=some q→w'.heap[q.blk]?=w.heap[q.blk]?) : Own P θ H w' ow:=by
 refine⟨h.rwo,h.roo,fun i c el k hg=>?_⟩
 obtain⟨h1,h2,h3⟩:=h.len i c el k hg
 refine⟨h1,h2,fun hv=>?_⟩
 obtain⟨p,pk,a1,a2,a3,a4,a5⟩:=h3 hv
 exact⟨p,pk,a1,a2,a3,a4,a5.imp id fun ⟨b1,b2⟩=>⟨b1,b2.ext (Ext.refl θ) (hw _ _ a1)⟩⟩
structure Stp (θ : Th) (w : World) (θ' : Th) (w' : World) : Prop where
 ext : Ext θ θ'
 new : ∀ i p,θ' i=some p→θ i=some p∨(p.rw=true∧(w.heap.size≤p.blk∨∃ j q,θ j=some q∧q.rw=true∧q.blk=p.blk))
 size : w.heap.size≤w'.heap.size
 frame : ∀ b,b<w.heap.size→(∀ i p,θ i=some p→p.rw=true→p.blk≠b)→w'.heap[b]?=w.heap[b]?
 os : w'.os=w.os
 tape : w'.tape=w.tape
 output : w'.output=w.output
theorem Stp.refl (θ : Th) (w : World) : Stp θ w θ w:=⟨Ext.refl θ,fun _ _ h=>.inl h,Nat.le_refl _,fun _ _ _=>rfl,rfl,rfl,rfl⟩
theorem Stp.trans {θ θ₁ θ₂ : Th} {w w₁ w₂ : World} (h : Stp θ w θ₁ w₁) (k : Stp θ₁ w₁ θ₂ w₂) : Stp θ w θ₂ w₂:=by
 refine⟨h.ext.trans k.ext,?_,Nat.le_trans h.size k.size,?_,k.os.trans h.os,k.tape.trans h.tape,k.output.trans h.output⟩
 ·intro i p hp
  rcases k.new i p hp with h1|⟨hrw,h1|⟨j,q,hj,hq,hb⟩⟩
  ·exact h.new i p h1
  ·exact .inr ⟨hrw,.inl (Nat.le_trans h.size h1)⟩
  ·rcases h.new j q hj with h2|⟨_,h2|⟨j',q',hj',hq',hb'⟩⟩
   ·exact .inr ⟨hrw,.inr ⟨j,q,h2,hq,hb⟩⟩
   ·exact .inr ⟨hrw,.inl (hb ▸ h2)⟩
   ·exact .inr ⟨hrw,.inr ⟨j',q',hj',hq',hb'.trans hb⟩⟩
 ·intro b hb hno
  rw[k.frame b (Nat.lt_of_lt_of_le hb h.size) ?_,h.frame b hb hno]
  intro i p hp hrw hpb
  rcases h.new i p hp with h1|⟨_,h1|⟨j,q,hj,hq,hbq⟩⟩
  ·exact hno i p h1 hrw hpb
  ·omega
  ·exact hno j q hj hq (hbq.trans hpb)
theorem Rel.drew {P : Program} {θ : Th} {H : Heap} {w : World} (h : Rel P θ H w) : Rel P θ H { w with drawn:=w.drawn+1 }:=
 ⟨fun i o hi ho=>let ⟨p,a,b⟩:=h.obj i o hi ho;⟨p,a,b.ext (Ext.refl _) rfl⟩,h.dom,h.own.imp fun _ k=>k.same fun _ _ _=>rfl⟩
theorem Stp.drew (θ : Th) (w : World) : Stp θ w θ { w with drawn:=w.drawn+1 }:=⟨Ext.refl θ,fun _ _ h=>.inl h,Nat.le_refl _,fun _ _ _=>rfl,rfl,rfl,rfl⟩
def Th.put (θ : Th) (i : Nat) (p : Pl) : Th:=fun j=>if j=i then some p else θ j
theorem Th.put_same (θ : Th) (i : Nat) (p : Pl) : θ.put i p i=some p:=by simp[Th.put]
theorem Th.ext_put {θ : Th} {i : Nat} {p : Pl} (h : θ i=none) : Ext θ (θ.put i p):=by
 intro j q hq
 by_cases e : j=i
 ·subst e;rw[h] at hq;cases hq
 ·simp[Th.put,e,hq]
theorem Rel.fresh {P : Program} {θ : Th} {H : Heap} {w : World} (h : Rel P θ H w) : θ H.next=none:=by
 cases e : θ H.next with
 | none=>rfl
 | some p=>exact absurd (h.dom _ _ e).1 (Nat.lt_irrefl _)
theorem heap_alloc_lt (w : World) (o : Obj) (k : Nat) (h : k<w.heap.size) : (w.alloc o).heap[k]?=w.heap[k]?:=RowKit.Below.heap_alloc w o k h
theorem Val.alloc {P : Program} {θ : Th} {H : Heap} {w : World} {ow : Nat→Option Nat} (h : Own P θ H w ow) {o : AO} {i : Nat} (hv : Val (H.alloc o) i) (hi : i<H.next) : Val H i:=
 Val.sub (S:=(·<H.next)) (fun j hj x hx=>by
  rw[Heap.get_alloc,if_neg (by omega)] at hx
  cases x with
  | lent c el k=>exact .inr (.inl ⟨c,el,k,rfl,(h.len _ _ _ _ hx).2.1,fun hk=>.lent hx hk⟩)
  | dead=>exact .inr (.inr ⟨rfl,fun _ _ _ e=>by cases e⟩)
  | _=>exact .inl (.live hx rfl)) hv hi
theorem Own.add {P : Program} {θ : Th} {H : Heap} {w w' : World} {ow : Nat→Option Nat} (h : Own P θ H w ow) (hd : ∀ i q,θ i=some q→i<H.next) {o : AO} (ho : o.live=true) {p : Pl} (hrw : p.rw=true)
  (hf : ∀ i q,θ i=some q→q.blk≠p.blk) (hw : ∀ i q,θ i=some q→w'.heap[q.blk]?=w.heap[q.blk]?) : Own P (θ.put H.next p) (H.alloc o) w' (fun b=>if b=p.blk then some H.next else ow b):=by
 have hn : ∀ i q,i≠H.next→θ.put H.next p i=some q→θ i=some q:=fun i q hi hq=>by simpa [Th.put,hi] using hq
 have he : Ext θ (θ.put H.next p):=Th.ext_put (by
  cases e : θ H.next with
  | none=>rfl
  | some q=>exact absurd (hd _ _ e) (Nat.lt_irrefl _))
 refine⟨?_,?_,?_⟩
 ·intro i x q hi hx hq hr
  rw[Heap.get_alloc] at hi
  by_cases e : i=H.next
  ·subst e;rw[Th.put_same] at hq;cases hq;simp
  ·rw[if_neg e] at hi
   have hq:=hn _ _ e hq
   simp only[if_neg (hf _ _ hq)]
   exact h.rwo _ _ _ hi hx hq hr
 ·intro i x q hi hx hq hr
  rw[Heap.get_alloc] at hi
  by_cases e : i=H.next
  ·subst e;rw[Th.put_same] at hq;cases hq;rw[hrw] at hr;cases hr
  ·rw[if_neg e] at hi
   have hq:=hn _ _ e hq
   simp only[if_neg (hf _ _ hq)]
   exact h.roo _ _ _ hi hx hq hr
 ·intro i c el k hi
  rw[Heap.get_alloc] at hi
  by_cases e : i=H.next
  ·rw[if_pos e] at hi;cases hi;cases ho
  ·rw[if_neg e] at hi
   obtain⟨h1,h2,h3⟩:=h.len _ _ _ _ hi
   refine⟨h1,by simp only[Heap.next_alloc];omega,fun hv=>?_⟩
   obtain⟨q,pk,a1,a2,a3,a4,a5⟩:=h3 (hv.alloc h h2)
   refine⟨q,pk,he _ _ a1,he _ _ a2,a3,a4,a5.imp id fun ⟨b1,b2⟩=>⟨?_,b2.ext he (hw _ _ a1)⟩⟩
   simp only[if_neg (hf _ _ a1)]
   exact b1
theorem Rel.alloc {P : Program} {θ : Th} {H : Heap} {w : World} (h : Rel P θ H w) (o : AO) (ob : Obj) (p : Pl) (hp : p.blk=w.heap.size) (hrw : p.rw=true)
  (ho : OR P (θ.put H.next p) (w.alloc ob) p o) (hl : o.live=true:=by rfl) :
  Rel P (θ.put H.next p) (H.alloc o) (w.alloc ob)∧Stp θ w (θ.put H.next p) (w.alloc ob):=by
 have he : Ext θ (θ.put H.next p):=Th.ext_put h.fresh
 refine⟨⟨?_,?_,?_⟩,⟨he,?_,by simp,?_,rfl,rfl,rfl⟩⟩
 ·intro i x hi hx
  rw[Heap.get_alloc] at hi
  by_cases e : i=H.next
  ·subst e;simp at hi;subst hi
   exact⟨p,Th.put_same _ _ _,ho⟩
  ·simp[e] at hi
   obtain⟨q,hq,hor⟩:=h.obj i x hi hx
   exact⟨q,he _ _ hq,hor.ext he (heap_alloc_lt w ob _ (h.dom _ _ hq).2)⟩
 ·intro i q hq
  by_cases e : i=H.next
  ·subst e
   rw[Th.put_same] at hq;cases hq
   exact⟨by simp,by simp[hp]⟩
  ·simp[Th.put,e] at hq
   have:=h.dom i q hq
   exact⟨by simp;omega,by simp;omega⟩
 ·obtain⟨ow,hw⟩:=h.own
  exact⟨_,hw.add (fun i q hq=>(h.dom i q hq).1) hl hrw (fun i q hq=>by have:=(h.dom i q hq).2;omega) (fun i q hq=>heap_alloc_lt w ob _ (h.dom i q hq).2)⟩
 ·intro i q hq
  by_cases e : i=H.next
  ·subst e
   rw[Th.put_same] at hq;cases hq
   exact .inr ⟨hrw,.inl (by omega)⟩
  ·simp[Th.put,e] at hq
   exact .inl hq
 ·intro b hb _
  exact heap_alloc_lt w ob b hb
theorem Rel.write {P : Program} {θ : Th} {H : Heap} {w : World} (h : Rel P θ H w) {i : Nat} {o o' : AO} {p : Pl} (hi : H.get i=some o) (hl : o.live=true)
  (hp : θ i=some p) (hrw : p.rw=true) {w' : World} (hsz : w'.heap.size=w.heap.size) (hw : ∀ b,b≠p.blk→w'.heap[b]?=w.heap[b]?)
  (hos : w'.os=w.os) (htape : w'.tape=w.tape) (hout : w'.output=w.output) (ho : OR P θ w' p o') (hnl : ∀ c el k,o'≠.lent c el k:=by intro _ _ _ e;cases e) :
  Rel P θ (H.set i o') w'∧Stp θ w θ w':=by
 refine⟨⟨?_,?_,?_⟩,⟨Ext.refl θ,fun _ _ h=>.inl h,by omega,?_,hos,htape,hout⟩⟩
 ·intro j x hj hx
  rw[Heap.get_set] at hj
  by_cases e : j=i
  ·subst e;simp at hj;subst hj;exact⟨p,hp,ho⟩
  ·simp[e] at hj
   obtain⟨q,hq,hor⟩:=h.obj j x hj hx
   have hne : q.blk≠p.blk:=fun hb=>h.inj i j p q o x hi hj hl hx hp hq (fun e'=>e e'.symm) hrw hb.symm
   exact⟨q,hq,hor.ext (Ext.refl _) (hw _ hne)⟩
 ·intro j q hq
  have:=h.dom j q hq
  exact⟨this.1,by omega⟩
 ·obtain⟨ow,hown⟩:=h.own
  have hio:=hown.rwo i o p hi hl hp hrw
  refine⟨ow,?_,?_,?_⟩
  ·intro j x q hj hx hq hr
   rw[Heap.get_set] at hj
   by_cases e : j=i
   ·subst e;rw[hp] at hq;cases hq;exact hio
   ·rw[if_neg e] at hj;exact hown.rwo _ _ _ hj hx hq hr
  ·intro j x q hj hx hq hr
   rw[Heap.get_set] at hj
   by_cases e : j=i
   ·subst e;rw[hp] at hq;cases hq;rw[hrw] at hr;cases hr
   ·rw[if_neg e] at hj;exact hown.roo _ _ _ hj hx hq hr
  ·intro j c el k hj
   rw[Heap.get_set] at hj
   by_cases e : j=i
   ·rw[if_pos e] at hj;exact absurd (Option.some.inj hj) (hnl _ _ _)
   ·rw[if_neg e] at hj
    obtain⟨h1,h2,h3⟩:=hown.len _ _ _ _ hj
    refine⟨h1,h2,fun hv=>?_⟩
    have hv' : Val H k:=Val.sub (S:=fun _=>True) (fun y _ x hx=>by
     rw[Heap.get_set] at hx
     by_cases e2 : y=i
     ·subst e2;exact .inl (.live hi hl)
     ·rw[if_neg e2] at hx
      cases x with
      | lent c el k=>exact .inr (.inl ⟨c,el,k,rfl,trivial,fun hk=>.lent hx hk⟩)
      | dead=>exact .inr (.inr ⟨rfl,fun _ _ _ e=>by cases e⟩)
      | _=>exact .inl (.live hx rfl)) hv trivial
    obtain⟨q,pk,a1,a2,a3,a4,a5⟩:=h3 hv'
    refine⟨q,pk,a1,a2,a3,a4,a5.imp id fun ⟨b1,b2⟩=>⟨b1,b2.ext (Ext.refl θ) (hw _ fun hb=>?_)⟩⟩
    rw[hb,hio] at b1
    exact e (Option.some.inj b1).symm
 ·intro b _ hno
  exact hw b (fun e=>hno i p hp hrw e.symm)
end Go.Xe
