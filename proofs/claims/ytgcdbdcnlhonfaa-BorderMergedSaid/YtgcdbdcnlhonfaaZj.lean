/- Rules of reasoning over the executable reading of the model's code (part Z8): what grows, slices of values of one cell, numbers. Conditions: none; for every program. -/
import Derived.Test.YtgcdbdcnlhonfaaZg
import Derived.ChangeSlices
import Derived.WideShapes
import Derived.Carry
namespace Go.Xe
open Go
def Grow (H H' : Heap) : Prop:=H.next≤H'.next∧∀ i,i<H.next→H'.get i=H.get i
theorem Grow.refl (H : Heap) : Grow H H:=⟨Nat.le_refl _,fun _ _=>rfl⟩
theorem Grow.trans {A B C : Heap} (h : Grow A B) (k : Grow B C) : Grow A C:=⟨Nat.le_trans h.1 k.1,fun i hi=>(k.2 i (Nat.lt_of_lt_of_le hi h.1)).trans (h.2 i hi)⟩
theorem Grow.alloc {A B : Heap} (h : Grow A B) (o : AO) : Grow A (B.alloc o):=h.trans ⟨Nat.le_succ _,fun i hi=>by rw[Heap.get_alloc,if_neg (by omega)]⟩
theorem Grow.set {A B : Heap} (h : Grow A B) {i : Nat} (hi : A.next≤i) (o : AO) : Grow A (B.set i o):=⟨h.1,fun j hj=>by rw[Heap.get_set,if_neg (by omega)];exact h.2 j hj⟩
theorem Grow.cells {A B : Heap} (h : Grow A B) {i : Nat} (hi : i<A.next) : B.cellsAt i=A.cellsAt i:=by unfold Heap.cellsAt;rw[h.2 i hi]
theorem cells_alloc (H : Heap) (c : Array Value) (el : TypeId) (rw : Bool) : (H.alloc (.cells c el rw)).cellsAt H.next=some (c,el,rw):=by
 have:=Heap.get_alloc H H.next (.cells c el rw)
 unfold Heap.cellsAt;rw[this,if_pos rfl]
theorem cells_set (H : Heap) (i : Nat) (c : Array Value) (el : TypeId) (rw : Bool) : (H.set i (.cells c el rw)).cellsAt i=some (c,el,rw):=by
 have:=Heap.get_set H i i (.cells c el rw)
 unfold Heap.cellsAt;rw[this,if_pos rfl]
theorem cells_alloc_ne (H : Heap) (o : AO) {i : Nat} (h : i<H.next) : (H.alloc o).cellsAt i=H.cellsAt i:=by
 have:=Heap.get_alloc H i o
 unfold Heap.cellsAt;rw[this,if_neg (by omega)]
theorem cells_set_ne (H : Heap) (o : AO) {i j : Nat} (h : i≠j) : (H.set j o).cellsAt i=H.cellsAt i:=by
 have:=Heap.get_set H j i o
 unfold Heap.cellsAt;rw[this,if_neg h]
inductive Sl (H : Heap) : Value→List Value→Prop
 | nil : Sl H (.slice none 0 0) []
 | spot (i o s : Nat) : Sl H (.slice (some ⟨i,o,some s⟩) 0 0) []
 | at {i o n c : Nat} {a : Array Value} {el : TypeId} {rw : Bool} {l : List Value} (hi : i<H.next) (hc : H.cellsAt i=some (a,el,rw)) (hn : n≤c) (hl : l.length=n) (hs : o+n≤a.size) (hv : ∀ k x,l[k]?=some x→a[o+k]?=some x) : Sl H (.slice (some ⟨i,o,none⟩) n c) l
theorem Sl.grow {A B : Heap} (g : Grow A B) {v : Value} {l : List Value} (h : Sl A v l) : Sl B v l:=by
 cases h with
 | nil=>exact .nil
 | spot i o s=>exact .spot i o s
 | «at» hi hc hn hl hs hv=>exact .at (Nat.lt_of_lt_of_le hi g.1) ((g.cells hi).trans hc) hn hl hs hv
theorem Sl.len {H : Heap} {v : Value} {l : List Value} (h : Sl H v l) : ylen 0 H v=some (.int .i64 l.length):=by
 cases h with
 | nil=>rfl
 | spot=>rfl
 | «at» hi hc hn hl hs hv=>simp only[ylen,hl]
theorem Sl.get {H : Heap} {v : Value} {l : List Value} (h : Sl H v l) {n : Int} {k : Nat} {x : Value} (hx : l[k]?=some x) (hn : n=(k : Int)) {kd : IntKind} : ∃ p,yindexAddr none 1 v (.int kd n)=some p∧∀ H',Grow H H'→yload1 H' p=some x:=by
 have hk : k<l.length:=(List.getElem?_eq_some_iff.1 hx).1
 cases h with
 | nil=>cases hx
 | spot=>cases hx
 | «at» hi hc hn' hl hs hv=>
  rename_i i o n0 c a el rw
  subst hn
  refine⟨.pointer (some ⟨i,o+k,none⟩),?_,fun H' g=>?_⟩
  ·simp only[yindexAddr]
   rw[if_pos ⟨by omega,by omega⟩]
   simp
  ·simp only[yload1,(g.cells hi).trans hc]
   exact hv k x hx
theorem wrap_i64 {x : Int} (h1 : -9223372036854775808≤x) (h2 : x≤9223372036854775807) : IntKind.i64.wrap x=x:=by
 cases x with
 | ofNat m=>exact wrap_nat (by have : Int.ofNat m=(m : Int):=rfl;omega)
 | negSucc m=>exact wrap_neg (by omega)
section
variable {P : Program} {ty : TypeId} {k k' : IntKind} {a b : Int} {p q : Bool}
theorem bin_add : xbinOp P .add ty (.int k a) (.int k b)=some (.int k (k.wrap (a+b))):=by simp[xbinOp,xbin]
theorem bin_sub : xbinOp P .sub ty (.int k a) (.int k b)=some (.int k (k.wrap (a-b))):=by simp[xbinOp,xbin]
theorem bin_mul : xbinOp P .mul ty (.int k a) (.int k b)=some (.int k (k.wrap (a*b))):=by simp[xbinOp,xbin]
theorem bin_quo (h : b≠0) : xbinOp P .quo ty (.int k a) (.int k b)=some (.int k (k.wrap (a.tdiv b))):=by simp[xbinOp,xbin,h]
theorem bin_rem (h : b≠0) : xbinOp P .rem ty (.int k a) (.int k b)=some (.int k (a.tmod b)):=by simp[xbinOp,xbin,h]
theorem bin_eql : xbinOp P .eql ty (.int k a) (.int k b)=some (.bool (decide (a=b))):=by
 simp[xbinOp,xbin]
 exact Bool.beq_eq_decide_eq _ _
theorem bin_neq : xbinOp P .neq ty (.int k a) (.int k b)=some (.bool (decide (a≠b))):=by
 simp only[xbinOp,xbin,ne_eq,not_true_eq_false,if_false,decide_not]
 exact congrArg (fun x=>some (Value.bool (!x))) (Bool.beq_eq_decide_eq _ _)
theorem bin_lss : xbinOp P .lss ty (.int k a) (.int k b)=some (.bool (decide (a<b))):=by simp[xbinOp,xbin]
theorem bin_leq : xbinOp P .leq ty (.int k a) (.int k b)=some (.bool (decide (a≤b))):=by simp[xbinOp,xbin]
theorem bin_gtr : xbinOp P .gtr ty (.int k a) (.int k b)=some (.bool (decide (b<a))):=by simp[xbinOp,xbin]
theorem bin_geq : xbinOp P .geq ty (.int k a) (.int k b)=some (.bool (decide (b≤a))):=by simp[xbinOp,xbin]
theorem un_not : xun .not (.bool p)=some (.bool !p):=rfl
theorem un_neg : xun .neg (.int k a)=some (.int k (k.wrap (0-a))):=rfl
theorem ex_tup {l : List Value} {i : Nat} : xextract (.tuple ⟨l⟩) i=l[i]?:=by simp[xextract]
theorem yconv_int : yconv k (.int k' a)=some (.int k (k.wrap a)):=rfl
theorem ypick_b {x y : Value} {H : Heap} : ypick (.bool p) x y H=some (if p then x else y,H):=rfl
end
section
variable {P : Program} [Gl P] [Orc P] {rnd : Option Nat} {Q : FQ} {K : List FFr} {t : TT} {m : List Nat} {H : Heap}
variable {is : List FI} {d p : Pth} {w : Bool} {v : Value} {H1 : Heap} {fa : FA} {args : List FA} {pre : List Heap} {R : TT→List Heap→Prop}
theorem ld1 {i o : Nat} : yload1 H (.pointer (some ⟨i,o,none⟩))=(H.cellsAt i).bind fun c=>c.1[o]?:=by
 simp only[yload1]
 cases H.cellsAt i<;>rfl
theorem arr_size (l : List Value) : (⟨l⟩ : Array Value).size=l.length:=rfl
theorem arr_ext (l : List Value) (a b : Nat) : (⟨l⟩ : Array Value).extract a b=⟨(l.drop a).take (b-a)⟩:=by
 apply Array.toList_inj.1
 simp
theorem ldN {n i o : Nat} : yloadN n H (.pointer (some ⟨i,o,none⟩))=(H.cellsAt i).bind fun c=>if o+n≤c.1.size∧n≠0 then some (.agg (c.1.extract o (o+n))) else none:=by
 simp only[yloadN]
 cases H.cellsAt i<;>rfl
theorem setC_nil (o : Nat) (c : List Value) : setCells [] o ⟨c⟩=⟨c⟩:=rfl
theorem setC_cons (v : Value) (vs : List Value) (o : Nat) (c : List Value) : setCells (v::vs) o ⟨c⟩=setCells vs (o+1) ⟨c.set o v⟩:=by
 simp only[setCells]
 congr 1
 apply Array.toList_inj.1
 simp
def yfillV (v : Value) (off size : Nat) (c : List Value) (f : List Value→Option (Array Value)) : Option (Array Value):=if notTop v=true∧v.cells.size=size∧off+v.cells.size≤c.length then f (setCells v.cells.toList off ⟨c⟩).toList else none
theorem yfill_cons {off size : Nat} {a : FA} {r : List (Nat×Nat×FA)} {c : List Value} : yfill t ((off,size,a)::r) ⟨c⟩=yfillV (dA t a) off size c fun c1=>yfill t r ⟨c1⟩:=rfl
theorem yfill_nil {c : Array Value} : yfill t [] c=some c:=rfl
section
variable {off size : Nat} {c : List Value} {f : List Value→Option (Array Value)}
theorem yfV_one {v : Value} (h1 : notTop v=true) (h2 : v.cells=#[v]) : yfillV v off 1 c f=if off<c.length then f (c.set off v) else none:=by
 unfold yfillV
 rw[h2]
 have e : (setCells (#[v] : Array Value).toList off ⟨c⟩).toList=c.set off v:=by
  show (setCells [v] off ⟨c⟩).toList=_
  rw[setC_cons,setC_nil]
 rw[e]
 by_cases h : off<c.length
 ·rw[if_pos h,if_pos ⟨h1,rfl,h⟩]
 ·rw[if_neg h,if_neg (fun x=>h x.2.2)]
theorem yfV_int {k : IntKind} {n : Int} : yfillV (.int k n) off 1 c f=if off<c.length then f (c.set off (.int k n)) else none:=yfV_one rfl rfl
theorem yfV_bool {b : Bool} : yfillV (.bool b) off 1 c f=if off<c.length then f (c.set off (.bool b)) else none:=yfV_one rfl rfl
theorem yfV_string {b : ByteArray} : yfillV (.string b) off 1 c f=if off<c.length then f (c.set off (.string b)) else none:=yfV_one rfl rfl
theorem yfV_slice {a : Option Addr} {n m : Nat} : yfillV (.slice a n m) off 1 c f=if off<c.length then f (c.set off (.slice a n m)) else none:=yfV_one rfl rfl
theorem yfV_ptr {a : Option Addr} : yfillV (.pointer a) off 1 c f=if off<c.length then f (c.set off (.pointer a)) else none:=yfV_one rfl rfl
theorem yfV_map {a : Option Nat} : yfillV (.map a) off 1 c f=if off<c.length then f (c.set off (.map a)) else none:=yfV_one rfl rfl
theorem yfV_func {fn : Fn} {a b : Array Value} : yfillV (.func fn a b) off 1 c f=if off<c.length then f (c.set off (.func fn a b)) else none:=yfV_one rfl rfl
theorem yfV_agg {vs : List Value} : yfillV (.agg ⟨vs⟩) off size c f=if vs.length=size∧off+vs.length≤c.length then f (setCells vs off ⟨c⟩).toList else none:=by
 have e : (Value.agg ⟨vs⟩).cells=⟨vs⟩:=rfl
 unfold yfillV
 rw[e]
 by_cases h : vs.length=size∧off+vs.length≤c.length
 ·rw[if_pos h,if_pos ⟨rfl,h.1,h.2⟩]
 ·rw[if_neg h,if_neg (fun x=>h ⟨x.2.1,x.2.2⟩)]
end
def ok1 (y : Value) : Bool:=y.oneCell' && notTop y
theorem ok1_int {k : IntKind} {n : Int} : ok1 (.int k n)=true:=rfl
theorem ok1_bool {b : Bool} : ok1 (.bool b)=true:=rfl
theorem ok1_string {b : ByteArray} : ok1 (.string b)=true:=rfl
theorem ok1_slice {a : Option Addr} {n m : Nat} : ok1 (.slice a n m)=true:=rfl
theorem ok1_ptr {a : Option Addr} : ok1 (.pointer a)=true:=rfl
theorem ok1_map {a : Option Nat} : ok1 (.map a)=true:=rfl
theorem ok1_func {fn : Fn} {a b : Array Value} : ok1 (.func fn a b)=true:=rfl
def ystC (n : Nat) (H : Heap) (i o : Nat) (v : Value) (x : Array Value×TypeId×Bool) : Option Heap:=match x with
 | (c,el,true)=>if notTop v=true∧v.cells.size=n∧o+v.cells.size≤c.size∧v.cells.size≠0∧v.cells.toList.all (fun y=>y.oneCell' && notTop y)=true then some (H.set i (.cells (setCells v.cells.toList o c) el true)) else none
 | _=>none
theorem ystE {n i o : Nat} {v : Value} : ystore n H (.pointer (some ⟨i,o,none⟩)) v=(H.cellsAt i).bind (ystC n H i o v):=by
 simp only[ystore]
 cases H.cellsAt i with
 | none=>rfl
 | some x=>obtain⟨c,el,rw⟩:=x;cases rw<;>rfl
section
variable {i o n : Nat} {c : List Value} {el : TypeId}
theorem ystC_one {v : Value} (h1 : notTop v=true) (h2 : v.cells=#[v]) (h3 : v.oneCell'=true) : ystC 1 H i o v (⟨c⟩,el,true)=if o<c.length then some (H.set i (.cells ⟨c.set o v⟩ el true)) else none:=by
 unfold ystC
 rw[h2]
 have e : setCells (#[v] : Array Value).toList o ⟨c⟩=⟨c.set o v⟩:=by
  show setCells [v] o ⟨c⟩=_
  rw[setC_cons,setC_nil]
 simp only[e]
 by_cases h : o<c.length
 ·rw[if_pos h,if_pos ⟨h1,rfl,h,by simp,by simp[h1,h3]⟩]
 ·rw[if_neg h,if_neg (fun x=>h x.2.2.1)]
theorem ystC_int {k : IntKind} {a : Int} : ystC 1 H i o (.int k a) (⟨c⟩,el,true)=if o<c.length then some (H.set i (.cells ⟨c.set o (.int k a)⟩ el true)) else none:=ystC_one rfl rfl rfl
theorem ystC_bool {b : Bool} : ystC 1 H i o (.bool b) (⟨c⟩,el,true)=if o<c.length then some (H.set i (.cells ⟨c.set o (.bool b)⟩ el true)) else none:=ystC_one rfl rfl rfl
theorem ystC_string {b : ByteArray} : ystC 1 H i o (.string b) (⟨c⟩,el,true)=if o<c.length then some (H.set i (.cells ⟨c.set o (.string b)⟩ el true)) else none:=ystC_one rfl rfl rfl
theorem ystC_slice {a : Option Addr} {p q : Nat} : ystC 1 H i o (.slice a p q) (⟨c⟩,el,true)=if o<c.length then some (H.set i (.cells ⟨c.set o (.slice a p q)⟩ el true)) else none:=ystC_one rfl rfl rfl
theorem ystC_ptr {a : Option Addr} : ystC 1 H i o (.pointer a) (⟨c⟩,el,true)=if o<c.length then some (H.set i (.cells ⟨c.set o (.pointer a)⟩ el true)) else none:=ystC_one rfl rfl rfl
theorem ystC_map {a : Option Nat} : ystC 1 H i o (.map a) (⟨c⟩,el,true)=if o<c.length then some (H.set i (.cells ⟨c.set o (.map a)⟩ el true)) else none:=ystC_one rfl rfl rfl
theorem ystC_func {fn : Fn} {a b : Array Value} : ystC 1 H i o (.func fn a b) (⟨c⟩,el,true)=if o<c.length then some (H.set i (.cells ⟨c.set o (.func fn a b)⟩ el true)) else none:=ystC_one rfl rfl rfl
theorem ystC_agg {vs : List Value} : ystC n H i o (.agg ⟨vs⟩) (⟨c⟩,el,true)=if vs.length=n∧o+vs.length≤c.length∧vs.length≠0∧(vs.all ok1)=true then some (H.set i (.cells (setCells vs o ⟨c⟩) el true)) else none:=by
 have e : (Value.agg ⟨vs⟩).cells=⟨vs⟩:=rfl
 simp only[ystC]
 rw[e]
 by_cases h : vs.length=n∧o+vs.length≤c.length∧vs.length≠0∧(vs.all ok1)=true
 ·rw[if_pos h,if_pos ⟨rfl,h⟩]
 ·rw[if_neg h,if_neg (fun x=>h x.2)]
end
theorem arr_get (l : List Value) (i : Nat) : (⟨l⟩ : Array Value)[i]?=l[i]?:=by simp
theorem xbox_agg (el : TypeId) (a : Array Value) : xbox H el (.agg a)=some (.pointer (some ⟨H.next,0,none⟩),H.alloc (.cells a el true)):=rfl
theorem arr_app (a b : List Value) : (⟨a⟩ : Array Value)++⟨b⟩=⟨a++b⟩:=by apply Array.toList_inj.1;simp
def Gives (P : Program) [Gl P] [Orc P] (f : FuncId) (l : List Value) (H : Heap) (v : Value) : Prop:=F P f ⟨l⟩ H fun v' H'=>v'=v∧Grow H H'
theorem VI.callG {g : FuncId} {a b : List Value} (hf : dA t fa=.func (.func g) ⟨a⟩ ⟨b⟩) (hs : Gives P g (a++args.map (dA t)++b) H v) (k : ∀ H',Grow H H'→VI P rnd Q K m is (st v d t) H') : VI P rnd Q K m (.go (.call fa args) d::is) t H:=by
 refine .call hf ?_
 rw[arr_app,arr_app]
 exact hs.mono (fun v' H' ⟨e,g⟩=>by subst e;exact k H' g)
theorem VI.callGT {g : FuncId} {a b : List Value} (hp : gt p t=.bool w) (hf : dA t fa=.func (.func g) ⟨a⟩ ⟨b⟩) (hs : Gives P g (a++args.map (dA t)++b) H v) (k : ∀ H',Grow H H'→VI P rnd Q K m is (st v d t) H') : VI P rnd Q K m (.gd p w (.call fa args) d::is) t H:=by
 refine .callT hp hf ?_
 rw[arr_app,arr_app]
 exact hs.mono (fun v' H' ⟨e,g⟩=>by subst e;exact k H' g)
theorem VD.callG {g : FuncId} {a b : List Value} (hf : dA t fa=.func (.func g) ⟨a⟩ ⟨b⟩) (hs : Gives P g (a++args.map (dA t)++b) H v) (k : ∀ H',Grow H H'→VD P is (st v d t) H' (pre++[H]) R) : VD P (.go (.call fa args) d::is) t H pre R:=by
 refine .call hf ?_
 rw[arr_app,arr_app]
 exact hs.mono (fun v' H' ⟨e,g⟩=>by subst e;exact k H' g)
theorem F.entryL {f : FuncId} {fn : Func} {k : Nat} {x : FCode} {tp : TT} {as : List Pth} {rs : List FRes} {l : List Value} {R : Value→Heap→Prop} (h0 : Orc.O P f=none) (h1 : P.funcs[f]?=some fn) (ho : okF P fn=true) (he : compF P fn k=.mk x tp as rs)
  (hk : l.length=k) (hn : Nat.ble k fn.ntmps=true) (h : V P none (Lv rs R) [.seq x] .normal (sets l as tp) [] H) : F P f ⟨l⟩ H R:=
 .entry h0 h1 ho he (by simpa using hk) (Nat.le_of_ble_eq_true hn) h
theorem Gives.orc {f : FuncId} {b : Bool} (h0 : Orc.O P f=some b) : Gives P f [] H (.bool b):=F.orc h0 ⟨rfl,.refl H⟩
theorem V.rets {e : XE} (he : e=.ret) : ∀ {K : List FFr},Q e t m H→V P rnd Q K e t m H:=by
 subst he
 intro K h
 induction K with
 | nil=>exact h
 | cons f K ih=>cases f<;>exact ih
theorem Lv.retG {rs : List FRes} {H0 : Heap} {w : Value} (h : yres t H rs=some w) (g : Grow H0 H) (hw : w=v) : Lv rs (fun v' H'=>v'=v∧Grow H0 H') .ret t [] H:=Lv.ret h ⟨hw,g⟩
end
def Ow (H0 H : Heap) (e : TypeId) (v : Value) (l : List Value) : Prop:=(v=.slice none 0 0∧l=[])∨∃ i,H0.next≤i∧i<H.next∧v=.slice (some ⟨i,0,none⟩) l.length l.length∧H.cellsAt i=some (⟨l⟩,e,true)
theorem Ow.sl {H0 H : Heap} {e : TypeId} {v : Value} {l : List Value} (h : Ow H0 H e v l) : Sl H v l:=by
 rcases h with⟨rfl,rfl⟩|⟨i,_,h2,rfl,h4⟩
 ·exact .nil
 ·exact .at h2 h4 (Nat.le_refl _) rfl (by simp) (fun k x hx=>by simpa using hx)
theorem Ow.keep {H0 H H' : Heap} {e : TypeId} {v : Value} {l : List Value} (h : Ow H0 H e v l) (g : Grow H H') : Ow H0 H' e v l:=by
 rcases h with h|⟨i,h1,h2,h3,h4⟩
 ·exact .inl h
 ·exact .inr ⟨i,h1,Nat.lt_of_lt_of_le h2 g.1,h3,(g.cells h2).trans h4⟩
theorem Sl.source {H : Heap} {n c : Nat} {a : Option Addr} {r : List Value} (h : Sl H (.slice a n c) r) (hn : n≠0) : xsource H 1 n a=some ⟨r⟩∧r.length=n:=by
 cases h with
 | nil=>exact absurd rfl hn
 | spot=>exact absurd rfl hn
 | «at» hi hc hnc hl hs hv=>
  rename_i i o a el rw
  refine⟨?_,hl⟩
  simp only[xsource,hc,Nat.mul_one]
  rw[if_pos ⟨hs,hn⟩]
  congr 1
  apply Array.ext_getElem?
  intro k
  rw[Array.getElem?_extract]
  by_cases hk : k<n
  ·rw[if_pos (by omega)]
   have : k<r.length:=by omega
   have e : r[k]?=some r[k]:=by simp[this]
   rw[hv k _ e]
   simp[this]
  ·rw[if_neg (by omega)]
   simp;omega
def Apart (H H' : Heap) (s : Value) : Prop:=H.next≤H'.next∧∀ j,j<H.next→(∀ o n c,s≠.slice (some ⟨j,o,none⟩) n c)→H'.get j=H.get j
theorem Ow.append {H0 H : Heap} {e : TypeId} {bytes : Nat} {s x : Value} {l r : List Value} (g : Grow H0 H) (hs : Ow H0 H e s l) (hx : Sl H x r) (hok : r.all ok1=true) (hb : (2*(l.length+r.length)+256)*bytes≤281474976710656) (h2 : l.length+r.length≤281474976710656) :
  ∃ w H',yappend e 1 bytes H s x=some (w,H')∧Ow H0 H' e w (l++r)∧Grow H0 H'∧Apart H H' s:=by
 have hsx : ∃ b m c,x=.slice b m c:=by cases hx<;>exact⟨_,_,_,rfl⟩
 obtain⟨b,m,c,rfl⟩:=hsx
 by_cases hm : m=0
 ·subst hm
  have hr : r=[]:=by
   cases hx with
   | nil=>rfl
   | spot=>rfl
   | «at» hi hc hnc hl hss hv=>exact List.length_eq_zero_iff.1 hl
  subst hr
  refine⟨s,H,?_,by simpa using hs,g,Nat.le_refl _,fun _ _ _=>rfl⟩
  rcases hs with⟨rfl,rfl⟩|⟨i,_,_,rfl,_⟩<;>simp[yappend]
 ·obtain⟨h3,h4⟩:=hx.source hm
  subst h4
  have e48 : (2 : Nat) ^ 48=281474976710656:=by decide
  have hcond : ((⟨r⟩ : Array Value).toList.all fun y=>y.oneCell' && notTop y)=true:=hok
  rcases hs with⟨rfl,rfl⟩|⟨i,i1,i2,rfl,i4⟩
  ·refine⟨.slice (some ⟨H.next,0,none⟩) r.length r.length,H.alloc (.cells ⟨r⟩ e true),?_,?_,g.alloc _,Nat.le_succ _,fun j hj _=>by rw[Heap.get_alloc,if_neg (by omega)]⟩
   ·simp only[yappend]
    rw[if_neg hm,h3]
    simp only[]
    rw[e48,if_pos ⟨hcond,by simpa using hb,by simpa using h2⟩]
    simp
   ·exact .inr ⟨H.next,g.1,Nat.lt_succ_self _,rfl,cells_alloc _ _ _ _⟩
  ·refine⟨.slice (some ⟨H.next,0,none⟩) (l.length+r.length) (l.length+r.length),(H.set i (lentO 0 (l.length*1) ⟨l⟩ e H.next)).alloc (.cells ⟨l++r⟩ e true),?_,?_,(g.set i1 _).alloc _,Nat.le_succ _,fun j hj hne=>?_⟩
   ·simp only[yappend]
    rw[if_neg hm,h3]
    simp only[]
    rw[e48,if_pos ⟨hcond,hb,h2⟩]
    simp only[i4]
    rw[if_pos ⟨trivial,by simp,by simp,by omega⟩,if_neg (by omega)]
    generalize lentO _ _ _ _ _=q
    congr 3
    rw[Nat.mul_one,Nat.zero_add]
    congr 2
    apply Array.toList_inj.1
    simp
   ·have:=cells_alloc (H.set i (lentO 0 (l.length*1) ⟨l⟩ e H.next)) ⟨l++r⟩ e true
    refine .inr ⟨H.next,g.1,Nat.lt_succ_self _,by simp,by simpa using this⟩
   ·have hji : j≠i:=fun h=>hne 0 _ _ (by rw[h])
    rw[Heap.get_alloc,if_neg (by simp;omega),Heap.get_set,if_neg hji]
theorem Apart.ow {H0 H H' : Heap} {e' : TypeId} {s v : Value} {r : List Value} (h : Apart H H' s) (hv : Ow H0 H e' v r) (hne : ∀ i o n c o' n' c',s=.slice (some ⟨i,o,none⟩) n c→v≠.slice (some ⟨i,o',none⟩) n' c') : Ow H0 H' e' v r:=by
 rcases hv with hv|⟨j,j1,j2,rfl,j4⟩
 ·exact .inl hv
 ·refine .inr ⟨j,j1,Nat.lt_of_lt_of_le j2 h.1,rfl,?_⟩
  have:=h.2 j j2 (fun o n c hsj=>hne j o n c 0 _ _ hsj rfl)
  unfold Heap.cellsAt at j4 ⊢
  rw[this];exact j4
section
variable {P : Program} [Gl P] [Orc P] {rnd : Option Nat} {Q : FQ} {K : List FFr} {t : TT} {m : List Nat} {H : Heap}
variable {is : List FI} {d p : Pth} {w : Bool} {fa : FA} {args : List FA} {pre : List Heap} {R : TT→List Heap→Prop}
theorem VI.callF {g : FuncId} {a b : List Value} {S : Value→Heap→Prop} (hf : dA t fa=.func (.func g) ⟨a⟩ ⟨b⟩) (hs : F P g ⟨a++args.map (dA t)++b⟩ H S) (k : ∀ v H',S v H'→VI P rnd Q K m is (st v d t) H') : VI P rnd Q K m (.go (.call fa args) d::is) t H:=by
 refine .call hf ?_
 rw[arr_app,arr_app]
 exact hs.mono k
theorem VD.callF {g : FuncId} {a b : List Value} {S : Value→Heap→Prop} (hf : dA t fa=.func (.func g) ⟨a⟩ ⟨b⟩) (hs : F P g ⟨a++args.map (dA t)++b⟩ H S) (k : ∀ v H',S v H'→VD P is (st v d t) H' (pre++[H]) R) : VD P (.go (.call fa args) d::is) t H pre R:=by
 refine .call hf ?_
 rw[arr_app,arr_app]
 exact hs.mono k
theorem Lv.retF {rs : List FRes} {S : Value→Heap→Prop} {w : Value} (h : yres t H rs=some w) (k : S w H) : Lv rs S .ret t [] H:=Lv.ret h k
theorem V.cut {x : FCode} (Q1 : FQ) (h : V P rnd Q1 [.seq x] .normal t m H) (k : ∀ e t m H,Q1 e t m H→V P rnd Q K e t m H) : V P rnd Q (.seq x::K) .normal t m H:=by
 intro c tm hc ht
 obtain⟨e,tm',m',H',t',h1,h2,h3⟩:=h c tm hc ht
 exact⟨e,tm',m',H',t',h1,h2,k _ _ _ _ h3⟩
end
end Go.Xe
/- Rules of reasoning over the executable reading of the model's code (part Z9): the world in which a call begins, read as a heap of objects that nobody writes; arguments. Conditions: none; for every program. -/
namespace Go.Xe
open Go Go.RowKit Go.ChangeShapes Go.WideShapes
def absC (n : Nat) : Value→Value
 | .bool b=>.bool b
 | .int k z=>.int k z
 | .string s=>.string s
 | .pointer none=>.pointer none
 | .pointer (some ⟨i,o,none⟩)=>if i<n then .pointer (some ⟨i,o,none⟩) else top
 | .slice none l c=>.slice none l c
 | .slice (some ⟨i,o,s⟩) l c=>if l=0 then .slice (some ⟨i,o,some 0⟩) 0 0 else if s=none∧i<n∧l≤c then .slice (some ⟨i,o,none⟩) l c else top
 | .map none=>.map none
 | .nilFunc=>.nilFunc
 | .nilIface=>.nilIface
 | _=>top
def absV (n : Nat) : Value→Value
 | .agg cs=>.agg (cs.map (absC n))
 | v=>absC n v
def absO (w : World) (i : Nat) : AO:=match w.heap[i]? with
 | some (.cells c el _)=>.cells (c.map (absC w.heap.size)) el false
 | _=>.dead
def absT (w : World) : Th:=fun i=>if i<w.heap.size then some { blk:=i,base:=0,sz:=0,st:=0,rw:=false } else none
theorem absC_VR (w : World) (v : Value) : VR (absT w) (absC w.heap.size v) v:=by
 unfold absC
 split<;>first|exact .bool _|exact .int _ _|exact .string _|exact .pnil|exact .snil _ _|exact .mnil|exact .nilFunc|exact .nilIface|exact .top _|skip
 ·rename_i i o
  split
  ·rename_i h
   have:=VR.ptr (θ:=absT w) (i:=i) (o:=o) (p:={ blk:=i,base:=0,sz:=0,st:=0,rw:=false }) (by simp[absT,h])
   simpa using this
  ·exact .top _
 ·rename_i i o s l c
  split
  ·rename_i h;subst h;exact .sempty _ _ _ _ _
  ·split
   ·rename_i h
    obtain⟨rfl,h2,h3⟩:=h
    have:=VR.slice (θ:=absT w) (i:=i) (o:=o) (n:=l) (c:=c) (c':=c) (p:={ blk:=i,base:=0,sz:=0,st:=0,rw:=false }) (by simp[absT,h2]) h3 (Nat.le_refl _) (fun h=>by cases h)
    simpa using this
   ·exact .top _
theorem absV_VR (w : World) (v : Value) : VR (absT w) (absV w.heap.size v) v:=by
 unfold absV
 split
 ·rename_i cs
  refine .agg (by simp) (fun i a b ha hb=>?_)
  rw[Array.getElem?_map,hb] at ha
  simp at ha
  subst ha
  exact absC_VR w b
 ·exact absC_VR w _
theorem heap_of (n : Nat) (f : Nat→AO) : ∃ H : Heap,H.next=n∧∀ i,H.get i=if i<n then some (f i) else none:=by
 induction n with
 | zero=>exact⟨Heap.empty,rfl,fun i=>by simp[Heap.get,Heap.empty,Tr.get_nil]⟩
 | succ n ih=>
  obtain⟨H,h1,h2⟩:=ih
  refine⟨H.alloc (f n),by rw[Heap.next_alloc,h1],fun i=>?_⟩
  rw[Heap.get_alloc,h1,h2]
  by_cases hi : i=n
  ·subst hi;simp
  ·rw[if_neg hi]
   by_cases hl : i<n
   ·rw[if_pos hl,if_pos (by omega)]
   ·rw[if_neg hl,if_neg (by omega)]
def Abs (w : World) (H : Heap) : Prop:=H.next=w.heap.size∧∀ i,H.get i=if i<w.heap.size then some (absO w i) else none
theorem Abs.cells {w : World} {H : Heap} (h : Abs w H) {i : Nat} {c : Array Value} {el : TypeId} {fz : Nat×Nat} (hc : w.heap[i]?=some (.cells c el fz)) : i<H.next∧H.cellsAt i=some (c.map (absC w.heap.size),el,false):=by
 have hi : i<w.heap.size:=(Array.getElem?_eq_some_iff.1 hc).1
 refine⟨by rw[h.1];exact hi,?_⟩
 unfold Heap.cellsAt
 rw[h.2,if_pos hi]
 simp only[absO,hc]
theorem Abs.rel {P : Program} {w : World} {H : Heap} (h : Abs w H) : Rel P (absT w) H w:=by
 refine⟨fun i o hi ho=>?_,fun i p hp=>?_,_,.ro (fun i p hp=>?_) (fun i c el k hi=>?_)⟩
 ·rw[h.2] at hi
  split at hi
  ·rename_i hlt
   cases hi
   refine⟨{ blk:=i,base:=0,sz:=0,st:=0,rw:=false },by simp[absT,hlt],?_⟩
   unfold absO at ho ⊢
   split
   ·rename_i c el fz hc
    refine⟨c,el,fz,hc,rfl,(fun h=>by cases h),fun k v hv=>?_⟩
    rw[Array.getElem?_map] at hv
    cases hk : c[k]? with
    | none=>rw[hk] at hv;simp at hv
    | some x=>
     rw[hk] at hv
     simp at hv
     subst hv
     exact⟨x,by simpa using hk,absC_VR w x⟩
   ·rename_i hne
    split at ho
    ·rename_i c el fz hc;exact absurd hc (hne _ _ _)
    ·cases ho
  ·cases hi
 ·simp only[absT] at hp
  split at hp
  ·rename_i hlt;cases hp;exact⟨by rw[h.1];exact hlt,hlt⟩
  ·cases hp
 ·simp only[absT] at hp
  split at hp
  ·cases hp;rfl
  ·cases hp
 ·rw[h.2] at hi
  split at hi
  ·unfold absO at hi
   split at hi<;>cases hi
  ·cases hi
theorem frame {P : Program} [Gl P] [Orc P] (hgl : ∀ g,Gl.G P g=false) (hmix : P.follows .mixedOrders=true) {w : World} (hb : Orc.base P≤w.heap.size) (hI : Orc.I P w) {f : FuncId} {args : List Value}
  (h : ∀ H,Abs w H→F P f ⟨args.map (absV w.heap.size)⟩ H (fun v _=>v=.bool true)) (r : Option Nat) (n : Nat) : CallsIn (FW r) n P f ⟨args⟩ w (Quiet (.bool true) w):=by
 obtain⟨H,h1,h2⟩:=heap_of w.heap.size (absO w)
 have ha : Abs w H:=⟨h1,h2⟩
 have hno : ∀ i p,absT w i=some p→p.rw=true→False:=by
  intro i p hp hrw
  simp only[absT] at hp
  split at hp
  ·cases hp;cases hrw
  ·cases hp
 have hat : At P (absT w) w:=⟨hb,hI,fun i p hp hrw=>(hno i p hp hrw).elim,fun g hg=>by rw[hgl g] at hg;cases hg⟩
 have har : AR (absT w) ⟨args.map (absV w.heap.size)⟩ ⟨args⟩:=by
  refine⟨by simp,fun i a b hx hy=>?_⟩
  simp only[List.getElem?_toArray] at hx hy
  rw[List.getElem?_map,hy] at hx
  simp at hx
  subst hx
  exact absV_VR w b
 obtain⟨v,H',rfl,hc⟩:=(h H ha).use hmix ha.rel hat har r n
 refine hc.mono ?_
 rintro e w' ⟨v',θ',k1,k2,k3,k4⟩
 cases k4
 exact⟨k1,k2.size,fun b hb=>k2.frame b hb (fun i p hp hrw=>(hno i p hp hrw).elim),k2.os,k2.tape,k2.output⟩
section
variable {H : Type} {enc : TypeId×Value→H} {P : Program} {w : World} {A : Heap}
theorem icell_at {a : Addr} {v : Value} (h : w.cell? a=some v) : ∃ c el fz,w.heap[a.block]?=some (.cells c el fz)∧a.spot=none∧c[a.off]?=some v:=by
 unfold World.cell? at h
 split at h
 ·rename_i c el fz hc
  split at h
  ·cases h
  ·rename_i hs
   exact⟨c,el,fz,hc,by cases hx : a.spot<;>simp_all,h⟩
 ·cases h
theorem stays_all (hl : laidOutB P=true) {W W' : World} {sp : Nat→Bool} : ∀ {ts : List TypeId} {vs : List Value} {ds : List (DataW H)} {ps : List MemPlace},(∀ t∈ts,P.readableRec t=true∧t<P.types.size) →
  DataW.TrodAll enc P W 0 (fun _=>true) true ts vs ds ps→(∀ p∈ps,W.sameAt W' p)→(∀ p∈ps,sp p.block=true)→DataW.TrodAll enc P W' 0 sp true ts vs ds ps
 | [],[],[],ps,_,h,_,_=>h
 | [],[],_::_,_,_,h,_,_=>h.elim
 | [],_::_,_,_,_,h,_,_=>h.elim
 | _::_,[],_,_,_,h,_,_=>h.elim
 | _::_,_::_,[],_,_,h,_,_=>h.elim
 | t::ts,v::vs,d::ds,ps,hr,h,h1,h2=>by
  obtain⟨p,q,ha,hb,rfl⟩:=h
  refine⟨p,q,?_,?_,rfl⟩
  ·exact WideElems.Trod_stays hl (hr t (by simp)).1 (hr t (by simp)).2 ha (fun x hx=>h1 x (by simp[hx])) (fun x hx=>h2 x (by simp[hx]))
  ·exact stays_all hl (fun t ht=>hr t (by simp[ht])) hb (fun x hx=>h1 x (by simp[hx])) (fun x hx=>h2 x (by simp[hx]))
end
end Go.Xe
/- Rules of reasoning over the executable reading of the model's code (part Z10): temporaries by their numbers, of which only some are known. Conditions: none; for every program. -/
namespace Go.Xe
open Go
def full (i : Nat) (t : TT) : Bool:=(t.at i).isSome
theorem gt_at (t : TT) (i : Nat) : gt (pth i) t=(t.at i).getD undef:=by
 rw[← gt_eq];exact getP_F (Nat.le_refl i)
theorem full_st {v : Value} {i j : Nat} {t : TT} : full i (st v (pth j) t)=full i t:=by
 unfold full
 have:=st_F (v:=v) (t:=t) (Nat.le_refl j) i
 rw[pth,this]
 split
 ·rename_i h;obtain⟨rfl,h⟩:=h;simp[h]
 ·rfl
theorem gt_st {v : Value} {i j : Nat} {t : TT} : gt (pth i) (st v (pth j) t)=if i=j then (if full j t=true then v else undef) else gt (pth i) t:=by
 have:=st_F (v:=v) (t:=t) (Nat.le_refl j) i
 rw[gt_at,gt_at,pth,this]
 by_cases h : i=j
 ·subst h
  unfold full
  by_cases k : (t.at i).isSome=true
  ·rw[if_pos ⟨rfl,k⟩,if_pos rfl,if_pos k];rfl
  ·rw[if_neg (fun x=>k x.2),if_pos rfl,if_neg k]
   have : t.at i=none:=by simpa using k
   rw[this];rfl
 ·rw[if_neg (fun x=>h x.1),if_neg h]
abbrev Full (N : Nat) (t : TT) : Prop:=∀ i,full i t=decide (i<N)
theorem Full.st {N j : Nat} {v : Value} {t : TT} (h : Full N t) : Full N (st v (pth j) t):=fun i=>full_st.trans (h i)
theorem Full.mk (N : Nat) : Full N (mkTT N):=fun i=>by
 unfold full
 rw[mkTT_TR N i,Array.getElem?_replicate]
 by_cases h : i<N<;>simp[h]
def Kn : List (Nat×Value)→TT→Prop
 | [],_=>True
 | (i,v)::l,t=>gt (pth i) t=v∧Kn l t
theorem Kn.nil {t : TT} : Kn [] t=True:=rfl
theorem Kn.cons {i : Nat} {v : Value} {l : List (Nat×Value)} {t : TT} : Kn ((i,v)::l) t=(gt (pth i) t=v∧Kn l t):=rfl
section
variable {P : Program} [Gl P] [Orc P] {rnd : Option Nat} {Q : FQ} {K : List FFr} {t : TT} {m : List Nat} {H : Heap} {e : XE}
variable {is : List FI} {d p : Pth} {w : Bool} {fa : FA} {args : List FA} {pre : List Heap} {R : TT→List Heap→Prop} {v : Value} {N : Nat}
theorem V.re (l : List (Nat×Value)) (hF : Full N t) (hA : Kn l t) (h : ∀ t',Full N t'→Kn l t'→V P rnd Q K e t' m H) : V P rnd Q K e t m H:=h t hF hA
theorem VI.re (l : List (Nat×Value)) (hF : Full N t) (hA : Kn l t) (h : ∀ t',Full N t'→Kn l t'→VI P rnd Q K m is t' H) : VI P rnd Q K m is t H:=h t hF hA
theorem VI.callA {g : FuncId} {a b l : List Value} (hf : dA t fa=.func (.func g) ⟨a⟩ ⟨b⟩) (hs : Gives P g l H v) (hl : a++args.map (dA t)++b=l) (k : ∀ H',Grow H H'→VI P rnd Q K m is (st v d t) H') : VI P rnd Q K m (.go (.call fa args) d::is) t H:=by
 subst hl;exact .callG hf hs k
theorem VI.callAT {g : FuncId} {a b l : List Value} (hp : gt p t=.bool w) (hf : dA t fa=.func (.func g) ⟨a⟩ ⟨b⟩) (hs : Gives P g l H v) (hl : a++args.map (dA t)++b=l) (k : ∀ H',Grow H H'→VI P rnd Q K m is (st v d t) H') : VI P rnd Q K m (.gd p w (.call fa args) d::is) t H:=by
 subst hl;exact .callGT hp hf hs k
theorem VI.callR {g : FuncId} {a b l : List Value} {S : Value→Heap→Prop} (hf : dA t fa=.func (.func g) ⟨a⟩ ⟨b⟩) (hs : F P g ⟨l⟩ H S) (hl : a++args.map (dA t)++b=l) (k : ∀ v H',S v H'→VI P rnd Q K m is (st v d t) H') : VI P rnd Q K m (.go (.call fa args) d::is) t H:=by
 subst hl;exact .callF hf hs k
theorem VD.callA {g : FuncId} {a b l : List Value} (hf : dA t fa=.func (.func g) ⟨a⟩ ⟨b⟩) (hs : Gives P g l H v) (hl : a++args.map (dA t)++b=l) (k : ∀ H',Grow H H'→VD P is (st v d t) H' (pre++[H]) R) : VD P (.go (.call fa args) d::is) t H pre R:=by
 subst hl;exact .callG hf hs k
theorem VD.callR {g : FuncId} {a b l : List Value} {S : Value→Heap→Prop} (hf : dA t fa=.func (.func g) ⟨a⟩ ⟨b⟩) (hs : F P g ⟨l⟩ H S) (hl : a++args.map (dA t)++b=l) (k : ∀ v H',S v H'→VD P is (st v d t) H' (pre++[H]) R) : VD P (.go (.call fa args) d::is) t H pre R:=by
 subst hl;exact .callF hf hs k
end
def blk : Value→Option Nat
 | .slice (some a) _ _=>some a.block
 | _=>none
def Sep (v w : Value) : Prop:=∀ i,blk v=some i→blk w≠some i
theorem Sep.symm {v w : Value} (h : Sep v w) : Sep w v:=fun i h1 h2=>h i h2 h1
theorem Ow.lt {H0 H : Heap} {e : TypeId} {v : Value} {l : List Value} (h : Ow H0 H e v l) {i : Nat} (hb : blk v=some i) : i<H.next:=by
 rcases h with⟨rfl,_⟩|⟨j,_,h2,rfl,_⟩
 ·cases hb
 ·cases hb;exact h2
theorem Ow.nil {H0 H : Heap} {e : TypeId} : Ow H0 H e (.slice none 0 0) []:=.inl ⟨rfl,rfl⟩
theorem Ow.length {H0 H : Heap} {e : TypeId} {v : Value} {l : List Value} (h : Ow H0 H e v l) : ylen 0 H v=some (.int .i64 l.length):=h.sl.len
theorem Ow.push {H0 H : Heap} {e : TypeId} {bytes : Nat} {s : Value} {l r : List Value} (g : Grow H0 H) (hs : Ow H0 H e s l) (hok : r.all ok1=true) (hr : r≠[]) (hb : (2*(l.length+r.length)+256)*bytes≤281474976710656) (h2 : l.length+r.length≤281474976710656) :
  ∃ w H',yappend e 1 bytes (H.alloc (.cells ⟨r⟩ e true)) s (.slice (some ⟨H.next,0,none⟩) r.length r.length)=some (w,H')∧Ow H0 H' e w (l++r)∧Grow H0 H'∧Apart H H' s∧blk w=some (H.next+1)∧inBound H'.next 3 w=true∧H.next+1≤H'.next∧H'.cellsAt H.next=some (⟨r⟩,e,true):=by
 have hpos : r.length≠0:=fun h=>hr (List.length_eq_zero_iff.1 h)
 have hcell : (H.alloc (.cells ⟨r⟩ e true)).cellsAt H.next=some (⟨r⟩,e,true):=cells_alloc _ _ _ _
 have hsl : Sl (H.alloc (.cells ⟨r⟩ e true)) (.slice (some ⟨H.next,0,none⟩) r.length r.length) r:=.at (Nat.lt_succ_self _) hcell (Nat.le_refl _) rfl (by simp) (fun k x hx=>by simpa using hx)
 obtain⟨h3,_⟩:=hsl.source hpos
 have e48 : (2 : Nat) ^ 48=281474976710656:=by decide
 have hcond : ((⟨r⟩ : Array Value).toList.all fun y=>y.oneCell' && notTop y)=true:=hok
 have hn1 : (H.alloc (.cells ⟨r⟩ e true)).next=H.next+1:=rfl
 rcases hs with⟨rfl,rfl⟩|⟨i,i1,i2,rfl,i4⟩
 ·refine⟨.slice (some ⟨H.next+1,0,none⟩) r.length r.length,(H.alloc (.cells ⟨r⟩ e true)).alloc (.cells ⟨r⟩ e true),?_,?_,(g.alloc _).alloc _,?_,rfl,?_,?_,?_⟩
  ·simp only[yappend]
   rw[if_neg hpos,h3]
   simp only[]
   rw[e48,if_pos ⟨hcond,by simpa using hb,by simpa using h2⟩]
   simp
  ·exact .inr ⟨H.next+1,Nat.le_succ_of_le g.1,Nat.lt_succ_self _,rfl,cells_alloc (H.alloc (.cells ⟨r⟩ e true)) _ _ _⟩
  ·exact⟨Nat.le_succ_of_le (Nat.le_succ _),fun j hj _=>by rw[Heap.get_alloc,if_neg (by rw[hn1];omega),Heap.get_alloc,if_neg (by omega)]⟩
  ·simp only[inBound,decide_eq_true_eq];exact Nat.lt_succ_self _
  ·exact Nat.le_succ _
  ·rw[cells_alloc_ne _ _ (by rw[hn1];omega)];exact hcell
 ·have hii : (H.alloc (.cells ⟨r⟩ e true)).cellsAt i=some (⟨l⟩,e,true):=by rw[cells_alloc_ne _ _ i2];exact i4
  have hset : ((H.alloc (.cells ⟨r⟩ e true)).set i (lentO 0 (l.length*1) ⟨l⟩ e (H.next+1))).next=H.next+1:=rfl
  refine⟨.slice (some ⟨H.next+1,0,none⟩) (l.length+r.length) (l.length+r.length),((H.alloc (.cells ⟨r⟩ e true)).set i (lentO 0 (l.length*1) ⟨l⟩ e (H.next+1))).alloc (.cells ⟨l++r⟩ e true),?_,?_,((g.alloc _).set i1 _).alloc _,?_,rfl,?_,?_,?_⟩
  ·simp only[yappend]
   rw[if_neg hpos,h3]
   simp only[]
   rw[e48,if_pos ⟨hcond,hb,h2⟩]
   simp only[hii]
   rw[if_pos ⟨trivial,by simp,by simp,by omega⟩,if_neg (by omega),hn1]
   generalize lentO _ _ _ _ _=q
   congr 3
   rw[Nat.mul_one,Nat.zero_add]
   congr 2
   apply Array.toList_inj.1
   simp
  ·refine .inr ⟨H.next+1,Nat.le_succ_of_le g.1,Nat.lt_succ_self _,by simp,?_⟩
   have:=cells_alloc ((H.alloc (.cells ⟨r⟩ e true)).set i (lentO 0 (l.length*1) ⟨l⟩ e (H.next+1))) ⟨l++r⟩ e true
   exact this
  ·refine⟨Nat.le_succ_of_le (Nat.le_succ _),fun j hj hne=>?_⟩
   have hji : j≠i:=fun h=>hne 0 _ _ (by rw[h])
   rw[Heap.get_alloc,if_neg (by rw[hset];omega),Heap.get_set,if_neg hji,Heap.get_alloc,if_neg (by omega)]
  ·simp only[inBound,decide_eq_true_eq];exact Nat.lt_succ_self _
  ·exact Nat.le_succ _
  ·rw[cells_alloc_ne _ _ (by rw[hset];omega),cells_set_ne _ _ (by omega)];exact hcell
theorem arg_int {H : Type} {enc : TypeId×Value→H} {P : Program} {w : World} {base : Nat} {spare : Nat→Bool} {held : Bool} {t : TypeId} {k : IntKind} {n : Int} {d : DataW H} {ps : List MemPlace} (ht : P.underlying t=some (.int k))
  (h : DataW.Trod enc P w base spare held t (.int k n) d ps) : (Lit.int k n).wf=true:=by
 obtain⟨fuel,hf⟩:=h
 obtain⟨m,hm,_,hw⟩:=DataW.trod_int ht hf
 have e : n=m:=by simpa [Value.cells] using hm
 subst e
 exact hw
end Go.Xe
