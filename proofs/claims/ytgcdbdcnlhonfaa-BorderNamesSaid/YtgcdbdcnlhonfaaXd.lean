/- An executable reading of the model's code over an abstract heap (part 4): loads, stores and new objects. Conditions: none. -/
import Derived.Test.YtgcdbdcnlhonfaaXc
import Derived.Great.BuildSlice
namespace Go.Xe
open Go
theorem cell_at {w : World} {b : Nat} {c : Array Value} {el : TypeId} {fz : Nat×Nat} (h : w.heap[b]?=some (.cells c el fz)) (o : Nat) : w.cell? ⟨b,o,none⟩=c[o]?:=by
 simp[World.cell?,h]
theorem run_loadCellsFrom {P : Program} {w : World} {b : Nat} {c : Array Value} {el : TypeId} {fz : Nat×Nat} (h : w.heap[b]?=some (.cells c el fz)) (o : Nat) :
  ∀ (n i : Nat) (acc : Array Value),o+i+n≤c.size→(loadCellsFrom ⟨b,o,none⟩ i n acc).run P w=.ok (acc++c.extract (o+i) (o+i+n)) w:=by
 intro n
 induction n with
 | zero=>intro i acc hle;simp[loadCellsFrom];omega
 | succ n ih=>
  intro i acc hle
  have hlt : o+i<c.size:=by omega
  have hc : w.cell? ⟨b,o+i,none⟩=some c[o+i]:=by rw[cell_at h];exact Array.getElem?_eq_getElem hlt
  simp only[loadCellsFrom,Sem.run_bind,addr_add,run_load,hc,Result.andThen_ok]
  rw[ih (i+1) _ (by omega)]
  congr 1
  apply Array.ext
  ·simp;omega
  ·intro k h1 h2
   simp only[Array.getElem_append,Array.size_push,Array.getElem_push,Array.getElem_extract]
   by_cases h3 : k<acc.size
   ·simp[h3,show k<acc.size+1 by omega]
   ·by_cases h4 : k=acc.size
    ·subst h4;simp
    ·have : ¬ k<acc.size+1:=by omega
     simp only[this,h3,dif_neg,not_false_eq_true]
     congr 1;omega
theorem run_loadCells {P : Program} {w : World} {b : Nat} {c : Array Value} {el : TypeId} {fz : Nat×Nat} (h : w.heap[b]?=some (.cells c el fz)) (o n : Nat) (hle : o+n≤c.size) :
  (loadCells ⟨b,o,none⟩ n).run P w=.ok (c.extract o (o+n)) w:=by
 have:=run_loadCellsFrom (P:=P) h o n 0 #[] (by omega)
 simpa [loadCells] using this
theorem window {θ : Th} {c c' : Array Value} {base o n : Nat} (h : ∀ (k : Nat) (v : Value),c[k]?=some v→∃ v',c'[base+k]?=some v'∧VR θ v v') (hn : o+n≤c.size) (hz : n≠0) :
  base+o+n≤c'.size∧AR θ (c.extract o (o+n)) (c'.extract (base+o) (base+o+n)):=by
 have hsz : base+o+n≤c'.size:=by
  obtain⟨v',hv',_⟩:=h (o+n-1) _ (Array.getElem?_eq_getElem (by omega))
  have:=(Array.getElem?_eq_some_iff.1 hv').1
  omega
 refine⟨hsz,by simp;omega,fun k x y hx hy=>?_⟩
 rw[Array.getElem?_extract] at hx hy
 split at hx
 ·rename_i h1
  split at hy
  ·obtain⟨v',hv',hr⟩:=h _ _ hx
   rw[show base+(o+k)=base+o+k by omega,hy] at hv'
   cases hv';exact hr
  ·cases hy
 ·cases hx
def Heap.cellsAt (H : Heap) (i : Nat) : Option (Array Value×TypeId×Bool):=
 match H.get i with
 | some (.cells c el rw)=>some (c,el,rw)
 | _=>none
theorem Rel.cells {P : Program} {θ : Th} {H : Heap} {w : World} (h : Rel P θ H w) {i : Nat} {c : Array Value} {el : TypeId} {rw : Bool} (hi : H.cellsAt i=some (c,el,rw)) :
  H.get i=some (.cells c el rw)∧∃ p,θ i=some p∧∃ c' el' fz,w.heap[p.blk]?=some (.cells c' el' fz)∧p.rw=rw∧(rw=true→el'=el∧Thaw fz c'.size∧c'.size=p.sz∧p.st=P.cellsOf el) ∧
   ∀ (k : Nat) (v : Value),c[k]?=some v→∃ v',c'[p.base+k]?=some v'∧VR θ v v':=by
 unfold Heap.cellsAt at hi
 split at hi
 ·rename_i c0 el0 rw0 hg
  cases hi
  obtain⟨p,hp,hor⟩:=h.obj i _ hg rfl
  exact⟨hg,p,hp,hor⟩
 ·cases hi
def xload (P : Program) (H : Heap) (t : TypeId) (x : Value) : Option Value:=
 match x with
 | .pointer (some ⟨i,o,none⟩)=>match H.cellsAt i with
  | some (c,_,_)=>
   match P.underlying t,P.info? t with
   | some (.struct _),some inf|some (.array _ _),some inf=>if o+inf.size≤c.size∧inf.size≠0 then some (.agg (c.extract o (o+inf.size))) else none
   | some _,some _=>c[o]?
   | _,_=>none
  | none=>none
 | _=>none
theorem xload_ok {P : Program} {θ : Th} {H : Heap} {w : World} (hr : Rel P θ H w) {t : TypeId} {x x' v : Value} (h : xload P H t x=some v) (hx : VR θ x x') :
  ∃ v',(Instr.loadAt t x').run P w=.ok v' w∧VR θ v v':=by
 cases hx with
 | ptr hp=>
  rename_i i o p
  cases hc : H.cellsAt i with
  | none=>simp[xload,hc] at h
  | some y=>
   obtain⟨c,el,rw⟩:=y
   obtain⟨_,q,hq,c',el',fz,hw,_,_,hcells⟩:=hr.cells hc
   rw[hp] at hq;cases hq
   simp only[xload,hc] at h
   split at h
   ·rename_i inf hu hi
    split at h
    ·rename_i hb
     cases h
     obtain⟨h1,h2⟩:=window hcells hb.1 hb.2
     exact⟨_,by simp[Instr.loadAt,Instr.sureAddr,loadVar,run_isAgg hu,run_sizeOf' hi,run_loadCells hw _ _ h1],.agg h2.1 h2.2⟩
    ·cases h
   ·rename_i inf hu hi
    split at h
    ·rename_i hb
     cases h
     obtain⟨h1,h2⟩:=window hcells hb.1 hb.2
     exact⟨_,by simp[Instr.loadAt,Instr.sureAddr,loadVar,run_isAgg hu,run_sizeOf' hi,run_loadCells hw _ _ h1],.agg h2.1 h2.2⟩
    ·cases h
   ·rename_i d inf hns hna hu hi
    obtain⟨v',hv',hvr⟩:=hcells _ _ h
    refine⟨v',?_,hvr⟩
    have hag : (isAgg t).run P w=.ok false w:=by
     rw[run_isAgg hu]
     cases d<;>first|rfl|(exact absurd rfl (hns _))|(exact absurd rfl (hna _ _))
    have hcell : w.cell? ⟨p.blk,p.base+o,none⟩=some v':=by rw[cell_at hw];exact hv'
    simp[Instr.loadAt,Instr.sureAddr,loadVar,hag,hcell]
   ·cases h
 | _=>simp[xload] at h
def setCells : List Value→Nat→Array Value→Array Value
 | [],_,c=>c
 | v::vs,o,c=>setCells vs (o+1) (c.setIfInBounds o v)
theorem setCells_size (vs : List Value) : ∀ (o : Nat) (c : Array Value),(setCells vs o c).size=c.size:=by
 induction vs with
 | nil=>intro o c;rfl
 | cons v vs ih=>intro o c;rw[setCells,ih];simp
theorem setCells_window {θ : Th} : ∀ (vs vs' : List Value) (o base : Nat) (c c' : Array Value),vs.length=vs'.length→(∀ (i : Nat) (v w : Value),vs[i]?=some v→vs'[i]?=some w→VR θ v w) →
  o+vs.length≤c.size →
  (∀ (k : Nat) (v : Value),c[k]?=some v→∃ v',c'[base+k]?=some v'∧VR θ v v') →
  ∀ (k : Nat) (v : Value),(setCells vs o c)[k]?=some v→∃ v',(setCells vs' (base+o) c')[base+k]?=some v'∧VR θ v v':=by
 intro vs
 induction vs with
 | nil=>
  intro vs' o base c c' hl _ _ h k v hk
  cases vs' with
  | nil=>exact h k v hk
  | cons _ _=>simp at hl
 | cons x vs ih=>
  intro vs' o base c c' hl hv ho h k v hk
  cases vs' with
  | nil=>simp at hl
  | cons y vs'=>
   simp only[setCells] at hk ⊢
   simp only[List.length_cons] at ho hl
   refine ih vs' (o+1) base _ _ (by omega) (fun i a b ha hb=>hv (i+1) a b (by simpa using ha) (by simpa using hb)) (by simp;omega) ?_ k v hk
   intro j a ha
   rw[Array.getElem?_setIfInBounds] at ha ⊢
   by_cases e : o=j
   ·subst e
    simp[show o<c.size by omega] at ha
    subst ha
    obtain⟨z,hz,_⟩:=h o _ (Array.getElem?_eq_getElem (by omega))
    have hlt:=(Array.getElem?_eq_some_iff.1 hz).1
    exact⟨y,by simp[hlt],hv 0 x y rfl rfl⟩
   ·simp[e] at ha
    obtain⟨z,hz,hzr⟩:=h j a (by simpa using ha)
    exact⟨z,by rw[if_neg (by omega)];exact hz,hzr⟩
theorem oneCell_VR {θ : Th} {v w : Value} (h : VR θ v w) (h1 : v.oneCell'=true) (h2 : notTop v=true) : w.oneCell'=true:=by
 cases h<;>first|rfl|(simp[Value.oneCell'] at h1;done)|(simp[notTop] at h2)
theorem thaw_not {w : World} {b : Nat} {c : Array Value} {el : TypeId} {fz : Nat×Nat} (h : w.heap[b]?=some (.cells c el fz)) (hz : Thaw fz c.size) {o : Nat} (ho : o<c.size) : w.frozen? ⟨b,o,none⟩=false:=by
 obtain⟨lo,hi⟩:=fz
 rcases hz with hz|hz
 ·cases hz;simp[World.frozen?,h]
 ·simp only at hz
  simp[World.frozen?,h];omega
theorem run_storeCells {P : Program} {b : Nat} {el : TypeId} {fz : Nat×Nat} (o : Nat) : ∀ (vs : List Value) (i : Nat) (c : Array Value) (w : World),w.heap[b]?=some (.cells c el fz)→Thaw fz c.size →
  (∀ v∈vs,v.oneCell'=true)→o+i+vs.length≤c.size →
  ∃ w',(storeCells ⟨b,o,none⟩ vs i).run P w=.ok () w'∧w'.heap.size=w.heap.size∧(∀ k,k≠b→w'.heap[k]?=w.heap[k]?) ∧
   w'.heap[b]?=some (.cells (setCells vs (o+i) c) el fz)∧w'.os=w.os∧w'.tape=w.tape∧w'.output=w.output:=by
 intro vs
 induction vs with
 | nil=>intro i c w h _ _ _;exact⟨w,by simp[storeCells],rfl,fun _ _=>rfl,h,rfl,rfl,rfl⟩
 | cons v vs ih=>
  intro i c w h hth hone hle
  simp only[List.length_cons] at hle
  have hcell : w.cell? ⟨b,o+i,none⟩=some c[o+i]:=by rw[cell_at h];exact Array.getElem?_eq_getElem (by omega)
  have hfr : w.frozen? ⟨b,o+i,none⟩=false:=thaw_not h hth (by omega)
  have hstore : (store ⟨b,o+i,none⟩ v).run P w=.ok () (w.setCell ⟨b,o+i,none⟩ v):=by
   rw[run_store _ _ _ _ _ (hone v (by simp)),hcell];simp[hfr]
  have hb : (w.setCell ⟨b,o+i,none⟩ v).heap[b]?=some (.cells (c.setIfInBounds (o+i) v) el fz):=by
   obtain⟨hlt,hg⟩:=Array.getElem?_eq_some_iff.1 h
   simp only[World.setCell]
   rw[Array.getElem?_modify]
   simp[hlt,hg]
  obtain⟨w',h1,h2,h3,h4,h5,h6,h7⟩:=ih (i+1) _ _ hb (by simpa using hth) (fun x hx=>hone x (by simp[hx])) (by simp;omega)
  refine⟨w',?_,by rw[h2];simp,fun k hk=>?_,?_,h5,h6,h7⟩
  ·simp only[storeCells,Sem.run_bind,addr_add,hstore,Result.andThen_ok,h1]
  ·rw[h3 k hk];exact RowKit.Below.heap_setCell w _ v k hk
  ·rw[h4];rfl
def xstore (P : Program) (H : Heap) (t : TypeId) (x v : Value) : Option Heap:=
 match x with
 | .pointer (some ⟨i,o,none⟩)=>match H.cellsAt i,P.info? t with
  | some (c,el,true),some inf=>
   if notTop v=true∧v.cells.size=inf.size∧o+v.cells.size≤c.size∧v.cells.size≠0∧v.cells.toList.all (fun y=>y.oneCell' && notTop y)=true then
    some (H.set i (.cells (setCells v.cells.toList o c) el true))
   else none
  | _,_=>none
 | _=>none
theorem xstore_ok {P : Program} {θ : Th} {H H' : Heap} {w : World} (hr : Rel P θ H w) {t : TypeId} {x x' v v' : Value} (h : xstore P H t x v=some H') (hx : VR θ x x') (hv : VR θ v v') :
  ∃ w',(Instr.storeAt t x' v').run P w=.ok () w'∧Rel P θ H' w'∧Stp θ w θ w':=by
 cases hx with
 | ptr hp=>
  rename_i i o p
  simp only[xstore] at h
  split at h
  ·rename_i c el inf hc hi
   split at h
   ·rename_i hcond
    obtain⟨h1,h2,h3,h4,h5⟩:=hcond
    cases h
    obtain⟨hg,q,hq,c',el',fz,hw,hrw,hfz,hcells⟩:=hr.cells hc
    rw[hp] at hq;cases hq
    obtain⟨rfl,hth,hsz,hst⟩:=hfz rfl
    have hvc:=hv.cells (notTop_ne h1)
    have hall:=List.all_eq_true.1 h5
    have hone : ∀ y∈v'.cells.toList,y.oneCell'=true:=by
     intro y hy
     obtain⟨k,hk⟩:=Array.getElem?_of_mem (Array.mem_toList_iff.1 hy)
     obtain⟨hk1,hk2⟩:=Array.getElem?_eq_some_iff.1 hk
     have hk3 : k<v.cells.size:=by rw[hvc.1];exact hk1
     have hx0 : v.cells[k]?=some v.cells[k]:=Array.getElem?_eq_getElem hk3
     have:=hall v.cells[k] (Array.mem_toList_iff.2 (Array.getElem_mem _))
     simp only[Bool.and_eq_true] at this
     exact oneCell_VR (hvc.2 k _ _ hx0 hk) this.1 this.2
    obtain⟨hlast,_⟩:=window hcells (o:=o) (n:=v.cells.size) h3 h4
    obtain⟨w',e1,e2,e3,e4,e5,e6,e7⟩:=run_storeCells (P:=P) (p.base+o) v'.cells.toList 0 c' w hw hth hone (by simp[← hvc.1];omega)
    have hrun : (Instr.storeAt t (.pointer (some ⟨p.blk,p.base+o,none⟩)) v').run P w=.ok () w':=by
     have : ¬ (v'.cells.size≠inf.size):=by rw[← hvc.1,h2];simp
     simp only[Instr.storeAt,Instr.sureAddr,Sem.run_bind,Sem.run_pure,Result.andThen_ok,storeVar,run_sizeOf' hi,if_neg this,e1]
    refine⟨w',hrun,?_⟩
    refine hr.write hg rfl hp hrw e2 e3 e5 e6 e7 ⟨_,_,_,e4,hrw,fun _=>⟨rfl,by rw[setCells_size];exact hth,by rw[setCells_size];exact hsz,hst⟩,?_⟩
    exact setCells_window v.cells.toList v'.cells.toList o p.base c c' (by simpa using hvc.1) (fun i a b ha hb=>hvc.2 i a b (by simpa using ha) (by simpa using hb)) (by simpa using h3) hcells
   ·cases h
  ·cases h
 | _=>simp[xstore] at h
def Pl.new (P : Program) (w : World) (el : TypeId) (n : Nat) : Pl:={ blk:=w.heap.size,base:=0,sz:=n,st:=P.cellsOf el,rw:=true }
theorem alloc_at (w : World) (o : Obj) : (w.alloc o).heap[w.heap.size]?=some o:=World.alloc_heap_new w o
theorem Rel.allocCells {P : Program} {θ : Th} {H : Heap} {w : World} (h : Rel P θ H w) {c c' : Array Value} (el : TypeId) (hc : AR θ c c') :
  Rel P (θ.put H.next (Pl.new P w el c'.size)) (H.alloc (.cells c el true)) (w.alloc (.cells c' el)) ∧
   Stp θ w (θ.put H.next (Pl.new P w el c'.size)) (w.alloc (.cells c' el)):=by
 refine h.alloc _ _ _ rfl rfl ⟨c',_,(0,0),alloc_at _ _,rfl,fun _=>⟨rfl,.inl rfl,rfl,rfl⟩,fun k v hk=>?_⟩
 obtain⟨v',hv',hr⟩:=hc.get hk
 exact⟨v',by simpa [Pl.new] using hv',hr.ext (Th.ext_put h.fresh)⟩
def xbox (H : Heap) (el : TypeId) (v : Value) : Option (Value×Heap):=
 if notTop v then some (.pointer (some ⟨H.next,0,none⟩),H.alloc (.cells v.cells el true)) else none
def NewOk (P : Program) (θ : Th) (w : World) (s : Sem Value) (v : Value) (H' : Heap) : Prop:=
 ∃ v' w' θ',s.run P w=.ok v' w'∧Stp θ w θ' w'∧Rel P θ' H' w'∧VR θ' v v'
theorem xbox_ok {P : Program} {θ : Th} {H H' : Heap} {w : World} (hr : Rel P θ H w) {el : TypeId} {v v' r : Value} (h : xbox H el v=some (r,H')) (hv : VR θ v v') :
  NewOk P θ w (Instr.box el v') r H':=by
 unfold xbox at h
 split at h
 ·rename_i hn
  cases h
  obtain⟨h1,h2⟩:=hr.allocCells el (hv.cells (notTop_ne hn))
  refine⟨.pointer (some ⟨w.heap.size,0,none⟩),_,_,?_,h2,h1,?_⟩
  ·simp[Instr.box,newVar,newRow]
  ·exact VR.ptr (p:=Pl.new P w el v'.cells.size) (o:=0) (Th.put_same _ _ _)
 ·cases h
def xalloc (P : Program) (H : Heap) (el : TypeId) : Option (Value×Heap):=
 match P.info? el with
 | some i=>match i.zero with
  | some z=>if plainV z then some (.pointer (some ⟨H.next,0,none⟩),H.alloc (.cells z.cells el true)) else none
  | none=>none
 | none=>none
theorem xalloc_ok {P : Program} {θ : Th} {H H' : Heap} {w : World} (hr : Rel P θ H w) {el : TypeId} {r : Value} (h : xalloc P H el=some (r,H')) :
  NewOk P θ w (Instr.alloc el true (.tuple #[])) r H':=by
 unfold xalloc at h
 split at h
 ·rename_i i hi
  split at h
  ·rename_i z hz
   split at h
   ·rename_i hp
    cases h
    obtain⟨h1,h2⟩:=hr.allocCells el (plain_cells hp)
    refine⟨.pointer (some ⟨w.heap.size,0,none⟩),_,_,?_,h2,h1,?_⟩
    ·simp[Instr.alloc,run_zeroValue' hi hz,newVar,newRow]
    ·exact VR.ptr (p:=Pl.new P w el z.cells.size) (o:=0) (Th.put_same _ _ _)
   ·cases h
  ·cases h
 ·cases h
theorem map_range0 {β : Type} (f : Nat→β) : (Array.range 0).map f=#[]:=Array.eq_empty_of_size_eq_zero (by simp)
def zeros (z : Array Value) (n : Nat) : Array Value:=(Array.range n).map (fun i=>z[i%z.size]!)
theorem zeros_rel {θ : Th} {z : Array Value} (h : z.toList.all atomV=true) (n : Nat) (hz : z.size≠0) : AR θ (zeros z n) (zeros z n):=by
 refine AR.atoms (List.all_eq_true.2 fun v hv=>?_)
 simp only[zeros,Array.toList_map,List.mem_map] at hv
 obtain⟨i,_,rfl⟩:=hv
 have hlt : i%z.size<z.size:=Nat.mod_lt _ (by omega)
 rw[getElem!_pos z _ hlt]
 exact List.all_eq_true.1 h _ (Array.mem_toList_iff.2 (Array.getElem_mem hlt))
def xbuildSlice (P : Program) (H : Heap) (t : TypeId) (len : Nat) (parts : List (Nat×Value)) : Option (Value×Heap):=
 match P.underlying t with
 | some (.slice e)=>match P.info? e with
  | some ie=>
   if len*ie.size > 2 ^ 24 then none
   else if len*ie.size=0 then
    (if len=0∧parts.isEmpty=true then some (.slice (some ⟨H.next,0,none⟩) 0 0,H.alloc (.cells #[] e true)) else none)
   else match ie.zero with
   | some z=>
    if z.cells.toList.all atomV=true∧z.cells.size≠0∧parts.all (fun x=>notTop x.2)=true then
     match Instr.fill (fun i=>some (i*ie.size,ie.size)) (zeros z.cells (len*ie.size)) parts with
     | some cs=>if cs.size=len*ie.size then some (.slice (some ⟨H.next,0,none⟩) len len,H.alloc (.cells cs e true)) else none
     | none=>none
    else none
   | none=>none
  | none=>none
 | _=>none
theorem xbuildSlice_ok {P : Program} {θ : Th} {H H' : Heap} {w : World} (hr : Rel P θ H w) {ρ ρ' : Operand→Value} {t : TypeId} {len : Nat} {parts : Array (Nat×Operand)} {r : Value}
  (h : xbuildSlice P H t len (xparts ρ parts)=some (r,H')) (hρ : ∀ x,VR θ (ρ x) (ρ' x)) :
  NewOk P θ w (Instr.buildSlice t len (parts.map fun (i,x)=>(i,ρ' x))) r H':=by
 unfold xbuildSlice at h
 split at h
 ·rename_i e hu
  split at h
  ·rename_i ie hie
   split at h
   ·cases h
   ·rename_i hsm
    have hst : P.cellsOf e=ie.size:=by simp[Program.cellsOf,hie]
    split at h
    ·rename_i hz0
     split at h
     ·rename_i hp
      obtain⟨rfl,hp⟩:=hp
      cases h
      obtain⟨h1,h2⟩:=hr.allocCells e (AR.nil (θ:=θ))
      have hnil : parts=#[]:=by
       simp only[xparts,List.isEmpty_iff,List.map_eq_nil_iff] at hp
       exact Array.toList_eq_nil_iff.1 hp
      subst hnil
      refine⟨.slice (some ⟨w.heap.size,0,none⟩) 0 0,_,_,?_,h2,h1,?_⟩
      ·simp[Instr.buildSlice,run_underlying hu,run_sizeOf' hie,Instr.fill,newRow,map_range0]
      ·exact VR.slice (p:=Pl.new P w e 0) (o:=0) (Th.put_same _ _ _) (Nat.le_refl _) (Nat.le_refl _) (fun _=>.inr (by simp[Pl.new]))
     ·cases h
    ·rename_i hz0
     split at h
     ·rename_i z hz
      split at h
      ·rename_i hc
       obtain⟨ha,hne,hnt⟩:=hc
       split at h
       ·rename_i cs hcs
        split at h
        ·rename_i hsz
         cases h
         obtain⟨cs',hcs',har⟩:=fill_rel _ _ _ _ _ _ (zeros_rel (θ:=θ) ha _ hne) (parts_rel hρ parts.toList hnt) hcs
         obtain⟨h1,h2⟩:=hr.allocCells e har
         refine⟨_,_,_,run_buildSlice w t e len _ cs' ie z hu hie hz hsm hz0 ?_,h2,h1,?_⟩
         ·have hl : (parts.map fun (i,x)=>(i,ρ' x)).toList=parts.toList.map fun x=>(x.1,ρ' x.2):=by simp
          rw[hl];exact hcs'
         ·refine VR.slice (p:=Pl.new P w e cs'.size) (o:=0) (Th.put_same _ _ _) (Nat.le_refl _) (Nat.le_refl _) (fun _=>.inr ?_)
          simp only[Pl.new,hst,← har.1,hsz];omega
        ·cases h
       ·cases h
      ·cases h
     ·cases h
  ·cases h
 ·cases h
def xmakeSlice (P : Program) (H : Heap) (t : TypeId) (len cap : Value) : Option (Value×Heap):=
 match len,cap,P.underlying t with
 | .int _ l,.int _ c,some (.slice e)=>match P.info? e with
  | some ie=>match ie.zero with
   | some z=>
    if 0≤l∧l≤c∧c*ie.bytes≤2 ^ 48∧c≤2 ^ 48∧z.cells.toList.all atomV=true∧z.cells.size≠0∧ie.size≠0 then
     some (.slice (some ⟨H.next,0,none⟩) l.toNat c.toNat,H.alloc (.cells (zeros z.cells (c.toNat*ie.size)) e true))
    else none
   | none=>none
  | none=>none
 | _,_,_=>none
theorem wrap64_id {n : Int} (h0 : 0≤n) (h1 : n≤2 ^ 48) : IntKind.i64.wrap n=n:=by
 have e : (2 : Int) ^ 48=281474976710656:=by decide
 rw[e] at h1
 have h2 : n%18446744073709551616=n:=Int.emod_eq_of_lt h0 (by omega)
 show (if (true && decide (n%18446744073709551616≥9223372036854775808))=true then _ else n%18446744073709551616)=n
 rw[h2,if_neg (by simp;omega)]
theorem xmakeSlice_ok {P : Program} {θ : Th} {H H' : Heap} {w : World} (hr : Rel P θ H w) {t : TypeId} {l l' c c' r : Value}
  (h : xmakeSlice P H t l c=some (r,H')) (hl : VR θ l l') (hc : VR θ c c') : NewOk P θ w (Instr.makeSlice t l' c') r H':=by
 cases hl with
 | int kl nl=>
  cases hc with
  | int kc nc=>
   cases hu : P.underlying t with
   | none=>simp[xmakeSlice,hu] at h
   | some d=>
    cases d<;>try (simp[xmakeSlice,hu] at h;done)
    rename_i e
    simp only[xmakeSlice,hu] at h
    split at h
    ·rename_i ie hie
     split at h
     ·rename_i z hz
      split at h
      ·rename_i hcond
       obtain⟨h1,h2,h3,h4,h5,h6,h7⟩:=hcond
       cases h
       obtain⟨g1,g2⟩:=hr.allocCells e (zeros_rel (θ:=θ) h5 (nc.toNat*ie.size) h6)
       have hst : P.cellsOf e=ie.size:=by simp[Program.cellsOf,hie]
       refine⟨.slice (some ⟨w.heap.size,0,none⟩) nl.toNat nc.toNat,_,_,?_,g2,g1,?_⟩
       ·have e1 : IntKind.i64.wrap nl=nl:=wrap64_id h1 (by omega)
        have e2 : IntKind.i64.wrap nc=nc:=wrap64_id (by omega) h4
        have hcond : ¬ ((decide (nc<0) || decide ((ie.bytes : Int)*nc > 2 ^ 48) || decide (nl<0) || decide (nl > nc))=true):=by
         rw[Int.mul_comm] at h3
         simp only[Bool.or_eq_true,decide_eq_true_eq]
         omega
        have hz2 : (if nc.toNat*ie.size=0 then pure #[] else do pure (← zeroValue e).cells : Sem (Array Value)).run P w=.ok (if nc.toNat*ie.size=0 then #[] else z.cells) w:=by
         split
         ·rfl
         ·simp[run_zeroValue' hie hz]
        simp only[Instr.makeSlice,Sem.run_bind,run_underlying hu,Result.andThen_ok,asInt,asIntOf,Sem.run_pure,run_typeInfo' hie,e1,e2,if_neg hcond,run_askRoom,run_sizeOf' hie,newRow]
        by_cases hn : nc.toNat*ie.size=0
        ·simp only[hn,if_true,zeros,map_range0];rfl
        ·simp only[if_neg hn,Sem.run_bind,run_zeroValue' hie hz,Result.andThen_ok,Sem.run_pure,run_newObj];rfl
       ·refine VR.slice (p:=Pl.new P w e _) (o:=0) (Th.put_same _ _ _) (by omega) (Nat.le_refl _) (fun _=>.inr ?_)
        simp[Pl.new,hst,zeros]
      ·cases h
     ·cases h
    ·cases h
  | _=>simp[xmakeSlice] at h
 | _=>simp[xmakeSlice] at h
end Go.Xe
