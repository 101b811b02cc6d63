/- An executable reading of the model's code over an abstract heap (part 20): the code that the machine for the kernel runs, made out of a program's code; and that the machine's operations, when they do not fail, come to what the reading's operations come to. Conditions: none. -/
import Derived.Test.YtgcdbdcnlhonfaaXs
namespace Go.Xe
open Go
def compA (P : Program) [Gl P] : Operand→FA
 | .tmp t=>.tmp (pth t)
 | .const v=>.con (if plainV v then v else top)
 | .global g=>.con (if Gl.G P g then .pointer (some ⟨g,0,none⟩) else top)
 | .func f=>.con (.func (.func f) #[] #[])
theorem evA_comp {P : Program} [Gl P] {t : TT} {a : Array Value} (h : TR t a) (x : Operand) : evA t (compA P x)=ev P a x:=by
 cases x with
 | tmp i=>exact h.get i
 | const v=>rfl
 | global g=>rfl
 | func f=>rfl
theorem evL_comp {P : Program} [Gl P] {t : TT} {a : Array Value} (h : TR t a) : ∀ (l : List Operand) (k : List Value→RF),evL t (l.map (compA P)) k=k (l.map (ev P a))
 | [],k=>rfl
 | x::l,k=>by
  have e : evL t ((x::l).map (compA P)) k=hV (evA t (compA P x)) fun v=>evL t (l.map (compA P)) fun r=>k (v::r):=rfl
  rw[e,hV_eq,evL_comp h l,evA_comp h]
  rfl
def badOp : FOp:=.call (.con (.chan none)) []
def compParts (P : Program) [Gl P] (pl : Nat→Option (Nat×Nat)) : List (Nat×Operand)→Option (List (Nat×Nat×FA))
 | []=>some []
 | (i,x)::r=>match pl i with
  | some (off,size)=>match compParts P pl r with
   | some l=>some ((off,size,compA P x)::l)
   | none=>none
  | none=>none
def FJ.code : FJ→Code
 | .exit id=>.exit id
 | .ret=>.ret
def FOR (cp : Code→FCode) : FO→Option AO→Prop
 | .dead,_=>True
 | .cells c el rw,o=>o=some (.cells ⟨c⟩ el rw)
 | .map kt es ck,o=>o=some (.map kt ⟨es⟩ ck)
 | .deferred,o=>o=some (.deferred true)
 | .lent c el k,o=>o=some (.lent ⟨c⟩ el k)
 | .loop st pj t ps ca cb fa fb df,o=>∃ r : Loop,o=some (.loop r)∧r.state=st∧r.pending=pj.map FJ.code∧TR t r.tmps∧r.params.toList.map pth=ps∧r.assign=ca∧r.body=cb∧fa=cp ca∧fb=cp cb∧r.defers=df
def HR (cp : Code→FCode) (H : FH) (Hs : Heap) : Prop:=match H with
 | .mk nx t=>nx=Hs.next∧∀ i,FOR cp (getH t i) (Hs.get i)
section
variable {cp : Code→FCode}
theorem HR.obj {H : FH} {Hs : Heap} (h : HR cp H Hs) (i : Nat) : FOR cp (objF H i) (Hs.get i):=by
 cases H with
 | mk nx t=>exact h.2 i
theorem onCells_good {o : FO} {k : List Value→TypeId→Bool→RF} (h : Good (onCells o k)) : ∃ c el rw,o=.cells c el rw∧onCells o k=k c el rw:=by
 cases o with
 | cells c el rw=>exact⟨c,el,rw,rfl,rfl⟩
 | _=>exact not_good h
theorem onMap_good {o : FO} {k : TypeId→List MapEntry→Nat→RF} (h : Good (onMap o k)) : ∃ kt es ck,o=.map kt es ck∧onMap o k=k kt es ck:=by
 cases o with
 | map kt es ck=>exact⟨kt,es,ck,rfl,rfl⟩
 | _=>exact not_good h
theorem onLoop_good {o : FO} {k : LoopK} (h : Good (onLoop o k)) : ∃ st pj t ps ca cb fa fb df,o=.loop st pj t ps ca cb fa fb df∧onLoop o k=k st pj t ps ca cb fa fb df:=by
 cases o with
 | loop st pj t ps ca cb fa fb df=>exact⟨st,pj,t,ps,ca,cb,fa,fb,df,rfl,rfl⟩
 | _=>exact not_good h
theorem onDeferred_good {o : FO} {k : RF} (h : Good (onDeferred o k)) : o=.deferred∧onDeferred o k=k:=by
 cases o with
 | deferred=>exact⟨rfl,rfl⟩
 | _=>exact not_good h
theorem cellsF_good {H : FH} {Hs : Heap} (hr : HR cp H Hs) {i : Nat} {k : List Value→TypeId→Bool→RF} (h : Good (cellsF H i k)) :
  ∃ c el rw,Hs.cellsAt i=some (⟨c⟩,el,rw)∧cellsF H i k=k c el rw:=by
 obtain⟨c,el,rw,h1,h2⟩:=onCells_good h
 refine⟨c,el,rw,?_,h2⟩
 have:=hr.obj i
 rw[h1] at this
 simp only[FOR] at this
 simp only[Heap.cellsAt,this]
theorem mapF_good {H : FH} {Hs : Heap} (hr : HR cp H Hs) {i : Nat} {k : TypeId→List MapEntry→Nat→RF} (h : Good (onMap (objF H i) k)) :
  ∃ kt es ck,Hs.mapAt i=some (kt,⟨es⟩,ck)∧onMap (objF H i) k=k kt es ck:=by
 obtain⟨kt,es,ck,h1,h2⟩:=onMap_good h
 refine⟨kt,es,ck,?_,h2⟩
 have:=hr.obj i
 rw[h1] at this
 simp only[FOR] at this
 simp only[Heap.mapAt,this]
theorem setF_good {H : FH} {Hs : Heap} (hr : HR cp H Hs) {i : Nat} {x : FO} {o : AO} {k : FH→RF} (hx : FOR cp x (some o)) (h : Good (setF H i x k)) :
  ∃ H',HR cp H' (Hs.set i o)∧setF H i x k=k H':=by
 cases H with
 | mk nx t=>
  obtain⟨t',h1,h2⟩:=setH_good (x:=x) (t:=t) (i:=i) (k:=fun t'=>k (.mk nx t')) h
  refine⟨.mk nx t',⟨hr.1,?_⟩,h2⟩
  intro j
  rw[h1,Heap.get_set]
  by_cases hj : j=i
  ·rw[if_pos hj,if_pos hj];exact hx
  ·rw[if_neg hj,if_neg hj];exact hr.2 j
theorem allocF_good {H : FH} {Hs : Heap} (hr : HR cp H Hs) {x : FO} {o : AO} {k : Nat→FH→RF} (hx : FOR cp x (some o)) (h : Good (allocF H x k)) :
  ∃ H',HR cp H' (Hs.alloc o)∧allocF H x k=k Hs.next H':=by
 cases H with
 | mk nx t=>
  obtain⟨t',h1,h2⟩:=setH_good (x:=x) (t:=t) (i:=nx) (k:=fun t'=>gN (Nat.succ nx) fun nx'=>k nx (.mk nx' t')) h
  have hnx : nx=Hs.next:=hr.1
  refine⟨.mk (Nat.succ nx) t',⟨by rw[Heap.next_alloc,hnx],?_⟩,?_⟩
  ·intro j
   rw[h1,Heap.get_alloc,hnx]
   by_cases hj : j=Hs.next
   ·rw[if_pos hj,if_pos hj];exact hx
   ·rw[if_neg hj,if_neg hj];exact hr.2 j
  ·have e : allocF (.mk nx t) x k=setH x t nx fun t'=>gN (Nat.succ nx) fun nx'=>k nx (.mk nx' t'):=rfl
   rw[e,h2,gN_eq,hnx]
end
def OpF (cp : Code→FCode) (P : Program) [Gl P] (f : OpT) (op : Op) : Prop:=∀ (t : TT) (tm : Array Value) (H : FH) (Hs : Heap) (c : Value→FH→RF),TR t tm→HR cp H Hs→Good (f P t H c) →
 ∃ v H' Hs',f P t H c=c v H'∧xop P Hs (ev P tm) op=some (v,Hs')∧HR cp H' Hs'
section
variable {cp : Code→FCode} {P : Program} [Gl P]
theorem opMove_ok (x : Operand) : OpF cp P (opMove (compA P x)) (.move x):=by
 intro t tm H Hs c ht hr h
 refine⟨ev P tm x,H,Hs,?_,rfl,hr⟩
 simp only[opMove,hV_eq,evA_comp ht]
theorem opAssign_ok (x : Operand) : OpF cp P (opMove (compA P x)) (.assign x):=by
 intro t tm H Hs c ht hr h
 refine⟨ev P tm x,H,Hs,?_,rfl,hr⟩
 simp only[opMove,hV_eq,evA_comp ht]
theorem opPick_ok (q a b : Operand) : OpF cp P (opPick (compA P q) (compA P a) (compA P b)) (.pick q a b):=by
 intro t tm H Hs c ht hr h
 simp only[opPick,hV_eq,evA_comp ht] at h ⊢
 rcases asBool_good h with⟨h1,h2⟩|⟨h1,h2⟩|⟨_,_,h2⟩
 ·exact⟨_,H,Hs,h2,by simp only[xop,h1,if_true],hr⟩
 ·exact⟨_,H,Hs,h2,by simp only[xop,h1];rfl,hr⟩
 ·rw[h2] at h;exact not_good h
theorem opAlloc_ok {el : TypeId} {i : TypeInfo} {z : Value} (h1 : P.info? el=some i) (h2 : i.zero=some z) (h3 : plainV z=true) : OpF cp P (opAlloc el z.cells.toList) (.alloc el):=by
 intro t tm H Hs c ht hr h
 obtain⟨H',h4,h5⟩:=allocF_good hr (x:=.cells z.cells.toList el true) (o:=.cells z.cells el true) rfl h
 exact⟨_,H',_,h5,by simp only[xop,xalloc,h1,h2,h3,if_true];rfl,h4⟩
theorem opBox_ok (el : TypeId) (x : Operand) : OpF cp P (opBox el (compA P x)) (.box el x):=by
 intro t tm H Hs c ht hr h
 simp only[opBox,hV_eq,evA_comp ht] at h ⊢
 obtain⟨hn,h1⟩:=asCells_good h
 rcases h1 with⟨l,h1,h2⟩|⟨_,h1,h2⟩
 ·rw[h2] at h
  obtain⟨H',h4,h5⟩:=allocF_good hr (x:=.cells l el true) (o:=.cells ⟨l⟩ el true) rfl h
  refine⟨_,H',_,h2.trans h5,?_,h4⟩
  simp only[xop,xbox,h1,Value.cells];rfl
 ·rw[h2] at h
  obtain⟨H',h4,h5⟩:=allocF_good hr (x:=.cells [ev P tm x] el true) (o:=.cells (ev P tm x).cells el true) (by rw[h1];rfl) h
  refine⟨_,H',_,h2.trans h5,?_,h4⟩
  simp only[xop,xbox,hn,if_true];rfl
theorem opLoad1_ok {ty : TypeId} {d : TypeDesc} {i : TypeInfo} (x : Operand) (h1 : P.underlying ty=some d) (h2 : P.info? ty=some i) (hs : ∀ f,d≠.struct f) (ha : ∀ n e,d≠.array n e) :
  OpF cp P (opLoad1 (compA P x)) (.load ty x):=by
 intro t tm H Hs c ht hr h
 simp only[opLoad1,evA_comp ht] at h ⊢
 obtain⟨b,o,e1,e2⟩:=asPtr_good h
 rw[e2] at h
 obtain⟨cs,el,rw',e3,e4⟩:=cellsF_good hr h
 rw[e4] at h
 obtain⟨v,e5,e6⟩:=nthL_good h
 refine⟨v,H,Hs,e2.trans (e4.trans e6),?_,hr⟩
 have e7 : (⟨cs⟩ : Array Value)[o]?=some v:=by simpa using e5
 simp only[xop,xload,e1,e3,h1,h2]
 cases d with
 | struct f=>exact absurd rfl (hs f)
 | array n e=>exact absurd rfl (ha n e)
 | _=>simp only[e7,Option.map_some]
theorem opLoadN_ok {ty : TypeId} {d : TypeDesc} {i : TypeInfo} (x : Operand) (h1 : P.underlying ty=some d) (h2 : P.info? ty=some i) (hd : (∃ f,d=.struct f)∨∃ n e,d=.array n e) (hz : i.size≠0) :
  OpF cp P (opLoadN i.size (compA P x)) (.load ty x):=by
 intro t tm H Hs c ht hr h
 simp only[opLoadN,evA_comp ht] at h ⊢
 obtain⟨b,o,e1,e2⟩:=asPtr_good h
 rw[e2] at h
 obtain⟨cs,el,rw',e3,e4⟩:=cellsF_good hr h
 rw[e4] at h
 obtain⟨e5,e6⟩:=subL_good h
 refine⟨_,H,Hs,e2.trans (e4.trans e6),?_,hr⟩
 have e7 : o+i.size≤(⟨cs⟩ : Array Value).size:=by simpa using e5
 rcases hd with⟨f,rfl⟩|⟨n,e,rfl⟩<;>(simp only[xop,xload,e1,e3,h1,h2];rw[if_pos ⟨e7,hz⟩];rfl)
theorem opExtract_ok (x : Operand) (i : Nat) : OpF cp P (opExtract (compA P x) i) (.extract x i):=by
 intro t tm H Hs c ht hr h
 simp only[opExtract,evA_comp ht] at h ⊢
 obtain⟨l,e1,e2⟩:=asTuple_good h
 rw[e2] at h
 obtain⟨v,e3,e4⟩:=nthL_good h
 refine⟨v,H,Hs,e2.trans e4,?_,hr⟩
 have e7 : (⟨l⟩ : Array Value)[i]?=some v:=by simpa using e3
 simp only[xop,xextract,e1,e7,Option.map_some]
theorem opFieldAddr_ok {s : TypeId} {fs : Array Field} {fd : Field} {inf : TypeInfo} (x : Operand) {f : Nat} (h1 : P.underlying s=some (.struct fs)) (h2 : fs[f]?=some fd) (h3 : P.info? fd.type=some inf) (h4 : inf.size≠0) :
  OpF cp P (opFieldAddr fd.offset (compA P x)) (.fieldAddr s x f):=by
 intro t tm H Hs c ht hr h
 simp only[opFieldAddr,evA_comp ht,gN_eq] at h ⊢
 obtain⟨b,o,e1,e2⟩:=asPtr_good h
 refine⟨_,H,Hs,e2,?_,hr⟩
 simp only[xop,xfieldAddr,e1,h1,h2,h3,if_neg h4,Option.map_some];rfl
theorem opNil_ok (x : Operand) : OpF cp P (opNil (compA P x)) (.nilCheck x):=by
 intro t tm H Hs c ht hr h
 simp only[opNil,hV_eq,evA_comp ht] at h ⊢
 cases e : xnil (ev P tm x) with
 | none=>rw[e] at h;exact not_good h
 | some v=>
  refine⟨ev P tm x,H,Hs,rfl,?_,hr⟩
  have : v=ev P tm x:=by
   unfold xnil at e
   split at e
   ·cases e;rename_i h';exact h'.symm
   ·cases e;rename_i h';exact h'.symm
   ·cases e
  simp only[xop,e,this,Option.map_some]
theorem opStore_ok {ty : TypeId} {i : TypeInfo} (a x : Operand) (h1 : P.info? ty=some i) (hz : i.size≠0) : OpF cp P (opStore i.size (compA P a) (compA P x)) (.store ty a x):=by
 intro t tm H Hs c ht hr h
 simp only[opStore,hV_eq,evA_comp ht] at h ⊢
 obtain⟨b,o,e1,e2⟩:=asPtr_good h
 rw[e2] at h
 obtain⟨cs,el,rw',e3,e4⟩:=cellsF_good hr h
 rw[e4] at h
 obtain⟨e5,e6⟩:=ifB_good h
 rw[e6] at h
 subst e5
 obtain⟨hn,e7⟩:=asCells_good h
 rcases e7 with⟨l,e7,e8⟩|⟨hne,e7,e8⟩
 ·rw[e8] at h
  obtain⟨e9,e10⟩:=lenIs_good h
  rw[e10] at h
  obtain⟨e11,e12⟩:=allL_good h
  rw[e12] at h
  obtain⟨r,e13,e14,e15⟩:=spliceL_good h
  rw[e15] at h
  obtain⟨H',e16,e17⟩:=setF_good hr (x:=.cells r el true) (o:=.cells ⟨r⟩ el true) rfl h
  refine⟨undef,H',_,e2.trans (e4.trans (e6.trans (e8.trans (e10.trans (e12.trans (e15.trans e17)))))),?_,e16⟩
  have hc : (ev P tm x).cells=⟨l⟩:=by rw[e7];rfl
  simp only[xop,xstore,e1,e3,h1,hc]
  rw[if_pos ⟨hn,by simpa using e9,by simpa using e13,by simpa [e9] using hz,by simpa using e11⟩]
  simp only[e14,Option.map_some]
 ·rw[e8] at h
  obtain⟨e9,e10⟩:=lenIs_good h
  rw[e10] at h
  obtain⟨e11,e12⟩:=okCell_good h
  rw[e12] at h
  obtain⟨e13,e15⟩:=setL_good h
  rw[e15] at h
  obtain⟨H',e16,e17⟩:=setF_good hr (x:=.cells (cs.set o (ev P tm x)) el true) (o:=.cells ⟨cs.set o (ev P tm x)⟩ el true) rfl h
  refine⟨undef,H',_,e2.trans (e4.trans (e6.trans (e8.trans (e10.trans (e12.trans (e15.trans e17)))))),?_,e16⟩
  simp only[xop,xstore,e1,e3,h1,e7]
  have e9' : 1=i.size:=by simpa using e9
  rw[if_pos ⟨hn,by simpa using e9',by simp only[List.size_toArray,List.length_cons,List.length_nil];omega,by simp,by simpa using e11⟩]
  have : (⟨cs⟩ : Array Value).setIfInBounds o (ev P tm x)=⟨cs.set o (ev P tm x)⟩:=by apply Array.toList_inj.1;simp
  simp only[setCells,this,Option.map_some]
end
end Go.Xe
