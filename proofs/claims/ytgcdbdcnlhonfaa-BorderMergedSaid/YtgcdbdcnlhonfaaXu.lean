/- An executable reading of the model's code over an abstract heap (part 20): the code that the machine for the kernel runs, made out of a program's code; and that the machine's operations, when they do not fail, come to what the reading's operations come to. Conditions: none. -/
import Derived.Test.YtgcdbdcnlhonfaaXs
namespace Go.Xe
open Go
def compA (P : Program) [Gl P] : Operand→FA
 | .tmp t=>.tmp (pth t)
 | .const v=>.con (if plainV v then v else top)
 | .global g=>.con (if Gl.G P g then .pointer (some ⟨g,0,none⟩) else top)
 | .func f=>.con (.func (.func f) #[] #[])
theorem evA_comp {P : Program} [Gl P] {t : TT} {a : Array Value} (h : TR t a) (x : Operand) : evA t (compA P x)=ev P a x:=by
 cases x with
 | tmp i=>exact h.get i
 | const v=>rfl
 | global g=>rfl
 | func f=>rfl
theorem evL_comp {P : Program} [Gl P] {t : TT} {a : Array Value} (h : TR t a) : ∀ (l : List Operand) (k : List Value→RF),evL t (l.map (compA P)) k=k (l.map (ev P a))
 | [],k=>rfl
 | x::l,k=>by
  have e : evL t ((x::l).map (compA P)) k=hV (evA t (compA P x)) fun v=>evL t (l.map (compA P)) fun r=>k (v::r):=rfl
  rw[e,hV_eq,evL_comp h l,evA_comp h]
  rfl
def badOp : FOp:=.call (.con (.chan none)) []
def compParts (P : Program) [Gl P] (pl : Nat→Option (Nat×Nat)) : List (Nat×Operand)→Option (List (Nat×Nat×FA))
 | []=>some []
 | (i,x)::r=>match pl i with
  | some (off,size)=>match compParts P pl r with
   | some l=>some ((off,size,compA P x)::l)
   | none=>none
  | none=>none
def FJ.code : FJ→Code
 | .exit id=>.exit id
 | .ret=>.ret
def FOR (cp : Code→FCode) : FO→Option AO→Prop
 | .dead,_=>True
 | .cells c el rw,o=>o=some (.cells ⟨c⟩ el rw)
 | .map kt es ck,o=>o=some (.map kt ⟨es⟩ ck)
 | .deferred,o=>o=some (.deferred true)
 | .lent c el k,o=>o=some (.lent ⟨c⟩ el k)
 | .loop st pj t ps ca cb fa fb df,o=>∃ r : Loop,o=some (.loop r)∧r.state=st∧r.pending=pj.map FJ.code∧TR t r.tmps∧r.params.toList.map pth=ps∧r.assign=ca∧r.body=cb∧fa=cp ca∧fb=cp cb∧r.defers=df
def HR (cp : Code→FCode) (H : FH) (Hs : Heap) : Prop:=match H with
 | .mk nx t=>nx=Hs.next∧∀ i,FOR cp (getH t i) (Hs.get i)
section
variable {cp : Code→FCode}
theorem HR.obj {H : FH} {Hs : Heap} (h : HR cp H Hs) (i : Nat) : FOR cp (objF H i) (Hs.get i):=by
 cases H with
 | mk nx t=>exact h.2 i
theorem onCells_good {o : FO} {k : List Value→TypeId→Bool→RF} (h : Good (onCells o k)) : ∃ c el rw,o=.cells c el rw∧onCells o k=k c el rw:=by
 cases o with
 | cells c el rw=>exact⟨c,el,rw,rfl,rfl⟩
 | _=>exact not_good h
theorem onMap_good {o : FO} {k : TypeId→List MapEntry→Nat→RF} (h : Good (onMap o k)) : ∃ kt es ck,o=.map kt es ck∧onMap o k=k kt es ck:=by
 cases o with
 | map kt es ck=>exact⟨kt,es,ck,rfl,rfl⟩
 | _=>exact not_good h
theorem onLoop_good {o : FO} {k : LoopK} (h : Good (onLoop o k)) : ∃ st pj t ps ca cb fa fb df,o=.loop st pj t ps ca cb fa fb df∧onLoop o k=k st pj t ps ca cb fa fb df:=by
 cases o with
 | loop st pj t ps ca cb fa fb df=>exact⟨st,pj,t,ps,ca,cb,fa,fb,df,rfl,rfl⟩
 | _=>exact not_good h
theorem onDeferred_good {o : FO} {k : RF} (h : Good (onDeferred o k)) : o=.deferred∧onDeferred o k=k:=by
 cases o with
 | deferred=>exact⟨rfl,rfl⟩
 | _=>exact not_good h
theorem cellsF_good {H : FH} {Hs : Heap} (hr : HR cp H Hs) {i : Nat} {k : List Value→TypeId→Bool→RF} (h : Good (cellsF H i k)) :
  ∃ c el rw,Hs.cellsAt i=some (⟨c⟩,el,rw)∧cellsF H i k=k c el rw:=by
 obtain⟨c,el,rw,h1,h2⟩:=onCells_good h
 refine⟨c,el,rw,?_,h2⟩
 have:=hr.obj i
 rw[h1] at this
 simp only[FOR] at this
 simp only[Heap.cellsAt,this]
theorem mapF_good {H : FH} {Hs : Heap} (hr : HR cp H Hs) {i : Nat} {k : TypeId→List MapEntry→Nat→RF} (h : Good (onMap (objF H i) k)) :
  ∃ kt es ck,Hs.mapAt i=some (kt,⟨es⟩,ck)∧onMap (objF H i) k=k kt es ck:=by
 obtain⟨kt,es,ck,h1,h2⟩:=onMap_good h
 refine⟨kt,es,ck,?_,h2⟩
 have:=hr.obj i
 rw[h1] at this
 simp only[FOR] at this
 simp only[Heap.mapAt,this]
theorem setF_good {H : FH} {Hs : Heap} (hr : HR cp H Hs) {i : Nat} {x : FO} {o : AO} {k : FH→RF} (hx : FOR cp x (some o)) (h : Good (setF H i x k)) :
  ∃ H',HR cp H' (Hs.set i o)∧setF H i x k=k H':=by
 cases H with
 | mk nx t=>
  obtain⟨t',h1,h2⟩:=setH_good (x:=x) (t:=t) (i:=i) (k:=fun t'=>k (.mk nx t')) h
  refine⟨.mk nx t',⟨hr.1,?_⟩,h2⟩
  intro j
  rw[h1,Heap.get_set]
  by_cases hj : j=i
  ·rw[if_pos hj,if_pos hj];exact hx
  ·rw[if_neg hj,if_neg hj];exact hr.2 j
theorem allocF_good {H : FH} {Hs : Heap} (hr : HR cp H Hs) {x : FO} {o : AO} {k : Nat→FH→RF} (hx : FOR cp x (some o)) (h : Good (allocF H x k)) :
  ∃ H',HR cp H' (Hs.alloc o)∧allocF H x k=k Hs.next H':=by
 cases H with
 | mk nx t=>
  obtain⟨t',h1,h2⟩:=setH_good (x:=x) (t:=t) (i:=nx) (k:=fun t'=>gN (Nat.succ nx) fun nx'=>k nx (.mk nx' t')) h
  have hnx : nx=Hs.next:=hr.1
  refine⟨.mk (Nat.succ nx) t',⟨by rw[Heap.next_alloc,hnx],?_⟩,?_⟩
  ·intro j
   rw[h1,Heap.get_alloc,hnx]
   by_cases hj : j=Hs.next
   ·rw[if_pos hj,if_pos hj];exact hx
   ·rw[if_neg hj,if_neg hj];exact hr.2 j
  ·have e : allocF (.mk nx t) x k=setH x t nx fun t'=>gN (Nat.succ nx) fun nx'=>k nx (.mk nx' t'):=rfl
   rw[e,h2,gN_eq,hnx]
end
def OpF (cp : Code→FCode) (P : Program) [Gl P] (f : OpT) (op : Op) : Prop:=∀ (t : TT) (tm : Array Value) (H : FH) (Hs : Heap) (c : Value→FH→RF),TR t tm→HR cp H Hs→Good (f P t H c) →
 ∃ v H' Hs',f P t H c=c v H'∧xop P Hs (ev P tm) op=some (v,Hs')∧HR cp H' Hs'
section
variable {cp : Code→FCode} {P : Program} [Gl P]
theorem opMove_ok (x : Operand) : OpF cp P (opMove (compA P x)) (.move x):=by
 intro t tm H Hs c ht hr h
 refine⟨ev P tm x,H,Hs,?_,rfl,hr⟩
 simp only[opMove,hV_eq,evA_comp ht]
theorem opAssign_ok (x : Operand) : OpF cp P (opMove (compA P x)) (.assign x):=by
 intro t tm H Hs c ht hr h
 refine⟨ev P tm x,H,Hs,?_,rfl,hr⟩
 simp only[opMove,hV_eq,evA_comp ht]
theorem opPick_ok (q a b : Operand) : OpF cp P (opPick (compA P q) (compA P a) (compA P b)) (.pick q a b):=by
 intro t tm H Hs c ht hr h
 simp only[opPick,hV_eq,evA_comp ht] at h ⊢
 rcases asBool_good h with⟨h1,h2⟩|⟨h1,h2⟩|⟨_,_,h2⟩
 ·exact⟨_,H,Hs,h2,by simp only[xop,h1,if_true],hr⟩
 ·exact⟨_,H,Hs,h2,by simp only[xop,h1];rfl,hr⟩
 ·rw[h2] at h;exact not_good h
theorem opAlloc_ok {el : TypeId} {i : TypeInfo} {z : Value} (h1 : P.info? el=some i) (h2 : i.zero=some z) (h3 : plainV z=true) : OpF cp P (opAlloc el z.cells.toList) (.alloc el):=by
 intro t tm H Hs c ht hr h
 obtain⟨H',h4,h5⟩:=allocF_good hr (x:=.cells z.cells.toList el true) (o:=.cells z.cells el true) rfl h
 exact⟨_,H',_,h5,by simp only[xop,xalloc,h1,h2,h3,if_true];rfl,h4⟩
theorem opBox_ok (el : TypeId) (x : Operand) : OpF cp P (opBox el (compA P x)) (.box el x):=by
 intro t tm H Hs c ht hr h
 simp only[opBox,hV_eq,evA_comp ht] at h ⊢
 obtain⟨hn,h1⟩:=asCells_good h
 rcases h1 with⟨l,h1,h2⟩|⟨_,h1,h2⟩
 ·rw[h2] at h
  obtain⟨H',h4,h5⟩:=allocF_good hr (x:=.cells l el true) (o:=.cells ⟨l⟩ el true) rfl h
  refine⟨_,H',_,h2.trans h5,?_,h4⟩
  simp only[xop,xbox,h1,Value.cells];rfl
 ·rw[h2] at h
  obtain⟨H',h4,h5⟩:=allocF_good hr (x:=.cells [ev P tm x] el true) (o:=.cells (ev P tm x).cells el true) (by rw[h1];rfl) h
  refine⟨_,H',_,h2.trans h5,?_,h4⟩
  simp only[xop,xbox,hn,if_true];rfl
theorem opLoad1_ok {ty : TypeId} {d : TypeDesc} {i : TypeInfo} (x : Operand) (h1 : P.underlying ty=some d) (h2 : P.info? ty=some i) (hs : ∀ f,d≠.struct f) (ha : ∀ n e,d≠.array n e) :
  OpF cp P (opLoad1 (compA P x)) (.load ty x):=by
 intro t tm H Hs c ht hr h
 simp only[opLoad1,evA_comp ht] at h ⊢
 obtain⟨b,o,e1,e2⟩:=asPtr_good h
 rw[e2] at h
 obtain⟨cs,el,rw',e3,e4⟩:=cellsF_good hr h
 rw[e4] at h
 obtain⟨v,e5,e6⟩:=nthL_good h
 refine⟨v,H,Hs,e2.trans (e4.trans e6),?_,hr⟩
 have e7 : (⟨cs⟩ : Array Value)[o]?=some v:=by simpa using e5
 simp only[xop,xload,e1,e3,h1,h2]
 cases d with
 | struct f=>exact absurd rfl (hs f)
 | array n e=>exact absurd rfl (ha n e)
 | _=>simp only[e7,Option.map_some]
theorem opLoadN_ok {ty : TypeId} {d : TypeDesc} {i : TypeInfo} (x : Operand) (h1 : P.underlying ty=some d) (h2 : P.info? ty=some i) (hd : (∃ f,d=.struct f)∨∃ n e,d=.array n e) (hz : i.size≠0) :
  OpF cp P (opLoadN i.size (compA P x)) (.load ty x):=by
 intro t tm H Hs c ht hr h
 simp only[opLoadN,evA_comp ht] at h ⊢
 obtain⟨b,o,e1,e2⟩:=asPtr_good h
 rw[e2] at h
 obtain⟨cs,el,rw',e3,e4⟩:=cellsF_good hr h
 rw[e4] at h
 obtain⟨e5,e6⟩:=subL_good h
 refine⟨_,H,Hs,e2.trans (e4.trans e6),?_,hr⟩
 have e7 : o+i.size≤(⟨cs⟩ : Array Value).size:=by simpa using e5
 rcases hd with⟨f,rfl⟩|⟨n,e,rfl⟩<;>(simp only[xop,xload,e1,e3,h1,h2];rw[if_pos ⟨e7,hz⟩];rfl)
theorem opExtract_ok (x : Operand) (i : Nat) : OpF cp P (opExtract (compA P x) i) (.extract x i):=by
 intro t tm H Hs c ht hr h
 simp only[opExtract,evA_comp ht] at h ⊢
 obtain⟨l,e1,e2⟩:=asTuple_good h
 rw[e2] at h
 obtain⟨v,e3,e4⟩:=nthL_good h
 refine⟨v,H,Hs,e2.trans e4,?_,hr⟩
 have e7 : (⟨l⟩ : Array Value)[i]?=some v:=by simpa using e3
 simp only[xop,xextract,e1,e7,Option.map_some]
theorem opFieldAddr_ok {s : TypeId} {fs : Array Field} {fd : Field} {inf : TypeInfo} (x : Operand) {f : Nat} (h1 : P.underlying s=some (.struct fs)) (h2 : fs[f]?=some fd) (h3 : P.info? fd.type=some inf) (h4 : inf.size≠0) :
  OpF cp P (opFieldAddr fd.offset (compA P x)) (.fieldAddr s x f):=by
 intro t tm H Hs c ht hr h
 simp only[opFieldAddr,evA_comp ht,gN_eq] at h ⊢
 obtain⟨b,o,e1,e2⟩:=asPtr_good h
 refine⟨_,H,Hs,e2,?_,hr⟩
 simp only[xop,xfieldAddr,e1,h1,h2,h3,if_neg h4,Option.map_some];rfl
theorem opNil_ok (x : Operand) : OpF cp P (opNil (compA P x)) (.nilCheck x):=by
 intro t tm H Hs c ht hr h
 simp only[opNil,hV_eq,evA_comp ht] at h ⊢
 cases e : xnil (ev P tm x) with
 | none=>rw[e] at h;exact not_good h
 | some v=>
  refine⟨ev P tm x,H,Hs,rfl,?_,hr⟩
  have : v=ev P tm x:=by
   unfold xnil at e
   split at e
   ·cases e;rename_i h';exact h'.symm
   ·cases e;rename_i h';exact h'.symm
   ·cases e
  simp only[xop,e,this,Option.map_some]
theorem opStore_ok {ty : TypeId} {i : TypeInfo} (a x : Operand) (h1 : P.info? ty=some i) (hz : i.size≠0) : OpF cp P (opStore i.size (compA P a) (compA P x)) (.store ty a x):=by
 intro t tm H Hs c ht hr h
 simp only[opStore,hV_eq,evA_comp ht] at h ⊢
 obtain⟨b,o,e1,e2⟩:=asPtr_good h
 rw[e2] at h
 obtain⟨cs,el,rw',e3,e4⟩:=cellsF_good hr h
 rw[e4] at h
 obtain⟨e5,e6⟩:=ifB_good h
 rw[e6] at h
 subst e5
 obtain⟨hn,e7⟩:=asCells_good h
 rcases e7 with⟨l,e7,e8⟩|⟨hne,e7,e8⟩
 ·rw[e8] at h
  obtain⟨e9,e10⟩:=lenIs_good h
  rw[e10] at h
  obtain⟨e11,e12⟩:=allL_good h
  rw[e12] at h
  obtain⟨r,e13,e14,e15⟩:=spliceL_good h
  rw[e15] at h
  obtain⟨H',e16,e17⟩:=setF_good hr (x:=.cells r el true) (o:=.cells ⟨r⟩ el true) rfl h
  refine⟨undef,H',_,e2.trans (e4.trans (e6.trans (e8.trans (e10.trans (e12.trans (e15.trans e17)))))),?_,e16⟩
  have hc : (ev P tm x).cells=⟨l⟩:=by rw[e7];rfl
  simp only[xop,xstore,e1,e3,h1,hc]
  rw[if_pos ⟨hn,by simpa using e9,by simpa using e13,by simpa [e9] using hz,by simpa using e11⟩]
  simp only[e14,Option.map_some]
 ·rw[e8] at h
  obtain⟨e9,e10⟩:=lenIs_good h
  rw[e10] at h
  obtain⟨e11,e12⟩:=okCell_good h
  rw[e12] at h
  obtain⟨e13,e15⟩:=setL_good h
  rw[e15] at h
  obtain⟨H',e16,e17⟩:=setF_good hr (x:=.cells (cs.set o (ev P tm x)) el true) (o:=.cells ⟨cs.set o (ev P tm x)⟩ el true) rfl h
  refine⟨undef,H',_,e2.trans (e4.trans (e6.trans (e8.trans (e10.trans (e12.trans (e15.trans e17)))))),?_,e16⟩
  simp only[xop,xstore,e1,e3,h1,e7]
  have e9' : 1=i.size:=by simpa using e9
  rw[if_pos ⟨hn,by simpa using e9',by simp only[List.size_toArray,List.length_cons,List.length_nil];omega,by simp,by simpa using e11⟩]
  have : (⟨cs⟩ : Array Value).setIfInBounds o (ev P tm x)=⟨cs.set o (ev P tm x)⟩:=by apply Array.toList_inj.1;simp
  simp only[setCells,this,Option.map_some]
end
end Go.Xe
/- An executable reading of the model's code over an abstract heap (part 21): the machine's operations on numbers and on values of several cells. Conditions: none. -/
namespace Go.Xe
open Go
theorem wrap_nat {m : Nat} (h : m≤9223372036854775807) : IntKind.i64.wrap (.ofNat m)=.ofNat m:=by
 have h1 : (Int.ofNat m)=(m : Int):=rfl
 rw[h1]
 have h2 : ((m : Int)%2 ^ 64)=m:=by omega
 simp only[IntKind.wrap,IntKind.bits,h2]
 have h3 : ¬ ((IntKind.i64.signed && decide ((m : Int)≥2 ^ (64-1)))=true):=by
  simp only[Bool.and_eq_true,decide_eq_true_eq,not_and]
  intro _
  omega
 rw[if_neg h3]
theorem wrap_neg {m : Nat} (h : m≤9223372036854775807) : IntKind.i64.wrap (.negSucc m)=.negSucc m:=by
 have h1 : (Int.negSucc m)=-((m : Int)+1):=by omega
 rw[h1]
 have h2 : ((-((m : Int)+1))%2 ^ 64)=2 ^ 64-((m : Int)+1):=by omega
 simp only[IntKind.wrap,IntKind.bits,h2]
 have h3 : ((IntKind.i64.signed && decide ((2 ^ 64-((m : Int)+1))≥2 ^ (64-1)))=true):=by
  simp only[Bool.and_eq_true,decide_eq_true_eq]
  exact⟨rfl,by omega⟩
 rw[if_pos h3]
 omega
theorem wrapK_eq (k : IntKind) (z : Int) (c : Value→RF) : wrapK k z c=c (.int k (k.wrap z)):=gI_eq _ _
theorem wrapI_eq (z : Int) (c : Value→RF) : wrapI z c=c (.int .i64 (IntKind.i64.wrap z)):=by
 cases z with
 | ofNat m=>
  have e : wrapI (.ofNat m) c=gN m fun m=>ifB (Nat.ble m maxI) (c (.int .i64 (.ofNat m))) (wrapK .i64 (.ofNat m) c):=rfl
  rw[e,gN_eq]
  cases hb : Nat.ble m maxI with
  | true=>rw[ifB_t,wrap_nat (Nat.le_of_ble_eq_true hb)]
  | false=>rw[ifB_f,wrapK_eq]
 | negSucc m=>
  have e : wrapI (.negSucc m) c=gN m fun m=>ifB (Nat.ble m maxI) (c (.int .i64 (.negSucc m))) (wrapK .i64 (.negSucc m) c):=rfl
  rw[e,gN_eq]
  cases hb : Nat.ble m maxI with
  | true=>rw[ifB_t,wrap_neg (Nat.le_of_ble_eq_true hb)]
  | false=>rw[ifB_f,wrapK_eq]
theorem iLe_eq (a b : Int) : iLe a b=decide (a≤b):=by
 cases a with
 | ofNat m=>cases b with
  | ofNat n=>
   have e : iLe (.ofNat m) (.ofNat n)=Nat.ble m n:=rfl
   rw[e,Bool.eq_iff_iff,Nat.ble_eq,decide_eq_true_eq]
   exact Int.ofNat_le.symm
  | negSucc n=>
   have e : iLe (.ofNat m) (.negSucc n)=false:=rfl
   rw[e];symm;rw[decide_eq_false_iff_not];have : Int.ofNat m=(m : Int):=rfl;omega
 | negSucc m=>cases b with
  | ofNat n=>
   have e : iLe (.negSucc m) (.ofNat n)=true:=rfl
   rw[e];symm;rw[decide_eq_true_eq];have : Int.ofNat n=(n : Int):=rfl;omega
  | negSucc n=>
   have e : iLe (.negSucc m) (.negSucc n)=Nat.ble n m:=rfl
   rw[e,Bool.eq_iff_iff,Nat.ble_eq,decide_eq_true_eq]
   omega
theorem iEq_eq (a b : Int) : iEq a b=(a == b):=by
 rw[Bool.eq_iff_iff,beq_iff_eq]
 cases a with
 | ofNat m=>cases b with
  | ofNat n=>
   have e : iEq (.ofNat m) (.ofNat n)=Nat.beq m n:=rfl
   rw[e,Nat.beq_eq]
   exact⟨fun h=>by rw[h],fun h=>by cases h;rfl⟩
  | negSucc n=>
   have e : iEq (.ofNat m) (.negSucc n)=false:=rfl
   rw[e];constructor<;>(intro h;cases h)
 | negSucc m=>cases b with
  | ofNat n=>
   have e : iEq (.negSucc m) (.ofNat n)=false:=rfl
   rw[e];constructor<;>(intro h;cases h)
  | negSucc n=>
   have e : iEq (.negSucc m) (.negSucc n)=Nat.beq m n:=rfl
   rw[e,Nat.beq_eq]
   exact⟨fun h=>by rw[h],fun h=>by cases h;rfl⟩
theorem outB_eq (b : Bool) (c : Value→RF) : outB b c=c (.bool b):=by cases b<;>rfl
theorem outNB_eq (b : Bool) (c : Value→RF) : outNB b c=c (.bool !b):=by cases b<;>rfl
theorem outN_eq (n : Nat) (c : Value→RF) : outN n c=c (.int .i64 (.ofNat n)):=gN_eq _ _
section
variable {P : Program}
theorem binSlow_good {op : BinOp} {ty : TypeId} {x y : Value} {c : Value→RF} (h : Good (binSlow P op ty x y c)) : ∃ v,binSlow P op ty x y c=c v∧xbinOp P op ty x y=some v:=by
 cases e : xbinOp P op ty x y with
 | none=>unfold binSlow at h;rw[e] at h;exact not_good h
 | some v=>exact⟨v,by unfold binSlow;rw[e];exact forceV_eq _ _,rfl⟩
theorem xbinOp_of {op : BinOp} {ty : TypeId} {x y v : Value} (h : xbin P op ty x y=some v) : xbinOp P op ty x y=some v:=by simp only[xbinOp,h]
theorem xbin_int (op : BinOp) (ty : TypeId) (a b : Int) (v : Value) (h : (match op with
  | .add=>some (Value.int .i64 (IntKind.i64.wrap (a+b)))
  | .sub=>some (.int .i64 (IntKind.i64.wrap (a-b)))
  | .mul=>some (.int .i64 (IntKind.i64.wrap (a*b)))
  | .eql=>some (.bool (a == b))
  | .neq=>some (.bool (a != b))
  | .lss=>some (.bool (decide (a<b)))
  | .leq=>some (.bool (decide (a≤b)))
  | .gtr=>some (.bool (decide (a > b)))
  | .geq=>some (.bool (decide (a≥b)))
  | _=>none)=some v) : xbinOp P op ty (.int .i64 a) (.int .i64 b)=some v:=by
 apply xbinOp_of
 cases op<;>first|(cases h;done)|(rw[← h];simp[xbin])
theorem natBin_cases (f : Nat→Nat→(Value→RF)→RF) (slow : RF) (a b : Int) (c : Value→RF) :
  (∃ m n,a=.ofNat m∧b=.ofNat n∧natBin f slow a b c=f m n c)∨natBin f slow a b c=slow:=by
 cases a with
 | ofNat m=>cases b with
  | ofNat n=>exact .inl ⟨m,n,rfl,rfl,rfl⟩
  | negSucc n=>exact .inr rfl
 | negSucc m=>exact .inr rfl
theorem land_bv {m n : Nat} (hm : m≤maxI) (hn : n≤maxI) : IntKind.i64.wrap ((BitVec.ofInt IntKind.i64.bits (.ofNat m) &&& BitVec.ofInt IntKind.i64.bits (.ofNat n)).toNat : Int)=.ofNat (Nat.land m n):=by
 have e1 : ∀ q : Nat,q≤maxI→(BitVec.ofInt 64 (.ofNat q)).toNat=q:=by
  intro q hq
  have hq' : q≤9223372036854775807:=hq
  rw[BitVec.toNat_ofInt]
  have : (Int.ofNat q)=(q : Int):=rfl
  rw[this];omega
 have e2 : (BitVec.ofInt IntKind.i64.bits (.ofNat m) &&& BitVec.ofInt IntKind.i64.bits (.ofNat n)).toNat=Nat.land m n:=by
  rw[BitVec.toNat_and]
  show (BitVec.ofInt 64 _).toNat &&& (BitVec.ofInt 64 _).toNat=_
  rw[e1 m hm,e1 n hn];rfl
 rw[e2]
 apply wrap_nat
 have : Nat.land m n≤m:=Nat.and_le_left
 have hm' : m≤9223372036854775807:=hm
 omega
theorem lor_bv {m n : Nat} (hm : m≤maxI) (hn : n≤maxI) : IntKind.i64.wrap ((BitVec.ofInt IntKind.i64.bits (.ofNat m) ||| BitVec.ofInt IntKind.i64.bits (.ofNat n)).toNat : Int)=.ofNat (Nat.lor m n):=by
 have e1 : ∀ q : Nat,q≤maxI→(BitVec.ofInt 64 (.ofNat q)).toNat=q:=by
  intro q hq
  have hq' : q≤9223372036854775807:=hq
  rw[BitVec.toNat_ofInt]
  have : (Int.ofNat q)=(q : Int):=rfl
  rw[this];omega
 have e2 : (BitVec.ofInt IntKind.i64.bits (.ofNat m) ||| BitVec.ofInt IntKind.i64.bits (.ofNat n)).toNat=Nat.lor m n:=by
  rw[BitVec.toNat_or]
  show (BitVec.ofInt 64 _).toNat ||| (BitVec.ofInt 64 _).toNat=_
  rw[e1 m hm,e1 n hn];rfl
 rw[e2]
 apply wrap_nat
 have hm' : m<2 ^ 63:=by have : m≤9223372036854775807:=hm;omega
 have hn' : n<2 ^ 63:=by have : n≤9223372036854775807:=hn;omega
 have : Nat.lor m n<2 ^ 63:=Nat.or_lt_two_pow hm' hn'
 omega
theorem b64_good {op : BinOp} {ty : TypeId} {a b : Int} {c : Value→RF} (h : Good (b64 op (binSlow P op ty (.int .i64 a) (.int .i64 b) c) a b c)) :
  ∃ v,b64 op (binSlow P op ty (.int .i64 a) (.int .i64 b) c) a b c=c v∧xbinOp P op ty (.int .i64 a) (.int .i64 b)=some v:=by
 cases op with
 | add=>exact⟨_,wrapI_eq _ _,xbin_int _ _ _ _ _ rfl⟩
 | sub=>exact⟨_,wrapI_eq _ _,xbin_int _ _ _ _ _ rfl⟩
 | mul=>exact⟨_,wrapI_eq _ _,xbin_int _ _ _ _ _ rfl⟩
 | eql=>exact⟨_,outB_eq _ _,xbin_int _ _ _ _ _ (by simp only[iEq_eq])⟩
 | neq=>exact⟨_,outNB_eq _ _,xbin_int _ _ _ _ _ (by simp only[iEq_eq];rfl)⟩
 | lss=>exact⟨_,outNB_eq _ _,xbin_int _ _ _ _ _ (by simp only[iLe_eq];congr 2;rw[Bool.eq_iff_iff];simp)⟩
 | leq=>exact⟨_,outB_eq _ _,xbin_int _ _ _ _ _ (by simp only[iLe_eq])⟩
 | gtr=>exact⟨_,outNB_eq _ _,xbin_int _ _ _ _ _ (by simp only[iLe_eq];congr 2;rw[Bool.eq_iff_iff];simp)⟩
 | geq=>exact⟨_,outB_eq _ _,xbin_int _ _ _ _ _ (by simp only[iLe_eq];try rfl)⟩
 | xor=>exact binSlow_good (show Good (binSlow P .xor ty (.int .i64 a) (.int .i64 b) c) from h)
 | andNot=>exact binSlow_good (show Good (binSlow P .andNot ty (.int .i64 a) (.int .i64 b) c) from h)
 | quo=>
  have e:=natBin_cases (fun m n c=>Nat.rec (motive:=fun _=>RF) (.fail 31) (fun _ _=>ifB (Nat.ble m maxI) (outN (Nat.div m n) c) (.fail 31)) n) (binSlow P .quo ty (.int .i64 a) (.int .i64 b) c) a b c
  rcases e with⟨m,n,rfl,rfl,e⟩|e
  ·have e' : b64 .quo (binSlow P .quo ty (.int .i64 (.ofNat m)) (.int .i64 (.ofNat n)) c) (.ofNat m) (.ofNat n) c=_:=e
   rw[e'] at h ⊢
   cases n with
   | zero=>exact not_good h
   | succ n=>
    obtain⟨h1,h2⟩:=ifB_good h
    refine⟨_,h2.trans (outN_eq _ _),xbinOp_of ?_⟩
    have hm : m≤9223372036854775807:=Nat.le_of_ble_eq_true h1
    have hd : m/(n+1)≤m:=Nat.div_le_self _ _
    have hne : (Int.ofNat (n+1))≠0:=by intro h;cases h
    simp only[xbin,ne_eq,not_true,if_false,hne]
    congr 2
    exact wrap_nat (m:=m/(n+1)) (by omega)
  ·have e' : b64 .quo (binSlow P .quo ty (.int .i64 a) (.int .i64 b) c) a b c=_:=e
   rw[e'] at h ⊢
   exact binSlow_good h
 | rem=>
  have e:=natBin_cases (fun m n c=>Nat.rec (motive:=fun _=>RF) (.fail 31) (fun _ _=>outN (Nat.mod m n) c) n) (binSlow P .rem ty (.int .i64 a) (.int .i64 b) c) a b c
  rcases e with⟨m,n,rfl,rfl,e⟩|e
  ·have e' : b64 .rem (binSlow P .rem ty (.int .i64 (.ofNat m)) (.int .i64 (.ofNat n)) c) (.ofNat m) (.ofNat n) c=_:=e
   rw[e'] at h ⊢
   cases n with
   | zero=>exact not_good h
   | succ n=>
    refine⟨_,outN_eq _ _,xbinOp_of ?_⟩
    have hne : (Int.ofNat (n+1))≠0:=by intro h;cases h
    simp only[xbin,ne_eq,not_true,if_false,hne]
    rfl
  ·have e' : b64 .rem (binSlow P .rem ty (.int .i64 a) (.int .i64 b) c) a b c=_:=e
   rw[e'] at h ⊢
   exact binSlow_good h
 | and=>
  have e:=natBin_cases (fun m n c=>ifB (Nat.ble m maxI) (ifB (Nat.ble n maxI) (outN (Nat.land m n) c) (.fail 31)) (.fail 31)) (binSlow P .and ty (.int .i64 a) (.int .i64 b) c) a b c
  rcases e with⟨m,n,rfl,rfl,e⟩|e
  ·have e' : b64 .and (binSlow P .and ty (.int .i64 (.ofNat m)) (.int .i64 (.ofNat n)) c) (.ofNat m) (.ofNat n) c=_:=e
   rw[e'] at h ⊢
   obtain⟨h1,h2⟩:=ifB_good h
   rw[h2] at h
   obtain⟨h3,h4⟩:=ifB_good h
   refine⟨_,h2.trans (h4.trans (outN_eq _ _)),xbinOp_of ?_⟩
   simp only[xbin,ne_eq,not_true,if_false]
   rw[land_bv (Nat.le_of_ble_eq_true h1) (Nat.le_of_ble_eq_true h3)]
  ·have e' : b64 .and (binSlow P .and ty (.int .i64 a) (.int .i64 b) c) a b c=_:=e
   rw[e'] at h ⊢
   exact binSlow_good h
 | or=>
  have e:=natBin_cases (fun m n c=>ifB (Nat.ble m maxI) (ifB (Nat.ble n maxI) (outN (Nat.lor m n) c) (.fail 31)) (.fail 31)) (binSlow P .or ty (.int .i64 a) (.int .i64 b) c) a b c
  rcases e with⟨m,n,rfl,rfl,e⟩|e
  ·have e' : b64 .or (binSlow P .or ty (.int .i64 (.ofNat m)) (.int .i64 (.ofNat n)) c) (.ofNat m) (.ofNat n) c=_:=e
   rw[e'] at h ⊢
   obtain⟨h1,h2⟩:=ifB_good h
   rw[h2] at h
   obtain⟨h3,h4⟩:=ifB_good h
   refine⟨_,h2.trans (h4.trans (outN_eq _ _)),xbinOp_of ?_⟩
   simp only[xbin,ne_eq,not_true,if_false]
   rw[lor_bv (Nat.le_of_ble_eq_true h1) (Nat.le_of_ble_eq_true h3)]
  ·have e' : b64 .or (binSlow P .or ty (.int .i64 a) (.int .i64 b) c) a b c=_:=e
   rw[e'] at h ⊢
   exact binSlow_good h
 | shl=>
  have e:=natBin_cases (fun m n c=>ifB (Nat.ble n 62) (wrapI (.ofNat (Nat.mul m (Nat.pow 2 n))) c) (.fail 32)) (binSlow P .shl ty (.int .i64 a) (.int .i64 b) c) a b c
  rcases e with⟨m,n,rfl,rfl,e⟩|e
  ·have e' : b64 .shl (binSlow P .shl ty (.int .i64 (.ofNat m)) (.int .i64 (.ofNat n)) c) (.ofNat m) (.ofNat n) c=_:=e
   rw[e'] at h ⊢
   obtain⟨h1,h2⟩:=ifB_good h
   refine⟨_,h2.trans (wrapI_eq _ _),xbinOp_of ?_⟩
   have hn : n≤62:=Nat.le_of_ble_eq_true h1
   have h0 : ¬ (Int.ofNat n<0):=by have : Int.ofNat n=(n : Int):=rfl;omega
   simp only[xbin,if_neg h0]
   have e1 : min (Int.ofNat n).toNat IntKind.i64.bits=n:=by
    show min n 64=n
    omega
   rw[e1]
   congr 3
  ·have e' : b64 .shl (binSlow P .shl ty (.int .i64 a) (.int .i64 b) c) a b c=_:=e
   rw[e'] at h ⊢
   exact binSlow_good h
 | shr=>
  have e:=natBin_cases (fun m n c=>ifB (Nat.ble n 62) (outN (Nat.div m (Nat.pow 2 n)) c) (.fail 31)) (binSlow P .shr ty (.int .i64 a) (.int .i64 b) c) a b c
  rcases e with⟨m,n,rfl,rfl,e⟩|e
  ·have e' : b64 .shr (binSlow P .shr ty (.int .i64 (.ofNat m)) (.int .i64 (.ofNat n)) c) (.ofNat m) (.ofNat n) c=_:=e
   rw[e'] at h ⊢
   obtain⟨h1,h2⟩:=ifB_good h
   refine⟨_,h2.trans (outN_eq _ _),xbinOp_of ?_⟩
   have hn : n≤62:=Nat.le_of_ble_eq_true h1
   have h0 : ¬ (Int.ofNat n<0):=by have : Int.ofNat n=(n : Int):=rfl;omega
   simp only[xbin,if_neg h0]
   have e1 : min (Int.ofNat n).toNat IntKind.i64.bits=n:=by
    show min n 64=n
    omega
   rw[e1]
   congr 2
   show Int.fdiv (m : Int) (2 ^ n)=((m/2 ^ n : Nat) : Int)
   rw[Int.fdiv_eq_ediv_of_nonneg _ (Int.le_of_lt (Int.pow_pos (by decide)))]
   push_cast;try rfl
  ·have e' : b64 .shr (binSlow P .shr ty (.int .i64 a) (.int .i64 b) c) a b c=_:=e
   rw[e'] at h ⊢
   exact binSlow_good h
theorem is64_cases (k : IntKind) (x y : RF) : (k=.i64∧is64 k x y=x)∨is64 k x y=y:=by cases k<;>first|exact .inr rfl|exact .inl ⟨rfl,rfl⟩
theorem binF_good {op : BinOp} {ty : TypeId} {x y : Value} {c : Value→RF} (h : Good (binF P op ty x y c)) : ∃ v,binF P op ty x y c=c v∧xbinOp P op ty x y=some v:=by
 unfold binF at h ⊢
 rcases asInt_good (v:=x) (k:=fun kx a=>asInt y (fun ky b=>is64 kx (is64 ky (b64 op (binSlow P op ty x y c) a b c) (binSlow P op ty x y c)) (binSlow P op ty x y c)) (binSlow P op ty x y c)) (d:=binSlow P op ty x y c) with⟨kx,a,rfl,e1⟩|⟨_,e1⟩
 ·rw[e1] at h ⊢
  rcases asInt_good (v:=y) (k:=fun ky b=>is64 kx (is64 ky (b64 op (binSlow P op ty (.int kx a) y c) a b c) (binSlow P op ty (.int kx a) y c)) (binSlow P op ty (.int kx a) y c)) (d:=binSlow P op ty (.int kx a) y c) with⟨ky,b,rfl,e2⟩|⟨_,e2⟩
  ·rw[e2] at h ⊢
   rcases is64_cases kx (is64 ky (b64 op (binSlow P op ty (.int kx a) (.int ky b) c) a b c) (binSlow P op ty (.int kx a) (.int ky b) c)) (binSlow P op ty (.int kx a) (.int ky b) c) with⟨rfl,e3⟩|e3
   ·rw[e3] at h ⊢
    rcases is64_cases ky (b64 op (binSlow P op ty (.int .i64 a) (.int ky b) c) a b c) (binSlow P op ty (.int .i64 a) (.int ky b) c) with⟨rfl,e4⟩|e4
    ·rw[e4] at h ⊢
     exact b64_good h
    ·rw[e4] at h ⊢
     exact binSlow_good h
   ·rw[e3] at h ⊢
    exact binSlow_good h
  ·rw[e2] at h ⊢
   exact binSlow_good h
 ·rw[e1] at h ⊢
  exact binSlow_good h
variable {cp : Code→FCode}
theorem opBin_ok [Gl P] (op : BinOp) (ty : TypeId) (x y : Operand) (r : TypeId) : OpF cp P (opBin op ty (compA P x) (compA P y)) (.binOp op ty x y r):=by
 intro t tm H Hs c ht hr h
 simp only[opBin,evA_comp ht] at h ⊢
 obtain⟨v,e1,e2⟩:=binF_good h
 exact⟨v,H,Hs,e1,by simp only[xop,e2,Option.map_some],hr⟩
theorem opUn_ok [Gl P] (op : UnOp) (ty : TypeId) (x : Operand) : OpF cp P (opUn op (compA P x)) (.unOp op ty x):=by
 intro t tm H Hs c ht hr h
 simp only[opUn,evA_comp ht] at h ⊢
 cases e : xun op (ev P tm x) with
 | none=>rw[e] at h;exact not_good h
 | some v=>exact⟨v,H,Hs,forceV_eq _ _,by simp only[xop,e,Option.map_some],hr⟩
theorem opConv_ok [Gl P] {src dst : TypeId} {d : TypeDesc} {k : IntKind} (x : Operand) (h1 : P.underlying src=some d) (h2 : P.underlying dst=some (.int k)) : OpF cp P (opConv k (compA P x)) (.convert src dst x):=by
 intro t tm H Hs c ht hr h
 simp only[opConv,evA_comp ht,wrapI_eq,wrapK_eq] at h ⊢
 rcases asInt_good (v:=ev P tm x) (k:=fun _ n=>is64 k (c (.int .i64 (IntKind.i64.wrap n)) H) (c (.int k (k.wrap n)) H)) (d:=.fail 44) with⟨kd,n,e1,e2⟩|⟨_,e2⟩
 ·refine⟨.int k (k.wrap n),H,Hs,?_,?_,hr⟩
  ·rw[e2]
   rcases is64_cases k (c (.int .i64 (IntKind.i64.wrap n)) H) (c (.int k (k.wrap n)) H) with⟨rfl,e3⟩|e3<;>rw[e3]
  ·simp only[xop,xconv,e1,h1,h2,Option.map_some]
 ·rw[e2] at h;exact not_good h
end
end Go.Xe
