/- An executable reading of the model's code over an abstract heap (part 24): each operation's form for the machine, and that the machine's answer is the reading's. Conditions: none. -/
import Derived.Test.YtgcdbdcnlhonfaaXw
namespace Go.Xe
open Go
def repList (z : List Value) : Nat→List Value
 | 0=>[]
 | n+1=>z++repList z n
theorem repL_eq {z : List Value} : ∀ {n : Nat} {k : List Value→RF},repL z n k=k (repList z n)
 | 0,k=>rfl
 | n+1,k=>by
  have e : repL z (n+1) k=repL z n fun r=>catL r z k:=rfl
  rw[e,repL_eq (n:=n),catL_eq];rfl
theorem repList_length (z : List Value) : ∀ n,(repList z n).length=n*z.length
 | 0=>by simp[repList]
 | n+1=>by simp only[repList,List.length_append,repList_length z n];rw[Nat.succ_mul];omega
theorem repList_get (z : List Value) (hz : z.length≠0) : ∀ (n i : Nat),i<n*z.length→(repList z n)[i]?=z[i%z.length]?
 | 0,i,h=>by simp at h
 | n+1,i,h=>by
  simp only[repList]
  by_cases hi : i<z.length
  ·rw[List.getElem?_append_left hi,Nat.mod_eq_of_lt hi]
  ·rw[Nat.succ_mul] at h
   rw[List.getElem?_append_right (by omega),repList_get z hz n (i-z.length) (by omega)]
   have : i=(i-z.length)+z.length:=by omega
   conv=>rhs;rw[this,Nat.add_mod_right]
theorem zeros_rep (z : Array Value) (hz : z.size≠0) (m : Nat) : zeros z (m*z.size)=⟨repList z.toList m⟩:=by
 apply Array.ext'
 apply List.ext_getElem?
 intro i
 have hl : z.toList.length=z.size:=Array.length_toList
 by_cases hi : i<m*z.size
 ·rw[repList_get _ (by omega) _ _ (by omega),hl]
  simp only[zeros,Array.toList_map,Array.toList_range,List.getElem?_map]
  rw[List.getElem?_range (by omega)]
  have hlt : i%z.size<z.size:=Nat.mod_lt _ (by omega)
  simp[hlt]
 ·rw[List.getElem?_eq_none (by simp[zeros];omega),List.getElem?_eq_none (by rw[repList_length,hl];omega)]
section
variable {cp : Code→FCode} {P : Program} [Gl P]
theorem opMakeSlice_ok {ty e : TypeId} {ie : TypeInfo} {z : Value} (l q : Operand) (h1 : P.underlying ty=some (.slice e)) (h2 : P.info? e=some ie) (h3 : ie.zero=some z) (h4 : z.cells.size=ie.size) (h5 : ie.size≠0) (h6 : z.cells.toList.all atomV=true) :
  OpF cp P (opMakeSlice e ie.size ie.bytes z.cells.toList (compA P l) (compA P q)) (.makeSlice ty l q):=by
 intro t tm H Hs c ht hr h
 simp only[opMakeSlice,evA_comp ht,repL_eq] at h ⊢
 obtain⟨k1,n,e1,e2⟩:=asNat_good h
 rw[e2] at h ⊢
 obtain⟨k2,m,e3,e4⟩:=asNat_good h
 rw[e4] at h ⊢
 obtain⟨e5,e6⟩:=ifB_good h
 rw[e6] at h ⊢
 obtain⟨e7,e8⟩:=ifB_good h
 rw[e8] at h ⊢
 obtain⟨e9,e10⟩:=ifB_good h
 rw[e10] at h ⊢
 have hz : z.cells.size≠0:=by omega
 obtain⟨H',e11,e12⟩:=allocF_good hr (x:=.cells (repList z.cells.toList m) e true) (o:=.cells (zeros z.cells (m*ie.size)) e true) (by simp only[FOR];rw[← h4,zeros_rep _ hz]) h
 refine⟨_,H',_,e12,?_,e11⟩
 have g1 : n≤m:=Nat.le_of_ble_eq_true e5
 have g2 : m*ie.bytes≤281474976710656:=Nat.le_of_ble_eq_true e7
 have g3 : m≤281474976710656:=Nat.le_of_ble_eq_true e9
 have hn : Int.ofNat n=(n : Int):=rfl
 have hm : Int.ofNat m=(m : Int):=rfl
 have g4 : ((m : Int)*(ie.bytes : Int))=((m*ie.bytes : Nat) : Int):=by push_cast;rfl
 simp only[xop,xmakeSlice,e1,e3,h1,h2,h3]
 have hc : 0≤Int.ofNat n∧Int.ofNat n≤Int.ofNat m∧Int.ofNat m*ie.bytes≤2 ^ 48∧Int.ofNat m≤2 ^ 48∧z.cells.toList.all atomV=true∧z.cells.size≠0∧ie.size≠0:=
  ⟨by omega,by omega,by rw[hm,g4];omega,by omega,h6,hz,h5⟩
 refine (if_pos hc).trans ?_
 rfl
theorem opAppendMk_ok {ty uy e : TypeId} {k : IntKind} {ie : TypeInfo} {z : Value} {u : Array TypeId} (s x : Operand) (hu : u.toList=[ty,uy]) (h1 : P.underlying ty=some (.slice e)) (h1' : P.underlying uy=some (.int k)) (h2 : P.info? e=some ie) (h3 : ie.zero=some z)
  (h4 : z.cells.size=ie.size) (h5 : ie.size≠0) (h6 : z.cells.toList.all atomV=true) (h7 : ie.bytes≤1048576) : OpF cp P (opAppendMk e ie.size ie.bytes z.cells.toList (compA P s) (compA P x)) (.call { callee:=.builtin .append,args:=#[s,x],argTypes:=u }):=by
 intro t tm H Hs c ht hr h
 have hx : ∀ r,xappendMake P Hs ty (ev P tm s) (ev P tm x)=r→xop P Hs (ev P tm) (.call { callee:=.builtin .append,args:=#[s,x],argTypes:=u })=r:=by
  intro r hr
  simp only[xop,hu,List.map_toArray,List.map_cons,List.map_nil,xbuiltin,h1']
  exact hr
 unfold opAppendMk at h ⊢
 rw[evA_comp ht] at h ⊢
 rcases asSlice_good h with⟨bk,uo,m,cc,e1,e2⟩|⟨bk,uo,q,m,cc,e1,e2⟩|⟨m,cc,e1,e2⟩
 ·rw[e2] at h;exact not_good h
 ·rw[e2] at h;exact not_good h
 ·rw[e2] at h ⊢
  obtain⟨e3,e4⟩:=ifB_good h
  rw[e4] at h ⊢
  obtain⟨e5,e6⟩:=ifB_good h
  rw[e6] at h ⊢
  rw[evA_comp ht] at h ⊢
  obtain⟨k1,n,e7,e8⟩:=asNat_good h
  rw[e8] at h ⊢
  obtain⟨e9,e10⟩:=ifB_good h
  rw[e10] at h ⊢
  obtain⟨e11,e12⟩:=ifB_good h
  rw[e12] at h ⊢
  obtain⟨v,H',Hs',g1,g2,g3⟩:=opMakeSlice_ok (cp:=cp) x x h1 h2 h3 h4 h5 h6 t tm H Hs c ht hr h
  refine⟨v,H',Hs',g1,hx _ ?_,g3⟩
  have hm : m=0:=Nat.eq_of_beq_eq_true e3
  have hcc : cc=0:=Nat.eq_of_beq_eq_true e5
  subst hm hcc
  have hs : smallEl P ty=true:=by simp only[smallEl,h1,h2,h3,Bool.and_eq_true,decide_eq_true_eq];exact⟨h7,h4⟩
  have n1 : 1≤n:=Nat.le_of_ble_eq_true e9
  have n2 : n≤1048576:=Nat.le_of_ble_eq_true e11
  have hn : Int.ofNat n=(n : Int):=rfl
  have g2' : xmakeSlice P Hs ty (ev P tm x) (ev P tm x)=some (v,Hs'):=g2
  rw[e7] at g2'
  simp only[xappendMake,e1,e7,hs]
  rw[if_pos ⟨by omega,by omega,trivial⟩]
  exact g2'
theorem opClear_ok {ty e : TypeId} {ie : TypeInfo} {z : Value} {u : Array TypeId} (x : Operand) (h1 : P.underlying ty=some (.slice e)) (hu : u.toList=[ty]) (h2 : P.info? e=some ie) (h3 : ie.zero=some z) (h4 : z.cells.size=ie.size) (h5 : ie.size≠0) (h6 : z.cells.toList.all atomV=true) :
  OpF cp P (opClear ie.size z.cells.toList (compA P x)) (.call { callee:=.builtin .clear,args:=#[x],argTypes:=u }):=by
 intro t tm H Hs c ht hr h
 unfold opClear at h ⊢
 rw[evA_comp ht] at h ⊢
 have hx : ∀ r,xclear P Hs ty (ev P tm x)=r→xop P Hs (ev P tm) (.call { callee:=.builtin .clear,args:=#[x],argTypes:=u })=r:=by
  intro r hr
  simp only[xop,hu,List.map_toArray,List.map_cons,List.map_nil,xbuiltin]
  exact hr
 rcases asSlice_good h with⟨i,o,n,cc,e1,e2⟩|⟨i,o,q,n,cc,e1,e2⟩|⟨n,cc,e1,e2⟩
 ·rw[e2] at h ⊢
  cases n with
  | zero=>exact⟨undef,H,Hs,rfl,hx _ (by simp only[xclear,h1,e1,if_true];rfl),hr⟩
  | succ n=>
   have h' : Good (cellsF H i fun cd el rw=>ifB rw (repL z.cells.toList (Nat.succ n) fun cs=>spliceL cs o cd fun cd'=>setF H i (.cells cd' el true) fun H'=>c undef H') (.fail 95)):=h
   show ∃ v H' Hs',(cellsF H i fun cd el rw=>ifB rw (repL z.cells.toList (Nat.succ n) fun cs=>spliceL cs o cd fun cd'=>setF H i (.cells cd' el true) fun H'=>c undef H') (.fail 95))=c v H'∧_
   obtain⟨cd,el,rw',f1,f2⟩:=cellsF_good hr h'
   rw[f2] at h' ⊢
   obtain⟨f3,f4⟩:=ifB_good h'
   rw[f4,repL_eq] at h' ⊢
   subst f3
   obtain⟨r,f5,f6,f7⟩:=spliceL_good h'
   rw[f7] at h' ⊢
   obtain⟨H1,f8,f9⟩:=setF_good hr (x:=.cells r el true) (o:=.cells ⟨r⟩ el true) rfl h'
   refine⟨undef,H1,_,f9,hx _ ?_,f8⟩
   have hl : z.cells.toList.length=ie.size:=by rw[Array.length_toList,h4]
   have hzz : (zeros z.cells ((n+1)*ie.size)).toList=repList z.cells.toList (n+1):=by rw[← h4,zeros_rep _ (by omega)]
   have f5' : o+(n+1)*ie.size≤(⟨cd⟩ : Array Value).size:=by rw[repList_length,hl] at f5;simpa using f5
   have f6' : setCells (repList z.cells.toList (n+1)) o ⟨cd⟩=⟨r⟩:=f6
   simp only[xclear,h1,e1,h2,h3,f1]
   rw[if_neg (by omega),if_pos ⟨h6,h4,h5,f5'⟩,hzz,f6']
   rfl
 ·rw[e2] at h ⊢
  cases n with
  | zero=>exact⟨undef,H,Hs,rfl,hx _ (by simp only[xclear,h1,e1];rfl),hr⟩
  | succ n=>exact not_good h
 ·rw[e2] at h ⊢
  exact⟨undef,H,Hs,rfl,hx _ (by simp only[xclear,h1,e1];rfl),hr⟩
theorem copy1_ok {es i o j u n : Nat} {H : FH} {Hs : Heap} {c : Value→FH→RF} (hr : HR cp H Hs) (hes : es≠0) (h : Good (copy1 es i o j u n H c)) :
  (n=0∧copy1 es i o j u n H c=c (.int .i64 (.ofNat 0)) H)∨∃ cd el new,n≠0∧xsource Hs es n (some ⟨j,u,none⟩)=some new∧Hs.cellsAt i=some (cd,el,true)∧new.toList.all (fun y=>y.oneCell' && notTop y)=true∧o+n*es≤cd.size ∧
   ∃ H',copy1 es i o j u n H c=c (.int .i64 (.ofNat n)) H'∧HR cp H' (Hs.set i (.cells (setCells new.toList o cd) el true)):=by
 cases n with
 | zero=>exact .inl ⟨rfl,rfl⟩
 | succ n=>
  right
  have h' : Good (cellsF H j fun cx _ _=>subL (Nat.mul (Nat.succ n) es) u cx fun new=>allL new (cellsF H i fun cd el rw=>ifB rw (spliceL new o cd fun cd'=>setF H i (.cells cd' el true) fun H'=>gN (Nat.succ n) fun k=>c (.int .i64 (.ofNat k)) H') (.fail 160))):=h
  show ∃ cd el new,_∧_∧_∧_∧_∧∃ H',(cellsF H j fun cx _ _=>subL (Nat.mul (Nat.succ n) es) u cx fun new=>allL new (cellsF H i fun cd el rw=>ifB rw (spliceL new o cd fun cd'=>setF H i (.cells cd' el true) fun H'=>gN (Nat.succ n) fun k=>c (.int .i64 (.ofNat k)) H') (.fail 160)))=_∧_
  obtain⟨cx,el,rw',e3,e4⟩:=cellsF_good hr h'
  rw[e4] at h' ⊢
  obtain⟨e5,e6⟩:=subL_good h'
  rw[e6] at h' ⊢
  obtain⟨e7,e8⟩:=allL_good h'
  rw[e8] at h' ⊢
  obtain⟨cd,el2,rw2,f1,f2⟩:=cellsF_good hr h'
  rw[f2] at h' ⊢
  obtain⟨f3,f4⟩:=ifB_good h'
  rw[f4] at h' ⊢
  subst f3
  obtain⟨r,f5,f6,f7⟩:=spliceL_good h'
  rw[f7] at h' ⊢
  obtain⟨H1,f8,f9⟩:=setF_good hr (x:=.cells r el2 true) (o:=.cells ⟨r⟩ el2 true) rfl h'
  have e5' : u+(n+1)*es≤(⟨cx⟩ : Array Value).size:=by simpa using e5
  have hsz : ((⟨cx⟩ : Array Value).extract u (u+(n+1)*es)).toList.length=(n+1)*es:=by rw[Array.length_toList,Array.size_extract];omega
  refine⟨⟨cd⟩,el2,(⟨cx⟩ : Array Value).extract u (u+(n+1)*es),by omega,?_,f1,e7,?_,H1,?_,?_⟩
  ·simp only[xsource,e3]
   rw[if_pos ⟨e5',Nat.mul_ne_zero (by omega) hes⟩]
  ·have : o+((⟨cx⟩ : Array Value).extract u (u+(n+1)*es)).toList.length≤cd.length:=f5
   rw[hsz] at this
   simpa using this
  ·exact f9.trans (gN_eq _ _)
  ·have f6' : setCells ((⟨cx⟩ : Array Value).extract u (u+(n+1)*es)).toList o ⟨cd⟩=⟨r⟩:=f6
   rw[f6']
   exact f8
theorem opCopy_ok {ty uy e : TypeId} {ie : TypeInfo} {ts : Array TypeId} (d s : Operand) (hu : ts.toList=[ty,uy]) (h1 : P.underlying ty=some (.slice e)) (h2 : P.info? e=some ie) (h5 : ie.size≠0) :
  OpF cp P (opCopy ie.size (compA P d) (compA P s)) (.call { callee:=.builtin .copy,args:=#[d,s],argTypes:=ts }):=by
 intro t tm H Hs c ht hr h
 unfold opCopy at h ⊢
 rw[evA_comp ht,evA_comp ht] at h ⊢
 have hx : ∀ r,xcopy P Hs ty (ev P tm d) (ev P tm s)=r→xop P Hs (ev P tm) (.call { callee:=.builtin .copy,args:=#[d,s],argTypes:=ts })=r:=by
  intro r hr
  simp only[xop,hu,List.map_toArray,List.map_cons,List.map_nil,xbuiltin]
  exact hr
 rcases asSlice_good h with⟨i,o,dn,dc,e1,e2⟩|⟨i,o,q,n,cc,e1,e2⟩|⟨n,cc,e1,e2⟩
 ·rw[e2] at h ⊢
  rcases asSlice_good h with⟨j,u,m,sc,g1,g2⟩|⟨j,u,q,m,sc,g1,g2⟩|⟨m,sc,g1,g2⟩
  ·rw[g2] at h ⊢
   have key : ∀ n,n=min m dn→Good (copy1 ie.size i o j u n H c)→∃ v H' Hs',copy1 ie.size i o j u n H c=c v H'∧xop P Hs (ev P tm) (.call { callee:=.builtin .copy,args:=#[d,s],argTypes:=ts })=some (v,Hs')∧HR cp H' Hs':=by
    intro n hn hg
    rcases copy1_ok hr h5 hg with⟨k1,k2⟩|⟨cd,el,new,k1,k2,k3,k4,k5,H1,k6,k7⟩
    ·refine⟨_,H,Hs,k2,hx _ ?_,hr⟩
     simp only[xcopy,h1,e1,g1,h2]
     rw[if_pos (by omega)]
    ·refine⟨_,H1,_,k6,hx _ ?_,k7⟩
     simp only[xcopy,h1,e1,g1,h2]
     rw[← hn,if_neg k1,k2]
     simp only[k3]
     rw[if_pos ⟨k4,h5,k5⟩]
   cases hb : Nat.ble m dn with
   | true=>
    have : m≤dn:=Nat.le_of_ble_eq_true hb
    rw[hb] at h
    exact key m (by omega) h
   | false=>
    have : ¬ m≤dn:=fun hle=>by rw[Nat.ble_eq_true_of_le hle] at hb;cases hb
    rw[hb] at h
    exact key dn (by omega) h
  ·rw[g2] at h ⊢
   cases m with
   | zero=>exact⟨_,H,Hs,rfl,hx _ (by simp only[xcopy,h1,e1,g1,h2];rw[if_pos (by omega)]),hr⟩
   | succ m=>exact not_good h
  ·rw[g2] at h ⊢
   cases m with
   | zero=>exact⟨_,H,Hs,rfl,hx _ (by simp only[xcopy,h1,e1,g1,h2];rw[if_pos (by omega)]),hr⟩
   | succ m=>exact not_good h
 ·rw[e2] at h;exact not_good h
 ·rw[e2] at h;exact not_good h
theorem opCap_ok {ty e : TypeId} {u : Array TypeId} (x : Operand) (h1 : P.underlying ty=some (.slice e)) (hu : u.toList=[ty]) : OpF cp P (opCap (compA P x)) (.call { callee:=.builtin .cap,args:=#[x],argTypes:=u }):=by
 intro t tm H Hs c ht hr h
 unfold opCap at h ⊢
 rw[evA_comp ht] at h ⊢
 rcases asSlice_good h with⟨bk,uo,m,cc,e1,e2⟩|⟨bk,uo,q,m,cc,e1,e2⟩|⟨m,cc,e1,e2⟩
 ·rw[e2] at h;exact not_good h
 ·rw[e2] at h;exact not_good h
 ·rw[e2]
  refine⟨_,H,Hs,rfl,?_,hr⟩
  simp only[xop,hu,List.map_toArray,List.map_cons,List.map_nil,xbuiltin,xcap,h1,e1]
  rfl
end
def compCap (P : Program) [Gl P] (x : Operand) (ts : List TypeId) : FOp:=match ts with
 | [t]=>match P.underlying t with
  | some (.slice _)=>.cap (compA P x)
  | _=>badOp
 | _=>badOp
def compClear (P : Program) [Gl P] (x : Operand) (ts : List TypeId) : FOp:=match ts with
 | [t]=>match P.underlying t with
  | some (.slice e)=>match P.info? e with
   | some ie=>match ie.zero with
    | some z=>if z.cells.size=ie.size∧ie.size≠0∧z.cells.toList.all atomV=true then .clear ie.size z.cells.toList (compA P x) else badOp
    | none=>badOp
   | none=>badOp
  | _=>badOp
 | _=>badOp
def compCopy (P : Program) [Gl P] (d s : Operand) (ts : List TypeId) : FOp:=match ts with
 | [t,_]=>match P.underlying t with
  | some (.slice e)=>match P.info? e with
   | some ie=>if ie.size≠0 then .copy ie.size (compA P d) (compA P s) else badOp
   | none=>badOp
  | _=>badOp
 | _=>badOp
def compLen (P : Program) [Gl P] (x : Operand) (ts : List TypeId) : FOp:=match ts with
 | [t]=>match P.underlying t with
  | some (.slice _)=>.len 0 (compA P x)
  | some .string=>.len 1 (compA P x)
  | some (.map _ _)=>.len 2 (compA P x)
  | some (.array n _)=>.move (.con (.int .i64 (.ofNat n)))
  | _=>badOp
 | _=>badOp
def compAppend (P : Program) [Gl P] (s x : Operand) (ts : List TypeId) : FOp:=match ts with
 | [t,u]=>match P.underlying t,P.underlying u with
  | some (.slice e),some (.slice _)=>match P.info? e with
   | some ie=>match ie.zero with
    | some z=>if z.cells.size=ie.size∧ie.size≠0∧ie.bytes≠0 then .append e ie.size ie.bytes (compA P s) (compA P x) else badOp
    | none=>badOp
   | none=>badOp
  | some (.slice e),some (.int _)=>match P.info? e with
   | some ie=>match ie.zero with
    | some z=>if z.cells.size=ie.size∧ie.size≠0∧z.cells.toList.all atomV=true∧ie.bytes≤1048576 then .appendMk e ie.size ie.bytes z.cells.toList (compA P s) (compA P x) else badOp
    | none=>badOp
   | none=>badOp
  | _,_=>badOp
 | _=>badOp
def compParted (P : Program) [Gl P] (pl : Nat→Option (Nat×Nat)) (z : Value) (parts : Array (Nat×Operand)) : FOp:=
 if plainV z then match compParts P pl parts.toList with
  | some ps=>.build z.cells.toList ps
  | none=>badOp
 else badOp
def compOp (P : Program) [Gl P] (op : Op) : FOp:=
 match op with
 | .move x=>.move (compA P x)
 | .assign x=>.move (compA P x)
 | .pick q a b=>.pick (compA P q) (compA P a) (compA P b)
 | .alloc e=>match P.info? e with
  | some i=>match i.zero with
   | some z=>if plainV z then .alloc e z.cells.toList else badOp
   | none=>badOp
  | none=>badOp
 | .box e x=>.box e (compA P x)
 | .build t parts=>match P.info? t,P.underlying t with
  | some it,some (.array _ e)=>match it.zero,P.info? e with
   | some z,some ie=>compParted P (fun i=>some (i*ie.size,ie.size)) z parts
   | _,_=>badOp
  | some it,some (.struct fs)=>match it.zero,fs.toList.mapM (fun f=>(P.info? f.type).map fun i=>(f.offset,i.size)) with
   | some z,some places=>compParted P (places.toArray[·]?) z parts
   | _,_=>badOp
  | _,_=>badOp
 | .buildSlice t len parts=>match P.underlying t with
  | some (.slice e)=>match P.info? e with
   | some ie=>match len,parts.toList with
    | 0,[]=>.buildSlice e 0 [] []
    | _,l=>match ie.zero,compParts P (fun i=>some (i*ie.size,ie.size)) l with
     | some z,some ps=>if z.cells.toList.all atomV=true∧z.cells.size≠0∧¬ (len*ie.size > 2 ^ 24)∧len*ie.size≠0 then .buildSlice e len (zeros z.cells (len*ie.size)).toList ps else badOp
     | _,_=>badOp
   | none=>badOp
  | _=>badOp
 | .load t a=>match P.underlying t,P.info? t with
  | some (.struct _),some i|some (.array _ _),some i=>if i.size=0 then badOp else .loadN i.size (compA P a)
  | some _,some _=>.load1 (compA P a)
  | _,_=>badOp
 | .store t a x=>match P.info? t with
  | some i=>if i.size=0 then badOp else .store i.size (compA P a) (compA P x)
  | none=>badOp
 | .nilCheck x=>.nilCheck (compA P x)
 | .binOp op t x y _=>.bin op t (compA P x) (compA P y)
 | .unOp op _ x=>.un op (compA P x)
 | .convert src dst x=>match P.underlying src,P.underlying dst with
  | some _,some (.int k)=>.conv k (compA P x)
  | _,_=>badOp
 | .makeFunc (.func f) a b=>.makeFunc f (a.toList.map (compA P)) (b.toList.map (compA P))
 | .makeMap t none=>match P.underlying t with
  | some (.map kt _)=>.makeMap kt
  | _=>badOp
 | .makeMap t (some (.const (.int _ _)))=>match P.underlying t with
  | some (.map kt _)=>.makeMap kt
  | _=>badOp
 | .makeSlice t l c=>match P.underlying t with
  | some (.slice e)=>match P.info? e with
   | some ie=>match ie.zero with
    | some z=>if z.cells.size=ie.size∧ie.size≠0∧z.cells.toList.all atomV=true then .makeSlice e ie.size ie.bytes z.cells.toList (compA P l) (compA P c) else badOp
    | none=>badOp
   | none=>badOp
  | _=>badOp
 | .slice t x lo hi none=>match P.underlying t with
  | some (.slice e)=>match P.info? e with
   | some ie=>.slice e ie.size (compA P x) (lo.map (compA P)) (hi.map (compA P))
   | none=>badOp
  | some (.array _ _)=>.sliceSlow t (compA P x) (lo.map (compA P)) (hi.map (compA P))
  | some .string=>.sliceSlow t (compA P x) (lo.map (compA P)) (hi.map (compA P))
  | _=>badOp
 | .slice t x lo (some hi) (some m)=>match P.underlying t with
  | some (.slice e)=>match P.info? e with
   | some ie=>.slice3 e ie.size (compA P x) (lo.map (compA P)) (compA P hi) (compA P m)
   | none=>badOp
  | _=>badOp
 | .fieldAddr s x f=>match P.underlying s with
  | some (.struct fs)=>match fs[f]? with
   | some fd=>match P.info? fd.type with
    | some inf=>if inf.size=0 then badOp else .fieldAddr fd.offset (compA P x)
    | none=>badOp
   | none=>badOp
  | _=>badOp
 | .field t x f=>match P.underlying t with
  | some (.struct fs)=>match fs[f]? with
   | some fd=>match P.underlying fd.type,P.info? fd.type with
    | some (.struct _),some i|some (.array _ _),some i=>.fieldN fd.offset i.size (compA P x)
    | some _,some _=>.field1 fd.offset (compA P x)
    | _,_=>badOp
   | none=>badOp
  | _=>badOp
 | .indexAddr t x i=>match P.underlying t with
  | some (.slice e)=>match P.info? e with
   | some ie=>.indexAddr none ie.size (compA P x) (compA P i)
   | none=>badOp
  | some (.array n e)=>match P.info? e with
   | some ie=>.indexAddr (some n) ie.size (compA P x) (compA P i)
   | none=>badOp
  | _=>badOp
 | .index t x i=>match P.underlying t with
  | some (.array n e)=>match P.underlying e,P.info? e with
   | some (.struct _),some ie|some (.array _ _),some ie=>.index n ie.size false (compA P x) (compA P i)
   | some _,some ie=>if ie.size=1 then .index n ie.size true (compA P x) (compA P i) else badOp
   | _,_=>badOp
  | some .string=>.idxSlow t (compA P x) (compA P i)
  | _=>badOp
 | .lookup t x k ok=>match P.underlying t with
  | some (.map kt et)=>match P.info? et with
   | some ie=>match ie.zero with
    | some z=>if plainV z then .lookup kt z (compA P x) (compA P k) ok else badOp
    | none=>badOp
   | none=>badOp
  | _=>badOp
 | .mapUpdate t m k x=>match P.underlying t with
  | some (.map kt _)=>.mapUpdate kt (compA P m) (compA P k) (compA P x)
  | _=>badOp
 | .insert t m k x=>match P.underlying t with
  | some (.map kt _)=>.mapUpdate kt (compA P m) (compA P k) (compA P x)
  | _=>badOp
 | .extract x i=>.extract (compA P x) i
 | .call { callee:=.builtin .len,args,argTypes }=>match args with
  | ⟨[x]⟩=>compLen P x argTypes.toList
  | _=>badOp
 | .call { callee:=.builtin .min,args,.. }=>.mm false (args.toList.map (compA P))
 | .call { callee:=.builtin .max,args,.. }=>.mm true (args.toList.map (compA P))
 | .call { callee:=.builtin .cap,args,argTypes }=>match args with
  | ⟨[x]⟩=>compCap P x argTypes.toList
  | _=>badOp
 | .call { callee:=.builtin .append,args,argTypes }=>match args with
  | ⟨[s,x]⟩=>compAppend P s x argTypes.toList
  | _=>badOp
 | .call { callee:=.builtin .clear,args,argTypes }=>match args with
  | ⟨[x]⟩=>compClear P x argTypes.toList
  | _=>badOp
 | .call { callee:=.builtin .copy,args,argTypes }=>match args with
  | ⟨[d,s]⟩=>compCopy P d s argTypes.toList
  | _=>badOp
 | .call { callee:=.value f,args,.. }=>.call (compA P f) (args.toList.map (compA P))
 | _=>badOp
theorem badOp_not {P : Program} {F : Nat→FFunc} {x : FX} {t : TT} {H : FH} {c : Value→FH→RF} {p : Prop} (h : Good (opF badOp P F x t H c)) : p:=not_good (n:=14) h
def OpFx (cp : Code→FCode) (P : Program) [Gl P] (F : Nat→FFunc) (x : FX) (f : FOp) (op : Op) : Prop:=∀ (t : TT) (tm : Array Value) (H : FH) (Hs : Heap) (c : Value→FH→RF),TR t tm→HR cp H Hs→Good (opF f P F x t H c) →
 ∃ v H' Hs',opF f P F x t H c=c v H'∧xop P Hs (ev P tm) op=some (v,Hs')∧HR cp H' Hs'
theorem OpFx.bad {cp : Code→FCode} {P : Program} [Gl P] {F : Nat→FFunc} {x : FX} {op : Op} : OpFx cp P F x badOp op:=by
 intro t tm H Hs c ht hr h
 exact badOp_not h
end Go.Xe
