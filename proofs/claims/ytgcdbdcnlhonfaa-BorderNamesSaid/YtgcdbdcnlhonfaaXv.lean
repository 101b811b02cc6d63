/- An executable reading of the model's code over an abstract heap (part 22): the machine's operations on blocks, slices, maps and functions. Conditions: none. -/
import Derived.Test.YtgcdbdcnlhonfaaXu
namespace Go.Xe
open Go
theorem fill_step {pl : Nat→Option (Nat×Nat)} {i off size : Nat} {v : Value} {c c' : List Value} {l : List (Nat×Value)} (hp : pl i=some (off,size)) (hs : v.cells.size=size) (hle : off+size≤c.length)
  (hc : setCells v.cells.toList off ⟨c⟩=⟨c'⟩) : Instr.fill pl ⟨c⟩ ((i,v)::l)=Instr.fill pl ⟨c'⟩ l:=by
 simp only[Instr.fill,hp]
 have hle' : ¬ ((decide (v.cells.size≠size) || decide (off+v.cells.size > (⟨c⟩ : Array Value).size))=true):=by
  simp only[Bool.or_eq_true,decide_eq_true_eq]
  simp only[List.size_toArray]
  omega
 rw[if_neg hle']
 rw[← Array.foldl_toList,Array.toList_zipIdx,zip_setCells off _ 0,Nat.add_zero,hc]
theorem fill1_good {off size : Nat} {v : Value} {c : List Value} {k : List Value→RF} (h : Good (fill1 off size v c k)) :
  ∃ c',notTop v=true∧v.cells.size=size∧off+size≤c.length∧setCells v.cells.toList off ⟨c⟩=⟨c'⟩∧fill1 off size v c k=k c':=by
 unfold fill1 at h ⊢
 obtain⟨hn,h1⟩:=asCells_good h
 rcases h1 with⟨l,h1,h2⟩|⟨_,h1,h2⟩
 ·rw[h2] at h ⊢
  obtain⟨h3,h4⟩:=lenIs_good h
  rw[h4] at h ⊢
  obtain⟨r,h5,h6,h7⟩:=spliceL_good h
  subst h1
  exact⟨r,hn,by simpa [Value.cells] using h3,by rw[← h3];exact h5,h6,h7⟩
 ·rw[h2] at h ⊢
  obtain⟨h3,h4⟩:=lenIs_good h
  rw[h4,hV_eq] at h ⊢
  obtain⟨h5,h7⟩:=setL_good h
  have h3' : 1=size:=by simpa using h3
  refine⟨_,hn,by rw[h1];exact h3',by omega,?_,h7⟩
  rw[h1]
  apply Array.toList_inj.1
  simp[setCells]
theorem fillL_good {P : Program} [Gl P] {pl : Nat→Option (Nat×Nat)} {t : TT} {tm : Array Value} (ht : TR t tm) : ∀ {l : List (Nat×Operand)} {ps : List (Nat×Nat×FA)} {c : List Value} {k : List Value→RF},compParts P pl l=some ps →
  Good (fillL t ps c k)→∃ r,(l.map fun x=>(x.1,ev P tm x.2)).all (fun x=>notTop x.2)=true∧Instr.fill pl ⟨c⟩ (l.map fun x=>(x.1,ev P tm x.2))=some ⟨r⟩∧r.length=c.length∧fillL t ps c k=k r:=by
 intro l
 induction l with
 | nil=>
  intro ps c k hp h
  cases hp
  exact⟨c,rfl,rfl,rfl,rfl⟩
 | cons x l ih=>
  intro ps c k hp h
  obtain⟨i,x⟩:=x
  simp only[compParts] at hp
  split at hp
  ·rename_i off size hpl
   split at hp
   ·rename_i ps' hps
    cases hp
    have e : fillL t ((off,size,compA P x)::ps') c k=fill1 off size (evA t (compA P x)) c fun c'=>fillL t ps' c' k:=rfl
    rw[e] at h ⊢
    rw[evA_comp ht] at h ⊢
    obtain⟨c',h1,h2,h3,h4,h5⟩:=fill1_good h
    rw[h5] at h ⊢
    obtain⟨r,h6,h7,h8,h9⟩:=ih hps h
    have hlen : c'.length=c.length:=by
     have : ((⟨c'⟩ : Array Value)).size=(setCells (ev P tm x).cells.toList off ⟨c⟩).size:=by rw[h4]
     simpa [setCells_size] using this
    refine⟨r,?_,?_,h8.trans hlen,h9⟩
    ·simp only[List.map_cons,List.all_cons,h1,h6,Bool.and_self]
    ·simp only[List.map_cons]
     rw[fill_step hpl h2 h3 h4]
     exact h7
   ·cases hp
  ·cases hp
section
variable {cp : Code→FCode} {P : Program} [Gl P]
theorem opBuildA_ok {ty e : TypeId} {n : Nat} {it ie : TypeInfo} {z : Value} {parts : Array (Nat×Operand)} {ps : List (Nat×Nat×FA)} (h1 : P.info? ty=some it) (h2 : P.underlying ty=some (.array n e)) (h3 : it.zero=some z) (h4 : P.info? e=some ie) (h5 : plainV z=true)
  (h6 : compParts P (fun i=>some (i*ie.size,ie.size)) parts.toList=some ps) : OpF cp P (opBuild z.cells.toList ps) (.build ty parts):=by
 intro t tm H Hs c ht hr h
 simp only[opBuild] at h ⊢
 obtain⟨r,e1,e2,e3,e4⟩:=fillL_good ht h6 h
 refine⟨_,H,Hs,e4,?_,hr⟩
 simp only[xop,xparts,xbuild,h1,h2,h3,h4,h5,Bool.true_and]
 rw[if_pos e1,e2];rfl
theorem opBuildS_ok {ty : TypeId} {fs : Array Field} {it : TypeInfo} {z : Value} {parts : Array (Nat×Operand)} {ps : List (Nat×Nat×FA)} {places : List (Nat×Nat)} (h1 : P.info? ty=some it) (h2 : P.underlying ty=some (.struct fs)) (h3 : it.zero=some z)
  (h4 : fs.toList.mapM (fun f=>(P.info? f.type).map fun i=>(f.offset,i.size))=some places) (h5 : plainV z=true)
  (h6 : compParts P (places.toArray[·]?) parts.toList=some ps) : OpF cp P (opBuild z.cells.toList ps) (.build ty parts):=by
 intro t tm H Hs c ht hr h
 simp only[opBuild] at h ⊢
 obtain⟨r,e1,e2,e3,e4⟩:=fillL_good ht h6 h
 refine⟨_,H,Hs,e4,?_,hr⟩
 simp only[xop,xparts,xbuild,h1,h2,h3,h4,h5,Bool.true_and]
 rw[if_pos e1,e2];rfl
theorem opBuildSlice_ok {ty e : TypeId} {len : Nat} {ie : TypeInfo} {z : Value} {parts : Array (Nat×Operand)} {ps : List (Nat×Nat×FA)} (h2 : P.underlying ty=some (.slice e)) (h4 : P.info? e=some ie) (h3 : ie.zero=some z) (h5 : z.cells.toList.all atomV=true)
  (h7 : z.cells.size≠0) (h8 : ¬ (len*ie.size > 2 ^ 24)) (h9 : len*ie.size≠0)
  (h6 : compParts P (fun i=>some (i*ie.size,ie.size)) parts.toList=some ps) : OpF cp P (opBuildSlice e len (zeros z.cells (len*ie.size)).toList ps) (.buildSlice ty len parts):=by
 intro t tm H Hs c ht hr h
 simp only[opBuildSlice] at h ⊢
 obtain⟨r,e1,e2,e3,e4⟩:=fillL_good ht h6 h
 rw[e4] at h
 obtain⟨H',e5,e6⟩:=allocF_good hr (x:=.cells r e true) (o:=.cells ⟨r⟩ e true) rfl h
 refine⟨_,H',_,e4.trans e6,?_,e5⟩
 simp only[xop,xparts,xbuildSlice,h2,h4,h3]
 rw[if_neg h8,if_neg h9]
 refine (if_pos (And.intro h5 (And.intro h7 e1))).trans ?_
 have e2' : Instr.fill (fun i=>some (i*ie.size,ie.size)) (zeros z.cells (len*ie.size)) (List.map (fun x=>(x.1,ev P tm x.2)) parts.toList)=some ⟨r⟩:=e2
 rw[e2']
 have : (⟨r⟩ : Array Value).size=len*ie.size:=by
  simp only[List.size_toArray,e3,zeros]
  simp
 simp only[]
 rw[if_pos this]
theorem opBuildSlice0_ok {ty e : TypeId} {ie : TypeInfo} {parts : Array (Nat×Operand)} (h2 : P.underlying ty=some (.slice e)) (h4 : P.info? e=some ie) (h6 : parts.toList=[]) : OpF cp P (opBuildSlice e 0 [] []) (.buildSlice ty 0 parts):=by
 intro t tm H Hs c ht hr h
 have h' : Good (allocF H (.cells [] e true) fun i H'=>c (.slice (some ⟨i,0,none⟩) 0 0) H'):=h
 obtain⟨H',e5,e6⟩:=allocF_good hr (x:=.cells [] e true) (o:=.cells #[] e true) rfl h'
 refine⟨_,H',_,e6,?_,e5⟩
 simp only[xop,xparts,xbuildSlice,h2,h4,h6,Nat.zero_mul]
 simp
theorem opField1_ok {ty : TypeId} {fs : Array Field} {fd : Field} {d : TypeDesc} {i : TypeInfo} (x : Operand) {f : Nat} (h1 : P.underlying ty=some (.struct fs)) (h2 : fs[f]?=some fd) (h3 : P.underlying fd.type=some d) (h4 : P.info? fd.type=some i)
  (hs : ∀ f,d≠.struct f) (ha : ∀ n e,d≠.array n e) : OpF cp P (opField1 fd.offset (compA P x)) (.field ty x f):=by
 intro t tm H Hs c ht hr h
 simp only[opField1,evA_comp ht] at h ⊢
 obtain⟨l,e1,e2⟩:=asAgg_good h
 rw[e2] at h
 obtain⟨v,e3,e4⟩:=nthL_good h
 refine⟨v,H,Hs,e2.trans e4,?_,hr⟩
 have e7 : (⟨l⟩ : Array Value)[fd.offset]?=some v:=by simpa using e3
 simp only[xop,xfield,xpart,e1,h1,h2,h3,h4]
 cases d with
 | struct f=>exact absurd rfl (hs f)
 | array n e=>exact absurd rfl (ha n e)
 | _=>simp only[e7,Option.map_some]
theorem opFieldN_ok {ty : TypeId} {fs : Array Field} {fd : Field} {d : TypeDesc} {i : TypeInfo} (x : Operand) {f : Nat} (h1 : P.underlying ty=some (.struct fs)) (h2 : fs[f]?=some fd) (h3 : P.underlying fd.type=some d) (h4 : P.info? fd.type=some i)
  (hd : (∃ f,d=.struct f)∨∃ n e,d=.array n e) : OpF cp P (opFieldN fd.offset i.size (compA P x)) (.field ty x f):=by
 intro t tm H Hs c ht hr h
 simp only[opFieldN,evA_comp ht] at h ⊢
 obtain⟨l,e1,e2⟩:=asAgg_good h
 rw[e2] at h
 obtain⟨e3,e4⟩:=subL_good h
 refine⟨_,H,Hs,e2.trans e4,?_,hr⟩
 rcases hd with⟨f',rfl⟩|⟨n,e,rfl⟩<;>(simp only[xop,xfield,xpart,e1,h1,h2,h3,h4,Option.map_some])
theorem opIndexAddrS_ok {ty e : TypeId} {ie : TypeInfo} (x i : Operand) (h1 : P.underlying ty=some (.slice e)) (h2 : P.info? e=some ie) : OpF cp P (opIndexAddr none ie.size (compA P x) (compA P i)) (.indexAddr ty x i):=by
 intro t tm H Hs c ht hr h
 simp only[opIndexAddr,evA_comp ht,gN_eq] at h ⊢
 obtain⟨kd,n,e1,e2⟩:=asNat_good h
 rw[e2] at h ⊢
 rcases asSlice_good h with⟨b,o,len,cap,e3,e4⟩|⟨_,_,_,_,_,_,e4⟩|⟨_,_,_,e4⟩
 ·rw[e4] at h ⊢
  obtain⟨e5,e6⟩:=ifB_good h
  refine⟨_,H,Hs,e6,?_,hr⟩
  have e7 : n+1≤len:=Nat.le_of_ble_eq_true e5
  have e8 : (0 : Int)≤Int.ofNat n∧Int.ofNat n<(len : Int):=by have : Int.ofNat n=(n : Int):=rfl;omega
  simp only[xop,xindexAddr,e1,e3,h1,h2,if_pos e8,Option.map_some];rfl
 ·rw[e4] at h;exact not_good h
 ·rw[e4] at h;exact not_good h
theorem opIndexAddrA_ok {ty e : TypeId} {len : Nat} {ie : TypeInfo} (x i : Operand) (h1 : P.underlying ty=some (.array len e)) (h2 : P.info? e=some ie) : OpF cp P (opIndexAddr (some len) ie.size (compA P x) (compA P i)) (.indexAddr ty x i):=by
 intro t tm H Hs c ht hr h
 simp only[opIndexAddr,evA_comp ht,gN_eq] at h ⊢
 obtain⟨kd,n,e1,e2⟩:=asNat_good h
 rw[e2] at h ⊢
 obtain⟨b,o,e3,e4⟩:=asPtr_good h
 rw[e4] at h ⊢
 obtain⟨e5,e6⟩:=ifB_good h
 refine⟨_,H,Hs,e6,?_,hr⟩
 have e7 : n+1≤len:=Nat.le_of_ble_eq_true e5
 have e8 : (0 : Int)≤Int.ofNat n∧Int.ofNat n<(len : Int):=by have : Int.ofNat n=(n : Int):=rfl;omega
 simp only[xop,xindexAddr,e1,e3,h1,h2,if_pos e8,Option.map_some];rfl
theorem opIndex1_ok {ty e : TypeId} {len : Nat} {d : TypeDesc} {ie : TypeInfo} (x i : Operand) (h1 : P.underlying ty=some (.array len e)) (h2 : P.info? e=some ie) (h3 : P.underlying e=some d) (hs : ∀ f,d≠.struct f) (ha : ∀ n e,d≠.array n e) (hz : ie.size=1) :
  OpF cp P (opIndex len ie.size true (compA P x) (compA P i)) (.index ty x i):=by
 intro t tm H Hs c ht hr h
 simp only[opIndex,evA_comp ht] at h ⊢
 obtain⟨kd,n,e1,e2⟩:=asNat_good h
 rw[e2] at h ⊢
 obtain⟨l,e3,e4⟩:=asAgg_good h
 rw[e4] at h ⊢
 obtain⟨e5,e6⟩:=ifB_good h
 rw[e6,ifB_t] at h ⊢
 obtain⟨v,e9,e10⟩:=nthL_good h
 refine⟨_,H,Hs,e10,?_,hr⟩
 have e7 : n+1≤len:=Nat.le_of_ble_eq_true e5
 have e8 : (0 : Int)≤Int.ofNat n∧Int.ofNat n<(len : Int):=by have : Int.ofNat n=(n : Int):=rfl;omega
 have e11 : (⟨l⟩ : Array Value)[n]?=some v:=by simpa using e9
 have e12 : (Int.ofNat n).toNat*ie.size=n:=by rw[hz];simp
 simp only[xop,xindex,xpart,e1,e3,h1,h2,h3,if_pos e8,e12]
 cases d with
 | struct f=>exact absurd rfl (hs f)
 | array n e=>exact absurd rfl (ha n e)
 | _=>simp only[e11,Option.map_some]
theorem opIndexN_ok {ty e : TypeId} {len : Nat} {d : TypeDesc} {ie : TypeInfo} (x i : Operand) (h1 : P.underlying ty=some (.array len e)) (h2 : P.info? e=some ie) (h3 : P.underlying e=some d) (hd : (∃ f,d=.struct f)∨∃ n e,d=.array n e) :
  OpF cp P (opIndex len ie.size false (compA P x) (compA P i)) (.index ty x i):=by
 intro t tm H Hs c ht hr h
 simp only[opIndex,evA_comp ht] at h ⊢
 obtain⟨kd,n,e1,e2⟩:=asNat_good h
 rw[e2] at h ⊢
 obtain⟨l,e3,e4⟩:=asAgg_good h
 rw[e4] at h ⊢
 obtain⟨e5,e6⟩:=ifB_good h
 rw[e6,ifB_f] at h ⊢
 obtain⟨e9,e10⟩:=subL_good h
 refine⟨_,H,Hs,e10,?_,hr⟩
 have e7 : n+1≤len:=Nat.le_of_ble_eq_true e5
 have e8 : (0 : Int)≤Int.ofNat n∧Int.ofNat n<(len : Int):=by have : Int.ofNat n=(n : Int):=rfl;omega
 rcases hd with⟨f',rfl⟩|⟨n',e',rfl⟩<;>(simp only[xop,xindex,xpart,e1,e3,h1,h2,h3,if_pos e8,Option.map_some];rfl)
theorem opMm_ok {ts : Array TypeId} (mx : Bool) (xs : Array Operand) : OpF cp P (opMm mx (xs.toList.map (compA P))) (.call { callee:=.builtin (if mx then .max else .min),args:=xs,argTypes:=ts }):=by
 intro t tm H Hs c ht hr h
 simp only[opMm,evL_comp ht] at h ⊢
 cases e : xmm mx (xs.toList.map (ev P tm)) with
 | none=>rw[e] at h;exact not_good h
 | some v=>
  refine⟨v,H,Hs,forceV_eq _ _,?_,hr⟩
  have e' : xmm mx (xs.map (ev P tm)).toList=some v:=by rw[Array.toList_map];exact e
  cases mx<;>simp only[xop,xbuiltin,if_true,Bool.false_eq_true,if_false,e',Option.map_some]
theorem opMakeFunc_ok (f : FuncId) (a b : Array Operand) : OpF cp P (opMakeFunc f (a.toList.map (compA P)) (b.toList.map (compA P))) (.makeFunc (.func f) a b):=by
 intro t tm H Hs c ht hr h
 simp only[opMakeFunc,evL_comp ht] at h ⊢
 refine⟨_,H,Hs,rfl,?_,hr⟩
 have e1 : ∀ q : Array Operand,q.map (ev P tm)=⟨q.toList.map (ev P tm)⟩:=by intro q;apply Array.toList_inj.1;rw[Array.toList_map]
 simp only[xop,xmkFunc,Option.map_some,e1]
theorem opMakeMap_ok {ty kt et : TypeId} (h1 : P.underlying ty=some (.map kt et)) : OpF cp P (opMakeMap kt) (.makeMap ty none):=by
 intro t tm H Hs c ht hr h
 obtain⟨H',e5,e6⟩:=allocF_good hr (x:=.map kt [] 0) (o:=.map kt #[] 0) rfl h
 refine⟨_,H',_,e6,?_,e5⟩
 simp only[xop,xmakeMap,h1,Option.map_none,okHint,if_true]
theorem opMakeMapC_ok {ty kt et : TypeId} {ik : IntKind} {n : Int} (h1 : P.underlying ty=some (.map kt et)) : OpF cp P (opMakeMap kt) (.makeMap ty (some (.const (.int ik n)))):=by
 intro t tm H Hs c ht hr h
 obtain⟨H',e5,e6⟩:=allocF_good hr (x:=.map kt [] 0) (o:=.map kt #[] 0) rfl h
 refine⟨_,H',_,e6,?_,e5⟩
 have e : okHint (some (ev P tm (.const (.int ik n))))=true:=rfl
 simp only[xop,xmakeMap,h1,Option.map_some,e,if_true]
end
end Go.Xe
