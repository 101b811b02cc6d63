/- An executable reading of the model's code over an abstract heap (part 22): the machine's operations on blocks, slices, maps and functions. Conditions: none. -/
import Derived.Test.YtbbdafmehaohkaaXu
namespace Go.Xe
open Go
theorem fill_step {pl : Nat→Option (Nat×Nat)} {i off size : Nat} {v : Value} {c c' : List Value} {l : List (Nat×Value)} (hp : pl i=some (off,size)) (hs : v.cells.size=size) (hle : off+size≤c.length)
  (hc : setCells v.cells.toList off ⟨c⟩=⟨c'⟩) : Instr.fill pl ⟨c⟩ ((i,v)::l)=Instr.fill pl ⟨c'⟩ l:=by
 simp only[Instr.fill,hp]
 have hle' : ¬ ((decide (v.cells.size≠size) || decide (off+v.cells.size > (⟨c⟩ : Array Value).size))=true):=by
  simp only[Bool.or_eq_true,decide_eq_true_eq]
  simp only[List.size_toArray]
  omega
 rw[if_neg hle']
 rw[← Array.foldl_toList,Array.toList_zipIdx,zip_setCells off _ 0,Nat.add_zero,hc]
theorem fill1_good {off size : Nat} {v : Value} {c : List Value} {k : List Value→RF} (h : Good (fill1 off size v c k)) :
  ∃ c',notTop v=true∧v.cells.size=size∧off+size≤c.length∧setCells v.cells.toList off ⟨c⟩=⟨c'⟩∧fill1 off size v c k=k c':=by
 unfold fill1 at h ⊢
 obtain⟨hn,h1⟩:=asCells_good h
 rcases h1 with⟨l,h1,h2⟩|⟨_,h1,h2⟩
 ·rw[h2] at h ⊢
  obtain⟨h3,h4⟩:=lenIs_good h
  rw[h4] at h ⊢
  obtain⟨r,h5,h6,h7⟩:=spliceL_good h
  subst h1
  exact⟨r,hn,by simpa [Value.cells] using h3,by rw[← h3];exact h5,h6,h7⟩
 ·rw[h2] at h ⊢
  obtain⟨h3,h4⟩:=lenIs_good h
  rw[h4,hV_eq] at h ⊢
  obtain⟨h5,h7⟩:=setL_good h
  have h3' : 1=size:=by simpa using h3
  refine⟨_,hn,by rw[h1];exact h3',by omega,?_,h7⟩
  rw[h1]
  apply Array.toList_inj.1
  simp[setCells]
theorem fillL_good {P : Program} [Gl P] {pl : Nat→Option (Nat×Nat)} {t : TT} {tm : Array Value} (ht : TR t tm) : ∀ {l : List (Nat×Operand)} {ps : List (Nat×Nat×FA)} {c : List Value} {k : List Value→RF},compParts P pl l=some ps →
  Good (fillL t ps c k)→∃ r,(l.map fun x=>(x.1,ev P tm x.2)).all (fun x=>notTop x.2)=true∧Instr.fill pl ⟨c⟩ (l.map fun x=>(x.1,ev P tm x.2))=some ⟨r⟩∧r.length=c.length∧fillL t ps c k=k r:=by
 intro l
 induction l with
 | nil=>
  intro ps c k hp h
  cases hp
  exact⟨c,rfl,rfl,rfl,rfl⟩
 | cons x l ih=>
  intro ps c k hp h
  obtain⟨i,x⟩:=x
  simp only[compParts] at hp
  split at hp
  ·rename_i off size hpl
   split at hp
   ·rename_i ps' hps
    cases hp
    have e : fillL t ((off,size,compA P x)::ps') c k=fill1 off size (evA t (compA P x)) c fun c'=>fillL t ps' c' k:=rfl
    rw[e] at h ⊢
    rw[evA_comp ht] at h ⊢
    obtain⟨c',h1,h2,h3,h4,h5⟩:=fill1_good h
    rw[h5] at h ⊢
    obtain⟨r,h6,h7,h8,h9⟩:=ih hps h
    have hlen : c'.length=c.length:=by
     have : ((⟨c'⟩ : Array Value)).size=(setCells (ev P tm x).cells.toList off ⟨c⟩).size:=by rw[h4]
     simpa [setCells_size] using this
    refine⟨r,?_,?_,h8.trans hlen,h9⟩
    ·simp only[List.map_cons,List.all_cons,h1,h6,Bool.and_self]
    ·simp only[List.map_cons]
     rw[fill_step hpl h2 h3 h4]
     exact h7
   ·cases hp
  ·cases hp
section
variable {cp : Code→FCode} {P : Program} [Gl P]
theorem opBuildA_ok {ty e : TypeId} {n : Nat} {it ie : TypeInfo} {z : Value} {parts : Array (Nat×Operand)} {ps : List (Nat×Nat×FA)} (h1 : P.info? ty=some it) (h2 : P.underlying ty=some (.array n e)) (h3 : it.zero=some z) (h4 : P.info? e=some ie) (h5 : plainV z=true)
  (h6 : compParts P (fun i=>some (i*ie.size,ie.size)) parts.toList=some ps) : OpF cp P (opBuild z.cells.toList ps) (.build ty parts):=by
 intro t tm H Hs c ht hr h
 simp only[opBuild] at h ⊢
 obtain⟨r,e1,e2,e3,e4⟩:=fillL_good ht h6 h
 refine⟨_,H,Hs,e4,?_,hr⟩
 simp only[xop,xparts,xbuild,h1,h2,h3,h4,h5,Bool.true_and]
 rw[if_pos e1,e2];rfl
theorem opBuildS_ok {ty : TypeId} {fs : Array Field} {it : TypeInfo} {z : Value} {parts : Array (Nat×Operand)} {ps : List (Nat×Nat×FA)} {places : List (Nat×Nat)} (h1 : P.info? ty=some it) (h2 : P.underlying ty=some (.struct fs)) (h3 : it.zero=some z)
  (h4 : fs.toList.mapM (fun f=>(P.info? f.type).map fun i=>(f.offset,i.size))=some places) (h5 : plainV z=true)
  (h6 : compParts P (places.toArray[·]?) parts.toList=some ps) : OpF cp P (opBuild z.cells.toList ps) (.build ty parts):=by
 intro t tm H Hs c ht hr h
 simp only[opBuild] at h ⊢
 obtain⟨r,e1,e2,e3,e4⟩:=fillL_good ht h6 h
 refine⟨_,H,Hs,e4,?_,hr⟩
 simp only[xop,xparts,xbuild,h1,h2,h3,h4,h5,Bool.true_and]
 rw[if_pos e1,e2];rfl
theorem opBuildSlice_ok {ty e : TypeId} {len : Nat} {ie : TypeInfo} {z : Value} {parts : Array (Nat×Operand)} {ps : List (Nat×Nat×FA)} (h2 : P.underlying ty=some (.slice e)) (h4 : P.info? e=some ie) (h3 : ie.zero=some z) (h5 : z.cells.toList.all atomV=true)
  (h7 : z.cells.size≠0) (h8 : ¬ (len*ie.size > 2 ^ 24)) (h9 : len*ie.size≠0)
  (h6 : compParts P (fun i=>some (i*ie.size,ie.size)) parts.toList=some ps) : OpF cp P (opBuildSlice e len (zeros z.cells (len*ie.size)).toList ps) (.buildSlice ty len parts):=by
 intro t tm H Hs c ht hr h
 simp only[opBuildSlice] at h ⊢
 obtain⟨r,e1,e2,e3,e4⟩:=fillL_good ht h6 h
 rw[e4] at h
 obtain⟨H',e5,e6⟩:=allocF_good hr (x:=.cells r e true) (o:=.cells ⟨r⟩ e true) rfl h
 refine⟨_,H',_,e4.trans e6,?_,e5⟩
 simp only[xop,xparts,xbuildSlice,h2,h4,h3]
 rw[if_neg h8,if_neg h9]
 refine (if_pos (And.intro h5 (And.intro h7 e1))).trans ?_
 have e2' : Instr.fill (fun i=>some (i*ie.size,ie.size)) (zeros z.cells (len*ie.size)) (List.map (fun x=>(x.1,ev P tm x.2)) parts.toList)=some ⟨r⟩:=e2
 rw[e2']
 have : (⟨r⟩ : Array Value).size=len*ie.size:=by
  simp only[List.size_toArray,e3,zeros]
  simp
 simp only[]
 rw[if_pos this]
theorem opBuildSlice0_ok {ty e : TypeId} {ie : TypeInfo} {parts : Array (Nat×Operand)} (h2 : P.underlying ty=some (.slice e)) (h4 : P.info? e=some ie) (h6 : parts.toList=[]) : OpF cp P (opBuildSlice e 0 [] []) (.buildSlice ty 0 parts):=by
 intro t tm H Hs c ht hr h
 have h' : Good (allocF H (.cells [] e true) fun i H'=>c (.slice (some ⟨i,0,none⟩) 0 0) H'):=h
 obtain⟨H',e5,e6⟩:=allocF_good hr (x:=.cells [] e true) (o:=.cells #[] e true) rfl h'
 refine⟨_,H',_,e6,?_,e5⟩
 simp only[xop,xparts,xbuildSlice,h2,h4,h6,Nat.zero_mul]
 simp
theorem opField1_ok {ty : TypeId} {fs : Array Field} {fd : Field} {d : TypeDesc} {i : TypeInfo} (x : Operand) {f : Nat} (h1 : P.underlying ty=some (.struct fs)) (h2 : fs[f]?=some fd) (h3 : P.underlying fd.type=some d) (h4 : P.info? fd.type=some i)
  (hs : ∀ f,d≠.struct f) (ha : ∀ n e,d≠.array n e) : OpF cp P (opField1 fd.offset (compA P x)) (.field ty x f):=by
 intro t tm H Hs c ht hr h
 simp only[opField1,evA_comp ht] at h ⊢
 obtain⟨l,e1,e2⟩:=asAgg_good h
 rw[e2] at h
 obtain⟨v,e3,e4⟩:=nthL_good h
 refine⟨v,H,Hs,e2.trans e4,?_,hr⟩
 have e7 : (⟨l⟩ : Array Value)[fd.offset]?=some v:=by simpa using e3
 simp only[xop,xfield,xpart,e1,h1,h2,h3,h4]
 cases d with
 | struct f=>exact absurd rfl (hs f)
 | array n e=>exact absurd rfl (ha n e)
 | _=>simp only[e7,Option.map_some]
theorem opFieldN_ok {ty : TypeId} {fs : Array Field} {fd : Field} {d : TypeDesc} {i : TypeInfo} (x : Operand) {f : Nat} (h1 : P.underlying ty=some (.struct fs)) (h2 : fs[f]?=some fd) (h3 : P.underlying fd.type=some d) (h4 : P.info? fd.type=some i)
  (hd : (∃ f,d=.struct f)∨∃ n e,d=.array n e) : OpF cp P (opFieldN fd.offset i.size (compA P x)) (.field ty x f):=by
 intro t tm H Hs c ht hr h
 simp only[opFieldN,evA_comp ht] at h ⊢
 obtain⟨l,e1,e2⟩:=asAgg_good h
 rw[e2] at h
 obtain⟨e3,e4⟩:=subL_good h
 refine⟨_,H,Hs,e2.trans e4,?_,hr⟩
 rcases hd with⟨f',rfl⟩|⟨n,e,rfl⟩<;>(simp only[xop,xfield,xpart,e1,h1,h2,h3,h4,Option.map_some])
theorem opIndexAddrS_ok {ty e : TypeId} {ie : TypeInfo} (x i : Operand) (h1 : P.underlying ty=some (.slice e)) (h2 : P.info? e=some ie) : OpF cp P (opIndexAddr none ie.size (compA P x) (compA P i)) (.indexAddr ty x i):=by
 intro t tm H Hs c ht hr h
 simp only[opIndexAddr,evA_comp ht,gN_eq] at h ⊢
 obtain⟨kd,n,e1,e2⟩:=asNat_good h
 rw[e2] at h ⊢
 rcases asSlice_good h with⟨b,o,len,cap,e3,e4⟩|⟨_,_,_,_,_,_,e4⟩|⟨_,_,_,e4⟩
 ·rw[e4] at h ⊢
  obtain⟨e5,e6⟩:=ifB_good h
  refine⟨_,H,Hs,e6,?_,hr⟩
  have e7 : n+1≤len:=Nat.le_of_ble_eq_true e5
  have e8 : (0 : Int)≤Int.ofNat n∧Int.ofNat n<(len : Int):=by have : Int.ofNat n=(n : Int):=rfl;omega
  simp only[xop,xindexAddr,e1,e3,h1,h2,if_pos e8,Option.map_some];rfl
 ·rw[e4] at h;exact not_good h
 ·rw[e4] at h;exact not_good h
theorem opIndexAddrA_ok {ty e : TypeId} {len : Nat} {ie : TypeInfo} (x i : Operand) (h1 : P.underlying ty=some (.array len e)) (h2 : P.info? e=some ie) : OpF cp P (opIndexAddr (some len) ie.size (compA P x) (compA P i)) (.indexAddr ty x i):=by
 intro t tm H Hs c ht hr h
 simp only[opIndexAddr,evA_comp ht,gN_eq] at h ⊢
 obtain⟨kd,n,e1,e2⟩:=asNat_good h
 rw[e2] at h ⊢
 obtain⟨b,o,e3,e4⟩:=asPtr_good h
 rw[e4] at h ⊢
 obtain⟨e5,e6⟩:=ifB_good h
 refine⟨_,H,Hs,e6,?_,hr⟩
 have e7 : n+1≤len:=Nat.le_of_ble_eq_true e5
 have e8 : (0 : Int)≤Int.ofNat n∧Int.ofNat n<(len : Int):=by have : Int.ofNat n=(n : Int):=rfl;omega
 simp only[xop,xindexAddr,e1,e3,h1,h2,if_pos e8,Option.map_some];rfl
theorem opIndex1_ok {ty e : TypeId} {len : Nat} {d : TypeDesc} {ie : TypeInfo} (x i : Operand) (h1 : P.underlying ty=some (.array len e)) (h2 : P.info? e=some ie) (h3 : P.underlying e=some d) (hs : ∀ f,d≠.struct f) (ha : ∀ n e,d≠.array n e) (hz : ie.size=1) :
  OpF cp P (opIndex len ie.size true (compA P x) (compA P i)) (.index ty x i):=by
 intro t tm H Hs c ht hr h
 simp only[opIndex,evA_comp ht] at h ⊢
 obtain⟨kd,n,e1,e2⟩:=asNat_good h
 rw[e2] at h ⊢
 obtain⟨l,e3,e4⟩:=asAgg_good h
 rw[e4] at h ⊢
 obtain⟨e5,e6⟩:=ifB_good h
 rw[e6,ifB_t] at h ⊢
 obtain⟨v,e9,e10⟩:=nthL_good h
 refine⟨_,H,Hs,e10,?_,hr⟩
 have e7 : n+1≤len:=Nat.le_of_ble_eq_true e5
 have e8 : (0 : Int)≤Int.ofNat n∧Int.ofNat n<(len : Int):=by have : Int.ofNat n=(n : Int):=rfl;omega
 have e11 : (⟨l⟩ : Array Value)[n]?=some v:=by simpa using e9
 have e12 : (Int.ofNat n).toNat*ie.size=n:=by rw[hz];simp
 simp only[xop,xindex,xpart,e1,e3,h1,h2,h3,if_pos e8,e12]
 cases d with
 | struct f=>exact absurd rfl (hs f)
 | array n e=>exact absurd rfl (ha n e)
 | _=>simp only[e11,Option.map_some]
theorem opIndexN_ok {ty e : TypeId} {len : Nat} {d : TypeDesc} {ie : TypeInfo} (x i : Operand) (h1 : P.underlying ty=some (.array len e)) (h2 : P.info? e=some ie) (h3 : P.underlying e=some d) (hd : (∃ f,d=.struct f)∨∃ n e,d=.array n e) :
  OpF cp P (opIndex len ie.size false (compA P x) (compA P i)) (.index ty x i):=by
 intro t tm H Hs c ht hr h
 simp only[opIndex,evA_comp ht] at h ⊢
 obtain⟨kd,n,e1,e2⟩:=asNat_good h
 rw[e2] at h ⊢
 obtain⟨l,e3,e4⟩:=asAgg_good h
 rw[e4] at h ⊢
 obtain⟨e5,e6⟩:=ifB_good h
 rw[e6,ifB_f] at h ⊢
 obtain⟨e9,e10⟩:=subL_good h
 refine⟨_,H,Hs,e10,?_,hr⟩
 have e7 : n+1≤len:=Nat.le_of_ble_eq_true e5
 have e8 : (0 : Int)≤Int.ofNat n∧Int.ofNat n<(len : Int):=by have : Int.ofNat n=(n : Int):=rfl;omega
 rcases hd with⟨f',rfl⟩|⟨n',e',rfl⟩<;>(simp only[xop,xindex,xpart,e1,e3,h1,h2,h3,if_pos e8,Option.map_some];rfl)
theorem opMm_ok {ts : Array TypeId} (mx : Bool) (xs : Array Operand) : OpF cp P (opMm mx (xs.toList.map (compA P))) (.call { callee:=.builtin (if mx then .max else .min),args:=xs,argTypes:=ts }):=by
 intro t tm H Hs c ht hr h
 simp only[opMm,evL_comp ht] at h ⊢
 cases e : xmm mx (xs.toList.map (ev P tm)) with
 | none=>rw[e] at h;exact not_good h
 | some v=>
  refine⟨v,H,Hs,forceV_eq _ _,?_,hr⟩
  have e' : xmm mx (xs.map (ev P tm)).toList=some v:=by rw[Array.toList_map];exact e
  cases mx<;>simp only[xop,xbuiltin,if_true,Bool.false_eq_true,if_false,e',Option.map_some]
theorem opMakeFunc_ok (f : FuncId) (a b : Array Operand) : OpF cp P (opMakeFunc f (a.toList.map (compA P)) (b.toList.map (compA P))) (.makeFunc (.func f) a b):=by
 intro t tm H Hs c ht hr h
 simp only[opMakeFunc,evL_comp ht] at h ⊢
 refine⟨_,H,Hs,rfl,?_,hr⟩
 have e1 : ∀ q : Array Operand,q.map (ev P tm)=⟨q.toList.map (ev P tm)⟩:=by intro q;apply Array.toList_inj.1;rw[Array.toList_map]
 simp only[xop,xmkFunc,Option.map_some,e1]
theorem opMakeMap_ok {ty kt et : TypeId} (h1 : P.underlying ty=some (.map kt et)) : OpF cp P (opMakeMap kt) (.makeMap ty none):=by
 intro t tm H Hs c ht hr h
 obtain⟨H',e5,e6⟩:=allocF_good hr (x:=.map kt [] 0) (o:=.map kt #[] 0) rfl h
 refine⟨_,H',_,e6,?_,e5⟩
 simp only[xop,xmakeMap,h1,Option.map_none,okHint,if_true]
theorem opMakeMapC_ok {ty kt et : TypeId} {ik : IntKind} {n : Int} (h1 : P.underlying ty=some (.map kt et)) : OpF cp P (opMakeMap kt) (.makeMap ty (some (.const (.int ik n)))):=by
 intro t tm H Hs c ht hr h
 obtain⟨H',e5,e6⟩:=allocF_good hr (x:=.map kt [] 0) (o:=.map kt #[] 0) rfl h
 refine⟨_,H',_,e6,?_,e5⟩
 have e : okHint (some (ev P tm (.const (.int ik n))))=true:=rfl
 simp only[xop,xmakeMap,h1,Option.map_some,e,if_true]
end
end Go.Xe
/- An executable reading of the model's code over an abstract heap (part 23): the machine's slices, appends, made slices and maps. Conditions: none. -/
namespace Go.Xe
open Go
section
variable {cp : Code→FCode} {P : Program} [Gl P]
theorem opLenS_ok {ty e : TypeId} {u : Array TypeId} (x : Operand) (h1 : P.underlying ty=some (.slice e)) (hu : u.toList=[ty]) : OpF cp P (opLen 0 (compA P x)) (.call { callee:=.builtin .len,args:=#[x],argTypes:=u }):=by
 intro t tm H Hs c ht hr h
 simp only[opLen,evA_comp ht] at h ⊢
 rcases asLen_good h with⟨a,n,cc,e1,e2⟩|⟨_,_,e2⟩|⟨_,e2⟩|⟨_,_,e2⟩
 ·rw[e2] at h ⊢
  refine⟨_,H,Hs,rfl,?_,hr⟩
  simp only[xop,hu,List.map_toArray,List.map_cons,List.map_nil,xbuiltin,e1,xlen,h1,Option.map_some];rfl
 ·rw[e2] at h;exact not_good h
 ·rw[e2] at h;exact not_good h
 ·rw[e2] at h;exact not_good h
theorem opLenB_ok {ty : TypeId} {u : Array TypeId} (x : Operand) (h1 : P.underlying ty=some .string) (hu : u.toList=[ty]) : OpF cp P (opLen 1 (compA P x)) (.call { callee:=.builtin .len,args:=#[x],argTypes:=u }):=by
 intro t tm H Hs c ht hr h
 simp only[opLen,evA_comp ht] at h ⊢
 rcases asLen_good h with⟨a,n,cc,e1,e2⟩|⟨_,e1,e2⟩|⟨_,e2⟩|⟨_,_,e2⟩
 ·rw[e2] at h;exact not_good h
 ·rw[e2] at h ⊢
  refine⟨_,H,Hs,rfl,?_,hr⟩
  simp only[xop,hu,List.map_toArray,List.map_cons,List.map_nil,xbuiltin,e1,xlen,h1,Option.map_some];rfl
 ·rw[e2] at h;exact not_good h
 ·rw[e2] at h;exact not_good h
theorem opLenM_ok {ty kt et : TypeId} {u : Array TypeId} (x : Operand) (h1 : P.underlying ty=some (.map kt et)) (hu : u.toList=[ty]) : OpF cp P (opLen 2 (compA P x)) (.call { callee:=.builtin .len,args:=#[x],argTypes:=u }):=by
 intro t tm H Hs c ht hr h
 simp only[opLen,evA_comp ht] at h ⊢
 rcases asLen_good h with⟨a,n,cc,e1,e2⟩|⟨_,e1,e2⟩|⟨e1,e2⟩|⟨i,e1,e2⟩
 ·rw[e2] at h;exact not_good h
 ·rw[e2] at h;exact not_good h
 ·rw[e2] at h ⊢
  refine⟨_,H,Hs,rfl,?_,hr⟩
  simp only[xop,hu,List.map_toArray,List.map_cons,List.map_nil,xbuiltin,e1,xlen,h1,Option.map_some];rfl
 ·rw[e2] at h ⊢
  have h' : Good (onMap (objF H i) fun _ es _=>outN es.length fun v=>c v H):=h
  obtain⟨kt',es,ck,e3,e4⟩:=mapF_good hr h'
  refine⟨_,H,Hs,e4.trans (outN_eq _ _),?_,hr⟩
  simp only[xop,hu,List.map_toArray,List.map_cons,List.map_nil,xbuiltin,e1,xlen,h1,e3,Option.map_some];rfl
theorem opLenA_ok {ty e : TypeId} {n : Nat} {u : Array TypeId} (x : Operand) (h1 : P.underlying ty=some (.array n e)) (hu : u.toList=[ty]) : OpF cp P (opMove (.con (.int .i64 (.ofNat n)))) (.call { callee:=.builtin .len,args:=#[x],argTypes:=u }):=by
 intro t tm H Hs c ht hr h
 refine⟨.int .i64 (.ofNat n),H,Hs,?_,?_,hr⟩
 ·simp only[opMove,hV_eq];rfl
 ·simp only[xop,hu,List.map_toArray,List.map_cons,List.map_nil,xbuiltin,xlen,h1,Option.map_some];rfl
theorem boundF_good {t : TT} {tm : Array Value} (ht : TR t tm) {x : Option Operand} {d y : Nat} {k : Nat→RF} (h : Good (boundF t (x.map (compA P)) d y k)) : ∃ n,xbound (x.map (ev P tm)) d y=some n∧boundF t (x.map (compA P)) d y k=k n:=by
 cases x with
 | none=>exact⟨d,rfl,gN_eq _ _⟩
 | some x=>
  have e : boundF t ((some x).map (compA P)) d y k=asNat (evA t (compA P x)) fun m=>ifB (Nat.ble m y) (gN m k) (.fail 33):=rfl
  rw[e] at h ⊢
  rw[evA_comp ht] at h ⊢
  obtain⟨kd,n,e1,e2⟩:=asNat_good h
  rw[e2] at h ⊢
  obtain⟨e3,e4⟩:=ifB_good h
  refine⟨n,?_,e4.trans (gN_eq _ _)⟩
  have e5 : n≤y:=Nat.le_of_ble_eq_true e3
  have e6 : (0 : Int)≤Int.ofNat n∧Int.ofNat n≤(y : Int):=by have : Int.ofNat n=(n : Int):=rfl;omega
  simp only[Option.map_some,xbound,e1,if_pos e6];rfl
theorem strideF_good {P : Program} {H : FH} {Hs : Heap} (hr : HR cp H Hs) {ty e i o n c : Nat} (h1 : P.underlying ty=some (.slice e)) {k : RF} (h : Good (strideF P e i H k)) :
  strideOk P Hs ty (.slice (some ⟨i,o,none⟩) n c)=true∧strideF P e i H k=k:=by
 unfold strideF at h ⊢
 obtain⟨cs,el,rw',e1,e2⟩:=cellsF_good hr h
 rw[e2] at h ⊢
 cases rw' with
 | false=>exact⟨by simp only[strideOk,e1],rfl⟩
 | true=>
  rw[ifB_t] at h ⊢
  cases hb : Nat.beq el e with
  | true=>
   rw[hb] at h
   have : el=e:=Nat.eq_of_beq_eq_true hb
   exact⟨by simp only[strideOk,e1,h1,this,beq_self_eq_true],rfl⟩
  | false=>
   rw[hb,ifB_f] at h
   obtain⟨e3,e4⟩:=ifB_good h
   have : P.cellsOf el=P.cellsOf e:=Nat.eq_of_beq_eq_true e3
   exact⟨by simp only[strideOk,e1,h1,this,beq_self_eq_true],by rw[ifB_f];exact e4⟩
theorem opIdxSlow_ok {ty : TypeId} (x i : Operand) : OpF cp P (opIdxSlow ty (compA P x) (compA P i)) (.index ty x i):=by
 intro t tm H Hs c ht hr h
 simp only[opIdxSlow,evA_comp ht] at h ⊢
 cases e : xindex P ty (ev P tm x) (ev P tm i) with
 | none=>rw[e] at h;exact not_good h
 | some v=>
  exact⟨v,H,Hs,forceV_eq _ _,by simp only[xop,e,Option.map_some],hr⟩
theorem opSliceSlow_ok {ty : TypeId} (x : Operand) (lo hi : Option Operand) (h1 : (∃ n e,P.underlying ty=some (.array n e))∨P.underlying ty=some .string) :
  OpF cp P (opSliceSlow ty (compA P x) (lo.map (compA P)) (hi.map (compA P))) (.slice ty x lo hi none):=by
 intro t tm H Hs c ht hr h
 have hm : ∀ y : Option Operand,(y.map (compA P)).map (evA t)=y.map (ev P tm):=by
  intro y
  cases y with
  | none=>rfl
  | some y=>simp only[Option.map_some,evA_comp ht]
 simp only[opSliceSlow,evA_comp ht,hm] at h ⊢
 cases e : xslice P ty (ev P tm x) (lo.map (ev P tm)) (hi.map (ev P tm)) none with
 | none=>rw[e] at h;exact not_good h
 | some v=>
  have hs : strideOk P Hs ty (ev P tm x)=true:=by
   unfold strideOk
   split
   ·rename_i hx
    rw[hx] at e
    rcases h1 with⟨n,el,h1⟩|h1<;>simp[xslice,h1] at e
   ·rfl
  exact⟨v,H,Hs,forceV_eq _ _,by simp only[xop,hs,if_true,Option.map_none,e,Option.map_some],hr⟩
theorem opSlice_ok {ty e : TypeId} {ie : TypeInfo} (x : Operand) (lo hi : Option Operand) (h1 : P.underlying ty=some (.slice e)) (h2 : P.info? e=some ie) :
  OpF cp P (opSlice e ie.size (compA P x) (lo.map (compA P)) (hi.map (compA P))) (.slice ty x lo hi none):=by
 intro t tm H Hs c ht hr h
 simp only[opSlice,evA_comp ht] at h ⊢
 rcases asSlice_good h with⟨i,o,len,cap,e1,e2⟩|⟨i,o,s,len,cap,e1,e2⟩|⟨len,cap,e1,e2⟩
 ·rw[e2] at h ⊢
  obtain⟨e3,e4⟩:=strideF_good (P:=P) (o:=o) (n:=len) (c:=cap) hr h1 h
  rw[e4] at h ⊢
  obtain⟨hh,e5,e6⟩:=boundF_good ht h
  rw[e6] at h ⊢
  obtain⟨l,e7,e8⟩:=boundF_good ht h
  rw[e8] at h ⊢
  simp only[slice1,gN_eq] at h ⊢
  have hb : ∀ (a b : Value×Heap),True:=fun _ _=>trivial
  cases hc : Nat.beq cap l with
  | true=>
   have : cap=l:=Nat.eq_of_beq_eq_true hc
   refine⟨_,H,Hs,rfl,?_,hr⟩
   simp only[xop,e1,e3,if_true,xslice,h1,h2,e5,e7,Option.map_none]
   rw[if_pos this];rfl
  | false=>
   have : cap≠l:=Nat.ne_of_beq_eq_false hc
   refine⟨_,H,Hs,rfl,?_,hr⟩
   simp only[xop,e1,e3,if_true,xslice,h1,h2,e5,e7,Option.map_none]
   rw[if_neg this];rfl
 ·rw[e2] at h ⊢
  obtain⟨hh,e5,e6⟩:=boundF_good ht h
  rw[e6] at h ⊢
  obtain⟨l,e7,e8⟩:=boundF_good ht h
  rw[e8] at h ⊢
  refine⟨_,H,Hs,rfl,?_,hr⟩
  have e3 : strideOk P Hs ty (.slice (some ⟨i,o,some s⟩) len cap)=true:=rfl
  simp only[xop,e1,e3,if_true,xslice,h1,h2,e5,e7,Option.map_none,Option.map_some]
 ·rw[e2] at h ⊢
  cases cap with
  | succ cap=>exact not_good h
  | zero=>
   cases len with
   | succ len=>exact not_good h
   | zero=>
    have h' : Good (boundF t (hi.map (compA P)) 0 0 fun h=>boundF t (lo.map (compA P)) 0 h fun _=>c (.slice none 0 0) H):=h
    obtain⟨hh,e5,e6⟩:=boundF_good ht h'
    rw[e6] at h'
    obtain⟨l,e7,e8⟩:=boundF_good ht h'
    refine⟨.slice none 0 0,H,Hs,e6.trans e8,?_,hr⟩
    have e3 : strideOk P Hs ty (.slice none 0 0)=true:=rfl
    have hb : ∀ {x : Option Value} {d y n : Nat},xbound x d y=some n→d≤y→n≤y:=by
     intro x d y n hx hd
     unfold xbound at hx
     split at hx
     ·cases hx;exact hd
     ·split at hx
      ·rename_i hn;cases hx;omega
      ·cases hx
     ·cases hx
    have h0:=hb e5 (Nat.le_refl _)
    have h00:=hb e7 (Nat.zero_le _)
    have hz : True∧l=0∧hh=0∧True:=⟨trivial,by omega,by omega,trivial⟩
    simp only[xop,e1,e3,if_true,xslice,h1,h2,e5,e7,Option.map_none]
    rw[if_pos hz];rfl
theorem opSlice3_ok {ty e : TypeId} {ie : TypeInfo} (x : Operand) (lo : Option Operand) (hi m : Operand) (h1 : P.underlying ty=some (.slice e)) (h2 : P.info? e=some ie) :
  OpF cp P (opSlice3 e ie.size (compA P x) (lo.map (compA P)) (compA P hi) (compA P m)) (.slice ty x lo (some hi) (some m)):=by
 intro t tm H Hs c ht hr h
 simp only[opSlice3,evA_comp ht] at h ⊢
 have sm : ∀ y : Operand,some (compA P y)=(some y).map (compA P):=fun _=>rfl
 have se : ∀ y : Operand,(some y).map (ev P tm)=some (ev P tm y):=fun _=>rfl
 simp only[sm] at h ⊢
 rcases asSlice_good h with⟨i,o,len,cap,e1,e2⟩|⟨i,o,s,len,cap,e1,e2⟩|⟨len,cap,e1,e2⟩
 ·rw[e2] at h ⊢
  obtain⟨e3,e4⟩:=strideF_good (P:=P) (o:=o) (n:=len) (c:=cap) hr h1 h
  rw[e4] at h ⊢
  obtain⟨k,f1,f2⟩:=boundF_good ht h
  rw[f2] at h ⊢
  obtain⟨hh,e5,e6⟩:=boundF_good ht h
  rw[e6] at h ⊢
  obtain⟨l,e7,e8⟩:=boundF_good ht h
  rw[e8] at h ⊢
  rw[se] at f1 e5
  simp only[slice1,gN_eq] at h ⊢
  cases hc : Nat.beq k l with
  | true=>
   have : k=l:=Nat.eq_of_beq_eq_true hc
   refine⟨_,H,Hs,rfl,?_,hr⟩
   simp only[xop,e1,e3,if_true,xslice,xslice3,h1,h2,se,f1,e5,e7]
   rw[if_pos this];rfl
  | false=>
   have : k≠l:=Nat.ne_of_beq_eq_false hc
   refine⟨_,H,Hs,rfl,?_,hr⟩
   simp only[xop,e1,e3,if_true,xslice,xslice3,h1,h2,se,f1,e5,e7]
   rw[if_neg this];rfl
 ·rw[e2] at h ⊢
  obtain⟨k,f1,f2⟩:=boundF_good ht h
  rw[f2] at h ⊢
  obtain⟨hh,e5,e6⟩:=boundF_good ht h
  rw[e6] at h ⊢
  obtain⟨l,e7,e8⟩:=boundF_good ht h
  rw[e8] at h ⊢
  rw[se] at f1 e5
  cases k with
  | succ k=>exact not_good h
  | zero=>
   refine⟨_,H,Hs,rfl,?_,hr⟩
   have e3 : strideOk P Hs ty (.slice (some ⟨i,o,some s⟩) len cap)=true:=rfl
   simp only[xop,e1,e3,if_true,xslice,xslice3,h1,h2,se,f1,e5,e7,Option.map_some]
 ·rw[e2] at h ⊢
  cases cap with
  | succ cap=>exact not_good h
  | zero=>
   cases len with
   | succ len=>exact not_good h
   | zero=>
    have h' : Good (boundF t ((some m).map (compA P)) 0 0 fun k=>boundF t ((some hi).map (compA P)) 0 k fun h=>boundF t (lo.map (compA P)) 0 h fun _=>c (.slice none 0 0) H):=h
    obtain⟨k,f1,f2⟩:=boundF_good ht h'
    rw[f2] at h'
    obtain⟨hh,e5,e6⟩:=boundF_good ht h'
    rw[e6] at h'
    obtain⟨l,e7,e8⟩:=boundF_good ht h'
    refine⟨.slice none 0 0,H,Hs,f2.trans (e6.trans e8),?_,hr⟩
    rw[se] at f1 e5
    have e3 : strideOk P Hs ty (.slice none 0 0)=true:=rfl
    have b1:=xbound_le f1 (Nat.zero_le _)
    have b2:=xbound_le e5 (Nat.zero_le _)
    have b3:=xbound_le e7 (Nat.zero_le _)
    have hz : True∧l=0∧hh=0∧k=0:=⟨trivial,by omega,by omega,by omega⟩
    simp only[xop,e1,e3,if_true,xslice,xslice3,h1,h2,se,f1,e5,e7]
    rw[if_pos hz];rfl
theorem append0_good {s : Value} {H : FH} {c : Value→FH→RF} (h : Good (append0 s H c)) : (∃ a n cp,s=.slice (some a) n cp∨(s=.slice none n cp∧n=0))∧append0 s H c=c s H:=by
 unfold append0 at h ⊢
 simp only[hV_eq] at h ⊢
 rcases asSlice_good h with⟨i,o,n,cp,e1,e2⟩|⟨i,o,q,n,cp,e1,e2⟩|⟨n,cp,e1,e2⟩
 ·exact⟨⟨_,_,_,.inl e1⟩,e2⟩
 ·exact⟨⟨_,_,_,.inl e1⟩,e2⟩
 ·rw[e2] at h ⊢
  cases n with
  | zero=>exact⟨⟨⟨0,0,none⟩,0,cp,.inr ⟨e1,rfl⟩⟩,rfl⟩
  | succ n=>exact not_good h
end
theorem updE_good {k v : Value} : ∀ {es : List MapEntry} {n : Nat} {c : List MapEntry→Nat→RF} (i : Nat),
  updE k v es n c=(match xfind k es i with
   | some j=>c (es.modify (j-i) fun e=>{ e with key:=k,val:=v }) n
   | none=>c (es++[{ key:=k,val:=v,born:=n }]) (n+1))
 | [],n,c,i=>gN_eq (n+1) fun n'=>c [⟨k,v,n⟩] n'
 | ⟨k',v',b⟩::es,n,c,i=>by
  have e : updE k v (⟨k',v',b⟩::es) n c=Bool.rec (motive:=fun _=>RF) (updE k v es n fun r n'=>c (⟨k',v',b⟩::r) n') (c (⟨k,v,b⟩::es) n) (valEq k k'):=rfl
  rw[e]
  simp only[xfind]
  cases hb : valEq k k' with
  | true=>simp
  | false=>
   simp only[Bool.false_eq_true,if_false]
   have ih:=updE_good (k:=k) (v:=v) (es:=es) (n:=n) (c:=fun r n'=>c (⟨k',v',b⟩::r) n') (i+1)
   show updE k v es n (fun r n'=>c (⟨k',v',b⟩::r) n')=_
   rw[ih]
   cases hx : xfind k es (i+1) with
   | none=>rfl
   | some j=>
    have hj:=(xfind_some hx).1
    have : j-i=(j-(i+1))+1:=by omega
    simp only[this,List.modify_succ_cons]
theorem findE_good {k : Value} {z : RF} {c : Value→RF} : ∀ {es : List MapEntry} (i : Nat),findE z k es c=(match xfind k es i with
   | some j=>(match es[j-i]? with
    | some e=>c e.val
    | none=>z)
   | none=>z)
 | [],i=>rfl
 | ⟨k',v',b⟩::es,i=>by
  have e : findE z k (⟨k',v',b⟩::es) c=Bool.rec (motive:=fun _=>RF) (findE z k es c) (c v') (valEq k k'):=rfl
  rw[e]
  simp only[xfind]
  cases hb : valEq k k' with
  | true=>simp
  | false=>
   simp only[Bool.false_eq_true,if_false]
   show findE z k es c=_
   rw[findE_good (es:=es) (i+1)]
   cases hx : xfind k es (i+1) with
   | none=>rfl
   | some j=>
    have hj:=(xfind_some hx).1
    have : j-i=(j-(i+1))+1:=by omega
    simp only[this,List.getElem?_cons_succ]
section
variable {cp : Code→FCode} {P : Program} [Gl P]
theorem opAppend_ok {ty uy e e' : TypeId} {ie : TypeInfo} {z : Value} {u : Array TypeId} (s x : Operand) (hu : u.toList=[ty,uy]) (h1 : P.underlying ty=some (.slice e)) (h1' : P.underlying uy=some (.slice e')) (h2 : P.info? e=some ie) (h3 : ie.zero=some z)
  (h4 : z.cells.size=ie.size) (h5 : ie.size≠0) (h6 : ie.bytes≠0) : OpF cp P (opAppend e ie.size ie.bytes (compA P s) (compA P x)) (.call { callee:=.builtin .append,args:=#[s,x],argTypes:=u }):=by
 intro t tm H Hs c ht hr h
 simp only[opAppend,evA_comp ht] at h ⊢
 have hx : ∀ r,xappend P Hs ty uy (ev P tm s) (ev P tm x)=r→xop P Hs (ev P tm) (.call { callee:=.builtin .append,args:=#[s,x],argTypes:=u })=r:=by
  intro r hr
  simp only[xop,hu,List.map_toArray,List.map_cons,List.map_nil,xbuiltin,h1']
  exact hr
 have zero : ∀ b cc,ev P tm x=.slice b 0 cc→Good (append0 (ev P tm s) H c)→∃ v H' Hs',append0 (ev P tm s) H c=c v H'∧xop P Hs (ev P tm) (.call { callee:=.builtin .append,args:=#[s,x],argTypes:=u })=some (v,Hs')∧HR cp H' Hs':=by
  intro b cc hb hg
  obtain⟨⟨a,n,cp',e1⟩,e2⟩:=append0_good hg
  refine⟨_,H,Hs,e2,hx _ ?_,hr⟩
  rcases e1 with e1|⟨e1,rfl⟩
  ·simp only[xappend,h1,h1',e1,hb,h2,if_true]
  ·simp only[xappend,h1,h1',e1,hb,h2,if_true]
 rcases asSlice_good h with⟨bk,uo,m,cc,e1,e2⟩|⟨bk,uo,q,m,cc,e1,e2⟩|⟨m,cc,e1,e2⟩
 ·rw[e2] at h ⊢
  cases m with
  | zero=>exact zero _ _ e1 h
  | succ m=>
   have h' : Good (append1 e ie.size ie.bytes (m+1) bk uo (ev P tm s) H c):=h
   show ∃ v H' Hs',append1 e ie.size ie.bytes (m+1) bk uo (ev P tm s) H c=c v H'∧_
   clear h e2
   generalize hm : m+1=m' at h' e1 ⊢
   have hm0 : m'≠0:=by omega
   unfold append1 at h' ⊢
   obtain⟨cx,el,rw',e3,e4⟩:=cellsF_good hr h'
   rw[e4] at h' ⊢
   obtain⟨e5,e6⟩:=subL_good h'
   rw[e6] at h' ⊢
   obtain⟨e7,e8⟩:=allL_good h'
   rw[e8] at h' ⊢
   have e5' : uo+m'*ie.size≤(⟨cx⟩ : Array Value).size:=by simpa using e5
   have hmz : m'*ie.size≠0:=Nat.mul_ne_zero hm0 h5
   have hsrc : xsource Hs ie.size m' (some ⟨bk,uo,none⟩)=some ((⟨cx⟩ : Array Value).extract uo (uo+m'*ie.size)):=by
    simp only[xsource,e3]
    rw[if_pos ⟨e5',hmz⟩]
   have hb48 : ∀ n,Nat.ble (Nat.mul (Nat.add (Nat.mul 2 (Nat.add n m')) 256) ie.bytes) 281474976710656=true→(2*(n+m')+256)*ie.bytes≤2 ^ 48∧n+m'≤2 ^ 48:=by
    intro n hb
    have e9 : (2*(n+m')+256)*ie.bytes≤281474976710656:=Nat.le_of_ble_eq_true hb
    have e10 : (2*(n+m')+256)*1≤(2*(n+m')+256)*ie.bytes:=Nat.mul_le_mul_left _ (by omega)
    exact⟨by omega,by omega⟩
   generalize hnew : (⟨cx⟩ : Array Value).extract uo (uo+m'*ie.size)=new at *
   rcases asSlice_good h' with⟨i,o,n,cp',f1,f2⟩|⟨i,o,q,n,cp',f1,f2⟩|⟨n,cp',f1,f2⟩
   ·rw[f2] at h' ⊢
    obtain⟨f3,f4⟩:=ifB_good h'
    rw[f4] at h' ⊢
    unfold append2 at h' ⊢
    obtain⟨cd,el2,rw2,f5,f6⟩:=cellsF_good hr h'
    rw[f6] at h' ⊢
    obtain⟨f7,f8⟩:=ifB_good h'
    rw[f8] at h' ⊢
    obtain⟨f9,f10⟩:=ifB_good h'
    rw[f10] at h' ⊢
    obtain⟨f11c,f12c⟩:=subL_good h'
    rw[f12c] at h' ⊢
    have g1 : el2=e:=Nat.eq_of_beq_eq_true f7
    obtain⟨g3,g4⟩:=hb48 n f3
    have g5 : o+cp'*ie.size≤(⟨cd⟩ : Array Value).size:=by simpa using f11c
    subst f9
    cases hin : Nat.ble (Nat.add n m') cp' with
    | false=>
     have hin0 : ¬ (n+m'≤cp'):=by
      intro hle
      have : Nat.ble (n+m') cp'=true:=Nat.ble_eq_true_of_le hle
      have hin' : Nat.ble (n+m') cp'=false:=hin
      rw[this] at hin';cases hin'
     have hb0 : ∀ x y : RF,Bool.rec (motive:=fun _=>RF) x y (Nat.ble (Nat.add n m') cp')=x:=by intro x y;rw[hin]
     rw[hb0] at h'
     simp only[] at h' ⊢
     obtain⟨f11,f12⟩:=subL_good h'
     rw[f12,catL_eq] at h' ⊢
     obtain⟨H1,f13,f14⟩:=setF_good hr (x:=.dead) (o:=.dead) trivial h'
     rw[f14] at h' ⊢
     obtain⟨H2,f15,f16⟩:=allocF_good f13 (x:=.cells (((⟨cd⟩ : Array Value).extract o (o+n*ie.size)).toList++new.toList) e true) (o:=.cells ((⟨cd⟩ : Array Value).extract o (o+n*ie.size)++new) e true) (by simp only[FOR];congr 2;apply Array.toList_inj.1;simp) h'
     refine⟨_,H2,_,f16.trans (gN_eq _ _),hx _ ?_,f15⟩
     have g2 : o+n*ie.size≤(⟨cd⟩ : Array Value).size:=by simpa using f11
     simp only[xappend,h1,h1',f1,e1,h2,if_neg hm0,h3,hsrc]
     rw[if_pos ⟨e7,h4,g3,g4⟩]
     simp only[f5]
     rw[if_pos ⟨g1,g2,g5,fun hle=>Nat.mul_ne_zero (by omega) h5⟩,if_neg hin0]
     rfl
    | true=>
     have hin0 : n+m'≤cp':=Nat.le_of_ble_eq_true hin
     have hb0 : ∀ x y : RF,Bool.rec (motive:=fun _=>RF) x y (Nat.ble (Nat.add n m') cp')=y:=by intro x y;rw[hin]
     rw[hb0] at h'
     simp only[] at h' ⊢
     obtain⟨f11,f12⟩:=subL_good h'
     rw[f12,gN_eq] at h' ⊢
     obtain⟨r,f13,f14,f15⟩:=spliceL_good h'
     rw[f15] at h' ⊢
     obtain⟨H1,f16,f17⟩:=setF_good hr (x:=.cells r e true) (o:=.cells ⟨r⟩ e true) rfl h'
     refine⟨_,H1,_,f17.trans (gN_eq _ _),hx _ ?_,f16⟩
     have g2 : o+n*ie.size≤(⟨cd⟩ : Array Value).size:=by simpa using f11
     simp only[xappend,h1,h1',f1,e1,h2,if_neg hm0,h3,hsrc]
     rw[if_pos ⟨e7,h4,g3,g4⟩]
     simp only[f5]
     have f14' : setCells new.toList (o+n*ie.size) ⟨cd⟩=⟨r⟩:=f14
     rw[if_pos ⟨g1,g2,g5,fun hle=>Nat.mul_ne_zero (by omega) h5⟩,if_pos hin0,f14']
     rfl
   ·rw[f2] at h';exact not_good h'
   ·rw[f2] at h' ⊢
    cases n with
    | succ n=>exact not_good h'
    | zero=>
     cases cp' with
     | succ cp'=>exact not_good h'
     | zero=>
      have h'' : Good (ifB (Nat.ble (Nat.mul (Nat.add (Nat.mul 2 m') 256) ie.bytes) 281474976710656) (allocF H (.cells new.toList e true) fun i H'=>c (.slice (some ⟨i,0,none⟩) m' m') H') (.fail 54)):=h'
      obtain⟨f3,f4⟩:=ifB_good h''
      rw[f4] at h''
      obtain⟨H2,f15,f16⟩:=allocF_good hr (x:=.cells new.toList e true) (o:=.cells new e true) rfl h''
      refine⟨_,H2,_,f4.trans f16,hx _ ?_,f15⟩
      obtain⟨g3,g4⟩:=hb48 0 (by rw[show Nat.add 0 m'=m' from Nat.zero_add m'];exact f3)
      simp only[xappend,h1,h1',f1,e1,h2,if_neg hm0,h3,hsrc]
      rw[if_pos ⟨e7,h4,g3,g4⟩]
      rfl
 ·rw[e2] at h ⊢
  cases m with
  | zero=>exact zero _ _ e1 h
  | succ m=>exact not_good h
 ·rw[e2] at h ⊢
  cases m with
  | zero=>exact zero _ _ e1 h
  | succ m=>exact not_good h
theorem opLookup_ok {ty kt et : TypeId} {ie : TypeInfo} {z : Value} (x k : Operand) (ok : Bool) (h1 : P.underlying ty=some (.map kt et)) (h2 : P.info? et=some ie) (h3 : ie.zero=some z) (h4 : plainV z=true) :
  OpF cp P (opLookup kt z (compA P x) (compA P k) ok) (.lookup ty x k ok):=by
 intro t tm H Hs c ht hr h
 simp only[opLookup,evA_comp ht,hV_eq] at h ⊢
 rcases asMap_good h with⟨i,e1,e2⟩|⟨_,e2⟩
 ·rw[e2] at h ⊢
  obtain⟨kt',es,ck,e3,e4⟩:=mapF_good hr h
  rw[e4] at h ⊢
  obtain⟨e5,e6⟩:=ifB_good h
  rw[e6] at h ⊢
  obtain⟨e7,e8⟩:=ifB_good h
  rw[e8,findE_good 0] at h ⊢
  have e9 : kt'=kt:=Nat.eq_of_beq_eq_true e5
  simp only[keyGood,Bool.and_eq_true] at e7
  obtain⟨k1,k2,k3⟩:=e7
  have hc : kt'=kt∧keyedB P kt=true∧keyishV (ev P tm k)=true∧(keyOf P kt (ev P tm k)).isSome=true∧plainV z=true:=⟨e9,k1,k2,k3,h4⟩
  have hx : xop P Hs (ev P tm) (.lookup ty x k ok)=((match xfind (ev P tm k) es 0 with
     | some j=>match (⟨es⟩ : Array MapEntry)[j]? with
      | some e=>some (if ok then .tuple #[e.val,.bool true] else e.val)
      | none=>none
     | none=>some (if ok then .tuple #[z,.bool false] else z)) : Option Value).map (·,Hs):=by
   simp only[xop,xlookup,h1,e1,e3,h2,h3]
   rw[if_pos hc]
   try rfl
  rw[hx]
  cases hf : xfind (ev P tm k) es 0 with
  | none=>
   cases ok
   ·exact⟨_,H,Hs,rfl,rfl,hr⟩
   ·exact⟨_,H,Hs,rfl,rfl,hr⟩
  | some j=>
   obtain⟨_,en,e10,_⟩:=xfind_some hf
   simp only[Nat.sub_zero] at e10
   have e11 : (⟨es⟩ : Array MapEntry)[j]?=some en:=by simpa using e10
   simp only[Nat.sub_zero,e10,e11]
   cases ok
   ·exact⟨_,H,Hs,rfl,rfl,hr⟩
   ·exact⟨_,H,Hs,rfl,rfl,hr⟩
 ·rw[e2] at h;exact not_good h
theorem opMapUpdate_ok {ty kt et : TypeId} (x k v : Operand) (h1 : P.underlying ty=some (.map kt et)) : OpF cp P (opMapUpdate kt (compA P x) (compA P k) (compA P v)) (.mapUpdate ty x k v):=by
 intro t tm H Hs c ht hr h
 simp only[opMapUpdate,evA_comp ht,hV_eq] at h ⊢
 rcases asMap_good h with⟨i,e1,e2⟩|⟨_,e2⟩
 ·rw[e2] at h ⊢
  obtain⟨kt',es,ck,e3,e4⟩:=mapF_good hr h
  rw[e4] at h ⊢
  obtain⟨e5,e6⟩:=ifB_good h
  rw[e6] at h ⊢
  obtain⟨e7,e8⟩:=ifB_good h
  rw[e8,updE_good 0] at h ⊢
  have e9 : kt'=kt:=Nat.eq_of_beq_eq_true e5
  simp only[keyGood,Bool.and_eq_true] at e7
  obtain⟨k1,k2,k3⟩:=e7
  have hc : kt'=kt∧keyedB P kt=true∧keyishV (ev P tm k)=true∧(keyOf P kt (ev P tm k)).isSome=true:=⟨e9,k1,k2,k3⟩
  have hx : xop P Hs (ev P tm) (.mapUpdate ty x k v)=((match xfind (ev P tm k) es 0 with
    | some j=>some (Hs.set i (.map kt ((⟨es⟩ : Array MapEntry).modify j fun e=>{ e with key:=ev P tm k,val:=ev P tm v }) ck))
    | none=>some (Hs.set i (.map kt ((⟨es⟩ : Array MapEntry).push { key:=ev P tm k,val:=ev P tm v,born:=ck }) (ck+1)))) : Option Heap).map (undef,·):=by
   simp only[xop,xmapUpdate,h1,e1,e3]
   rw[if_pos hc]
   try rfl
  rw[hx]
  cases hf : xfind (ev P tm k) es 0 with
  | none=>
   simp only[hf] at h ⊢
   obtain⟨H',f1,f2⟩:=setF_good hr (o:=.map kt ((⟨es⟩ : Array MapEntry).push { key:=ev P tm k,val:=ev P tm v,born:=ck }) (ck+1)) (by simp only[FOR];congr 2;apply Array.toList_inj.1;simp) h
   exact⟨undef,H',_,f2,rfl,f1⟩
  | some j=>
   simp only[hf,Nat.sub_zero] at h ⊢
   obtain⟨H',f1,f2⟩:=setF_good hr (o:=.map kt ((⟨es⟩ : Array MapEntry).modify j fun e=>{ e with key:=ev P tm k,val:=ev P tm v }) ck) (by simp only[FOR];congr 2;apply Array.toList_inj.1;simp) h
   exact⟨undef,H',_,f2,rfl,f1⟩
 ·rw[e2] at h;exact not_good h
end
end Go.Xe
