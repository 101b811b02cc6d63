/- An executable reading of the model's code over an abstract heap (part 2): the operations that change no memory, and that the model's own run of each agrees. Conditions: none; definitions and lemmas for every program. -/
import Derived.Test.YtgcdbdcnlhonfaaXa
import Derived.Laws.Tables
import Derived.Laws.StructEq
namespace Go.Xe
open Go
def atomV : Value→Bool
 | .bool _ | .int _ _ | .float _ _ | .string _ | .pointer none | .slice none _ _ | .map none | .nilFunc | .nilIface=>true
 | _=>false
def plainV : Value→Bool
 | .agg cs=>cs.toList.all atomV
 | .tuple vs=>vs.toList.all atomV
 | v=>atomV v
theorem VR.atom {θ : Th} {v : Value} (h : atomV v=true) : VR θ v v:=by
 cases v with
 | bool b=>exact .bool b
 | int k n=>exact .int k n
 | float k b=>exact .float k b
 | string s=>exact .string s
 | pointer a=>cases a with
  | none=>exact .pnil
  | some a=>simp[atomV] at h
 | slice a n c=>cases a with
  | none=>exact .snil n c
  | some a=>simp[atomV] at h
 | map r=>cases r with
  | none=>exact .mnil
  | some a=>simp[atomV] at h
 | nilFunc=>exact .nilFunc
 | nilIface=>exact .nilIface
 | _=>simp[atomV] at h
theorem AR.atoms {θ : Th} {a : Array Value} (h : a.toList.all atomV=true) : AR θ a a:=by
 refine⟨rfl,fun i v w hv hw=>?_⟩
 rw[hv] at hw;cases hw
 refine VR.atom (List.all_eq_true.1 h v ?_)
 exact Array.mem_toList_iff.2 (Array.mem_of_getElem? hv)
theorem VR.plain {θ : Th} {v : Value} (h : plainV v=true) : VR θ v v:=by
 cases v with
 | agg cs=>exact .agg rfl (AR.atoms (θ:=θ) h).2
 | tuple cs=>exact .tuple rfl (AR.atoms (θ:=θ) h).2
 | bool b=>exact .bool b
 | int k n=>exact .int k n
 | float k b=>exact .float k b
 | string s=>exact .string s
 | pointer a=>exact VR.atom h
 | slice a n c=>exact VR.atom h
 | map r=>exact VR.atom h
 | nilFunc=>exact .nilFunc
 | nilIface=>exact .nilIface
 | complex _ _ _=>simp[plainV,atomV] at h
 | chan _=>simp[plainV,atomV] at h
 | func _ _ _=>simp[plainV,atomV] at h
 | iface _ _=>simp[plainV,atomV] at h
def top : Value:=.chan none
def xbin (P : Program) (op : BinOp) (t : TypeId) (x y : Value) : Option Value:=
 match op,x,y with
 | .shl,.int k a,.int _ b=>if b<0 then none else some (.int k (k.wrap (a*2 ^ (min b.toNat k.bits))))
 | .shr,.int k a,.int _ b=>if b<0 then none else some (.int k (a.fdiv (2 ^ (min b.toNat k.bits))))
 | op,.int k a,.int k' b=>
  if k≠k' then none else
  match op with
  | .add=>some (.int k (k.wrap (a+b)))
  | .sub=>some (.int k (k.wrap (a-b)))
  | .mul=>some (.int k (k.wrap (a*b)))
  | .quo=>if b=0 then none else some (.int k (k.wrap (a.tdiv b)))
  | .rem=>if b=0 then none else some (.int k (a.tmod b))
  | .and=>some (.int k (k.wrap (BitVec.ofInt k.bits a &&& BitVec.ofInt k.bits b).toNat))
  | .or=>some (.int k (k.wrap (BitVec.ofInt k.bits a ||| BitVec.ofInt k.bits b).toNat))
  | .xor=>some (.int k (k.wrap (BitVec.ofInt k.bits a ^^^ BitVec.ofInt k.bits b).toNat))
  | .andNot=>some (.int k (k.wrap (BitVec.ofInt k.bits a &&& ~~~ BitVec.ofInt k.bits b).toNat))
  | .eql=>some (.bool (a == b))
  | .neq=>some (.bool (a != b))
  | .lss=>some (.bool (decide (a<b)))
  | .leq=>some (.bool (decide (a≤b)))
  | .gtr=>some (.bool (decide (a > b)))
  | .geq=>some (.bool (decide (a≥b)))
  | _=>none
 | .eql,.bool a,.bool b=>match P.underlying t with
  | some .bool=>some (.bool (a == b))
  | _=>none
 | .neq,.bool a,.bool b=>match P.underlying t with
  | some .bool=>some (.bool (!(a == b)))
  | _=>none
 | _,_,_=>none
theorem int_eqGuard {P : Program} {w : World} {op : BinOp} {t : TypeId} {x y : Operand} {k k' : IntKind} {a b : Int} : (eqGuard op t x y (.int k a) (.int k' b)).run P w=.ok () w:=by
 unfold eqGuard;cases op<;>rfl
theorem bool_eqGuard {P : Program} {w : World} {op : BinOp} {t : TypeId} {x y : Operand} {a b : Bool} : (eqGuard op t x y (.bool a) (.bool b)).run P w=.ok () w:=by
 unfold eqGuard;cases op<;>rfl
theorem eql_bool {P : Program} {t : TypeId} {a b : Bool} (hu : P.underlying t=some .bool) (w : World) : (binOp .eql t (.bool a) (.bool b)).run P w=.ok (.bool (a == b)) w:=by
 show (do pure (.bool (← Op.equalIn (9999+1) t (.bool a) (.bool b))) : Sem Value).run P w=_
 simp only[Sem.run_bind,run_equalIn_bool w 9999 t a b hu,Result.andThen_ok,Sem.run_pure]
theorem neq_bool {P : Program} {t : TypeId} {a b : Bool} (hu : P.underlying t=some .bool) (w : World) : (binOp .neq t (.bool a) (.bool b)).run P w=.ok (.bool (!(a == b))) w:=by
 show (do pure (.bool (!(← Op.equalIn (9999+1) t (.bool a) (.bool b)))) : Sem Value).run P w=_
 simp only[Sem.run_bind,run_equalIn_bool w 9999 t a b hu,Result.andThen_ok,Sem.run_pure]
theorem xbin_ok {P : Program} {θ : Th} {op : BinOp} {t : TypeId} {x y : Value} {x' y' : Value} {ox oy : Operand} {v : Value} (h : xbin P op t x y=some v)
  (hx : VR θ x x') (hy : VR θ y y') (w : World) : ∃ v',(do eqGuard op t ox oy x' y';binOp op t x' y' : Sem Value).run P w=.ok v' w∧VR θ v v':=by
 cases hx with
 | int k a=>
  cases hy with
  | int k' b=>
   simp only[Sem.run_bind,int_eqGuard,Result.andThen_ok]
   cases op with
   | shl=>
    simp only[xbin] at h
    split at h
    ·cases h
    ·cases h
     rename_i hb
     refine⟨_,?_,.int _ _⟩
     simp only[binOp,Op.shift,if_neg hb];rfl
   | shr=>
    simp only[xbin] at h
    split at h
    ·cases h
    ·cases h
     rename_i hb
     refine⟨_,?_,.int _ _⟩
     simp only[binOp,Op.shift,if_neg hb];rfl
   | quo=>
    simp only[xbin] at h
    split at h
    ·cases h
    ·rename_i hk
     split at h
     ·cases h
     ·cases h
      rename_i hb
      refine⟨_,?_,.int _ _⟩
      simp only[binOp,Op.intDiv,if_neg hk,if_neg hb];rfl
   | rem=>
    simp only[xbin] at h
    split at h
    ·cases h
    ·rename_i hk
     split at h
     ·cases h
     ·cases h
      rename_i hb
      refine⟨_,?_,.int _ _⟩
      simp only[binOp,Op.intDiv,if_neg hk,if_neg hb];rfl
   | _=>
    simp only[xbin] at h
    split at h
    ·cases h
    ·cases h
     rename_i hk
     refine⟨_,?_,by first|exact .int _ _|exact .bool _⟩
     simp only[binOp,if_neg hk];rfl
  | _=>cases op<;>simp[xbin] at h
 | bool a=>
  cases hy with
  | bool b=>
   simp only[Sem.run_bind,bool_eqGuard,Result.andThen_ok]
   cases op with
   | eql=>
    simp only[xbin] at h
    split at h
    ·cases h
     rename_i hu
     exact⟨_,eql_bool hu w,.bool _⟩
    ·cases h
   | neq=>
    simp only[xbin] at h
    split at h
    ·cases h
     rename_i hu
     exact⟨_,neq_bool hu w,.bool _⟩
    ·cases h
   | _=>simp[xbin] at h
  | _=>cases op<;>simp[xbin] at h
 | _=>cases op<;>simp[xbin] at h
def xun (op : UnOp) (x : Value) : Option Value:=
 match op,x with
 | .neg,.int k n=>some (.int k (k.wrap (0-n)))
 | .not,.bool b=>some (.bool !b)
 | _,_=>none
theorem xun_ok {P : Program} {θ : Th} {op : UnOp} {x x' v : Value} (h : xun op x=some v) (hx : VR θ x x') (w : World) : ∃ v',(Op.unary op x').run P w=.ok v' w∧VR θ v v':=by
 cases hx<;>cases op<;>simp only[xun] at h<;>first|(cases h;done)|(cases h;exact⟨_,rfl,by first|exact .bool _|exact .int _ _⟩)
def xconv (P : Program) (src dst : TypeId) (x : Value) : Option Value:=
 match x with
 | .int _ n=>match P.underlying src,P.underlying dst with
  | some _,some (.int k)=>some (.int k (k.wrap n))
  | _,_=>none
 | _=>none
theorem xconv_ok {P : Program} {θ : Th} {src dst : TypeId} {x x' v : Value} (h : xconv P src dst x=some v) (hx : VR θ x x') (w : World) :
  ∃ v',(convert src dst x').run P w=.ok v' w∧VR θ v v':=by
 cases hx<;>simp only[xconv] at h<;>try (cases h;done)
 split at h
 ·cases h
  rename_i hs hd
  refine⟨_,?_,.int _ _⟩
  simp[convert,run_underlying hs,run_underlying hd,Conv.intToInt]
 ·cases h
theorem AR.setMany {θ : Th} (off : Nat) : ∀ (l : List Value) (l' : List Value) (n : Nat),l.length=l'.length→(∀ (i : Nat) (v w : Value),l[i]?=some v→l'[i]?=some w→VR θ v w) →
  ∀ {a a' : Array Value},AR θ a a'→AR θ ((l.zipIdx n).foldl (fun cs (c,j)=>cs.setIfInBounds (off+j) c) a) ((l'.zipIdx n).foldl (fun cs (c,j)=>cs.setIfInBounds (off+j) c) a'):=by
 intro l
 induction l with
 | nil=>intro l' n hl _ a a' ha;cases l' with
  | nil=>simpa using ha
  | cons _ _=>simp at hl
 | cons x l ih=>
  intro l' n hl h a a' ha
  cases l' with
  | nil=>simp at hl
  | cons y l'=>
   simp only[List.zipIdx_cons,List.foldl_cons]
   exact ih l' (n+1) (by simpa using hl) (fun i v w hv hw=>h (i+1) v w (by simpa using hv) (by simpa using hw)) (ha.set (h 0 x y rfl rfl) _)
inductive PartsR (θ : Th) : List (Nat×Value)→List (Nat×Value)→Prop
 | nil : PartsR θ [] []
 | cons {x y : Nat×Value} {l l' : List (Nat×Value)} (h : x.1=y.1∧VR θ x.2 y.2∧x.2≠.chan none) (t : PartsR θ l l') : PartsR θ (x::l) (y::l')
theorem fill_rel {θ : Th} (place : Nat→Option (Nat×Nat)) : ∀ (l l' : List (Nat×Value)) (cs cs' r : Array Value),AR θ cs cs' →
  PartsR θ l l'→Instr.fill place cs l=some r→∃ r',Instr.fill place cs' l'=some r'∧AR θ r r':=by
 intro l
 induction l with
 | nil=>
  intro l' cs cs' r hc hl h
  cases hl
  simp only[Instr.fill] at h;cases h
  exact⟨cs',rfl,hc⟩
 | cons x l ih=>
  intro l' cs cs' r hc hl h
  cases hl with
  | cons hx hrest=>
   rename_i y l'
   obtain⟨i,v⟩:=x
   obtain⟨i',v'⟩:=y
   obtain⟨rfl,hv,hne⟩:=hx
   have hcells:=hv.cells hne
   simp only[Instr.fill] at h ⊢
   split at h
   ·cases h
   ·rename_i off size hp
    dsimp only at hcells
    rw[← hcells.1,← hc.1]
    split at h
    ·cases h
    ·rename_i hn
     rw[if_neg hn]
     have e1:=Array.foldl_toList (xs:=v.cells.zipIdx) (f:=fun cs (x : Value×Nat)=>cs.setIfInBounds (off+x.2) x.1) (init:=cs)
     have e2:=Array.foldl_toList (xs:=v'.cells.zipIdx) (f:=fun cs (x : Value×Nat)=>cs.setIfInBounds (off+x.2) x.1) (init:=cs')
     refine ih l' _ _ r ?_ hrest h
     rw[← e1,← e2,Array.toList_zipIdx,Array.toList_zipIdx]
     exact AR.setMany off _ _ 0 (by simpa using hcells.1) (fun j a b ha hb=>hcells.2 j a b (by simpa using ha) (by simpa using hb)) hc
def notTop : Value→Bool
 | .chan none=>false
 | _=>true
theorem notTop_ne {v : Value} (h : notTop v=true) : v≠.chan none:=by intro e;subst e;simp[notTop] at h
def xparts (ρ : Operand→Value) (parts : Array (Nat×Operand)) : List (Nat×Value):=parts.toList.map fun x=>(x.1,ρ x.2)
theorem parts_rel {θ : Th} {ρ ρ' : Operand→Value} (hρ : ∀ x,VR θ (ρ x) (ρ' x)) (parts : List (Nat×Operand)) (h : (parts.map fun x=>(x.1,ρ x.2)).all (fun x=>notTop x.2)=true) :
  PartsR θ (parts.map fun x=>(x.1,ρ x.2)) (parts.map fun x=>(x.1,ρ' x.2)):=by
 induction parts with
 | nil=>exact .nil
 | cons x l ih=>
  simp only[List.map_cons,List.all_cons,Bool.and_eq_true] at h
  exact .cons ⟨rfl,hρ _,notTop_ne h.1⟩ (ih h.2)
def xbuild (P : Program) (t : TypeId) (parts : List (Nat×Value)) : Option Value:=
 match P.info? t,P.underlying t with
 | some it,some (.array _ e)=>
  match it.zero,P.info? e with
  | some z,some ie=>if plainV z && parts.all (fun x=>notTop x.2) then (Instr.fill (fun i=>some (i*ie.size,ie.size)) z.cells parts).map .agg else none
  | _,_=>none
 | some it,some (.struct fields)=>
  match it.zero,fields.toList.mapM (fun f=>(P.info? f.type).map fun i=>(f.offset,i.size)) with
  | some z,some places=>if plainV z && parts.all (fun x=>notTop x.2) then (Instr.fill (places.toArray[·]?) z.cells parts).map .agg else none
  | _,_=>none
 | _,_=>none
theorem plain_cells {θ : Th} {z : Value} (h : plainV z=true) : AR θ z.cells z.cells:=
 (VR.plain h).cells (fun e=>by subst e;simp[plainV,atomV] at h)
theorem xbuild_ok {P : Program} {θ : Th} {ρ ρ' : Operand→Value} {t : TypeId} {parts : Array (Nat×Operand)} {v : Value} (h : xbuild P t (xparts ρ parts)=some v)
  (hρ : ∀ x,VR θ (ρ x) (ρ' x)) (w : World) : ∃ v',(Instr.build t (parts.map fun (i,x)=>(i,ρ' x))).run P w=.ok v' w∧VR θ v v':=by
 have key : ∃ cells : Array Value,P.built t (parts.map fun (i,x)=>(i,ρ' x)).toList=some cells∧VR θ v (.agg cells):=by
  unfold xbuild at h
  unfold Program.built
  have hl : (parts.map fun (i,x)=>(i,ρ' x)).toList=parts.toList.map fun x=>(x.1,ρ' x.2):=by simp
  rw[hl]
  split at h
  ·rename_i it _ e hi hu
   rw[hi,hu]
   simp only
   split at h
   ·rename_i z ie hz hie
    rw[hz,hie]
    simp only
    split at h
    ·rename_i hc
     simp only[Bool.and_eq_true] at hc
     simp only[Option.map_eq_some_iff] at h
     obtain⟨cs,hcs,rfl⟩:=h
     obtain⟨r',hr',har⟩:=fill_rel _ _ _ _ z.cells _ (plain_cells hc.1) (parts_rel hρ parts.toList hc.2) hcs
     exact⟨r',hr',.agg har.1 har.2⟩
    ·cases h
   ·cases h
  ·rename_i it fields hi hu
   rw[hi,hu]
   simp only
   split at h
   ·rename_i z places hz hp
    rw[hz,hp]
    simp only
    split at h
    ·rename_i hc
     simp only[Bool.and_eq_true] at hc
     simp only[Option.map_eq_some_iff] at h
     obtain⟨cs,hcs,rfl⟩:=h
     obtain⟨r',hr',har⟩:=fill_rel _ _ _ _ z.cells _ (plain_cells hc.1) (parts_rel hρ parts.toList hc.2) hcs
     exact⟨r',hr',.agg har.1 har.2⟩
    ·cases h
   ·cases h
  ·cases h
 obtain⟨cells,hb,hv⟩:=key
 exact⟨.agg cells,run_build w t _ cells hb,hv⟩
theorem addr_add (b o n : Nat) : (⟨b,o,none⟩ : Addr).add n=⟨b,o+n,none⟩:=by
 unfold Addr.add;split
 ·rename_i h;subst h;rfl
 ·rfl
def xpart (P : Program) (t : TypeId) (cs : Array Value) (off : Nat) : Option Value:=
 match P.underlying t,P.info? t with
 | some (.struct _),some i|some (.array _ _),some i=>some (.agg (cs.extract off (off+i.size)))
 | some _,some _=>cs[off]?
 | _,_=>none
theorem run_isAgg {P : Program} {t : TypeId} {d : TypeDesc} (h : P.underlying t=some d) (w : World) :
  (isAgg t).run P w=.ok (match d with | .struct _ | .array _ _=>true|_=>false) w:=by
 simp only[isAgg,Sem.run_bind,run_underlying h,Result.andThen_ok]
 cases d<;>rfl
theorem run_sizeOf' {P : Program} {t : TypeId} {i : TypeInfo} (h : P.info? t=some i) (w : World) : (sizeOf t).run P w=.ok i.size w:=by simp[sizeOf,typeInfo,h]
theorem run_typeInfo' {P : Program} {t : TypeId} {i : TypeInfo} (h : P.info? t=some i) (w : World) : (typeInfo t).run P w=.ok i w:=by simp[typeInfo,h]
theorem run_zeroValue' {P : Program} {t : TypeId} {i : TypeInfo} {z : Value} (h : P.info? t=some i) (hz : i.zero=some z) (w : World) : (zeroValue t).run P w=.ok z w:=by simp[zeroValue,typeInfo,h,hz]
theorem xpart_ok {P : Program} {θ : Th} {t : TypeId} {cs cs' : Array Value} {off : Nat} {v : Value} (h : xpart P t cs off=some v) (hc : AR θ cs cs') (w : World) :
  ∃ v',(part t cs' off).run P w=.ok v' w∧VR θ v v':=by
 unfold xpart at h
 split at h
 ·cases h
  rename_i hu hi
  have:=hc.extract off (off+TypeInfo.size (by assumption))
  exact⟨_,by simp[part,run_isAgg hu,run_sizeOf' hi],.agg this.1 this.2⟩
 ·cases h
  rename_i hu hi
  have:=hc.extract off (off+TypeInfo.size (by assumption))
  exact⟨_,by simp[part,run_isAgg hu,run_sizeOf' hi],.agg this.1 this.2⟩
 ·rename_i d i hns hna hu hi
  obtain⟨v',hv',hr⟩:=hc.get h
  refine⟨v',?_,hr⟩
  have : (isAgg t).run P w=.ok false w:=by
   rw[run_isAgg hu]
   cases d<;>first|rfl|(exact absurd rfl (hns _))|(exact absurd rfl (hna _ _))
  simp[part,this,hv']
 ·cases h
end Go.Xe
/- An executable reading of the model's code over an abstract heap (part 3): addresses, slices, and the whole of the operations that change no memory and read none. Conditions: none. -/
namespace Go.Xe
open Go
def xfieldAddr (P : Program) (s : TypeId) (x : Value) (f : Nat) : Option Value:=
 match x,P.underlying s with
 | .pointer (some ⟨i,o,none⟩),some (.struct fields)=>
  match fields[f]? with
  | some fd=>match P.info? fd.type with
   | some inf=>if inf.size=0 then none else some (.pointer (some ⟨i,o+fd.offset,none⟩))
   | none=>none
  | none=>none
 | _,_=>none
theorem xfieldAddr_ok {P : Program} {θ : Th} {s : TypeId} {x x' v : Value} {f : Nat} (h : xfieldAddr P s x f=some v) (hx : VR θ x x') (w : World) :
  ∃ v',(Instr.fieldAt s x' f).run P w=.ok v' w∧VR θ v v':=by
 cases hx with
 | ptr hp=>
  rename_i i o p
  cases hu : P.underlying s with
  | none=>simp[xfieldAddr,hu] at h
  | some d=>
   cases d<;>try (simp[xfieldAddr,hu] at h;done)
   rename_i fields
   simp only[xfieldAddr,hu] at h
   split at h
   ·rename_i fd hfd
    split at h
    ·rename_i inf hinf
     split at h
     ·cases h
     ·rename_i hs
      cases h
      refine⟨_,?_,.ptr hp⟩
      simp[Instr.fieldAt,run_underlying hu,hfd,Instr.sureAddr,fieldPlace,run_sizeOf' hinf,hs,addr_add,Nat.add_assoc]
    ·cases h
   ·cases h
 | _=>simp[xfieldAddr] at h
def xindexAddr (P : Program) (t : TypeId) (x ix : Value) : Option Value:=
 match ix with
 | .int _ n=>
  match x,P.underlying t with
  | .slice (some ⟨i,o,none⟩) len _,some (.slice e)=>match P.info? e with
   | some inf=>if 0≤n∧n<(len : Int) then some (.pointer (some ⟨i,o+n.toNat*inf.size,none⟩)) else none
   | none=>none
  | .pointer (some ⟨i,o,none⟩),some (.array len e)=>match P.info? e with
   | some inf=>if 0≤n∧n<(len : Int) then some (.pointer (some ⟨i,o+n.toNat*inf.size,none⟩)) else none
   | none=>none
  | _,_=>none
 | _=>none
theorem xindexAddr_ok {P : Program} {θ : Th} {t : TypeId} {x x' ix ix' v : Value} (h : xindexAddr P t x ix=some v) (hx : VR θ x x') (hi : VR θ ix ix') (w : World) :
  ∃ v',(Instr.indexAt t x' ix').run P w=.ok v' w∧VR θ v v':=by
 cases hi with
 | int k n=>
  cases hu : P.underlying t with
  | none=>cases hx<;>simp[xindexAddr,hu] at h
  | some d=>
   cases hx with
   | slice hp hn hc hs=>
    cases d<;>try (simp[xindexAddr,hu] at h;done)
    rename_i e
    simp only[xindexAddr,hu] at h
    split at h
    ·rename_i inf hinf
     split at h
     ·rename_i hb
      cases h
      refine⟨_,?_,.ptr hp⟩
      simp[Instr.indexAt,asIntOf,run_underlying hu,hb,run_sizeOf' hinf,addr_add,Nat.add_assoc]
     ·cases h
    ·cases h
   | ptr hp=>
    cases d<;>try (simp[xindexAddr,hu] at h;done)
    simp only[xindexAddr,hu] at h
    split at h
    ·rename_i inf hinf
     split at h
     ·rename_i hb
      cases h
      refine⟨_,?_,.ptr hp⟩
      simp[Instr.indexAt,asIntOf,Instr.sureAddr,run_underlying hu,hb,run_sizeOf' hinf,addr_add,Nat.add_assoc]
     ·cases h
    ·cases h
   | _=>simp[xindexAddr] at h
 | _=>simp[xindexAddr] at h
def xfield (P : Program) (t : TypeId) (x : Value) (f : Nat) : Option Value:=
 match x,P.underlying t with
 | .agg cs,some (.struct fields)=>match fields[f]? with
  | some fd=>xpart P fd.type cs fd.offset
  | none=>none
 | _,_=>none
theorem xfield_ok {P : Program} {θ : Th} {t : TypeId} {x x' v : Value} {f : Nat} (h : xfield P t x f=some v) (hx : VR θ x x') (w : World) :
  ∃ v',(Instr.field t x' f).run P w=.ok v' w∧VR θ v v':=by
 cases hx with
 | agg h1 h2=>
  cases hu : P.underlying t with
  | none=>simp[xfield,hu] at h
  | some d=>
   cases d<;>try (simp[xfield,hu] at h;done)
   simp only[xfield,hu] at h
   split at h
   ·rename_i fd hfd
    obtain⟨v',hr,hv⟩:=xpart_ok h ⟨h1,h2⟩ w
    exact⟨v',by simp[Instr.field,run_underlying hu,hfd,asAgg,hr],hv⟩
   ·cases h
 | _=>simp[xfield] at h
def xindex (P : Program) (t : TypeId) (x ix : Value) : Option Value:=
 match ix,x,P.underlying t with
 | .int _ n,.agg cs,some (.array len e)=>match P.info? e with
  | some inf=>if 0≤n∧n<(len : Int) then xpart P e cs (n.toNat*inf.size) else none
  | none=>none
 | .int _ n,.string s,some .string=>if 0≤n then match s.data.toList[n.toNat]? with
  | some b=>some (.int .u8 (b.toNat : Int))
  | none=>none
  else none
 | _,_,_=>none
theorem xindex_ok {P : Program} {θ : Th} {t : TypeId} {x x' ix ix' v : Value} (h : xindex P t x ix=some v) (hx : VR θ x x') (hi : VR θ ix ix') (w : World) :
  ∃ v',(Instr.index t x' ix').run P w=.ok v' w∧VR θ v v':=by
 cases hi with
 | int k n=>
  cases hx with
  | agg h1 h2=>
   cases hu : P.underlying t with
   | none=>simp[xindex,hu] at h
   | some d=>
    cases d<;>try (simp[xindex,hu] at h;done)
    simp only[xindex,hu] at h
    split at h
    ·rename_i inf hinf
     split at h
     ·rename_i hb
      obtain⟨v',hr,hv⟩:=xpart_ok h ⟨h1,h2⟩ w
      exact⟨v',by simp[Instr.index,asIntOf,run_underlying hu,hb,run_sizeOf' hinf,hr],hv⟩
     ·cases h
    ·cases h
  | string s=>
   cases hu : P.underlying t with
   | none=>simp[xindex,hu] at h
   | some d=>
    cases d<;>try (simp[xindex,hu] at h;done)
    simp only[xindex,hu] at h
    split at h
    ·rename_i hn
     split at h
     ·rename_i b hb
      cases h
      have hb' : s[n.toNat]?=some b:=by
       rw[← hb];simp[getElem?_def];rfl
      exact⟨_,by simp[Instr.index,asIntOf,run_underlying hu,hn,hb'],.int _ _⟩
     ·cases h
    ·cases h
  | _=>simp[xindex] at h
 | _=>simp[xindex] at h
def xextract (x : Value) (ix : Nat) : Option Value:=
 match x with
 | .tuple vs=>vs[ix]?
 | _=>none
theorem xextract_ok {P : Program} {θ : Th} {x x' v : Value} {ix : Nat} (h : xextract x ix=some v) (hx : VR θ x x') (w : World) :
  ∃ v',(Instr.extract x' ix).run P w=.ok v' w∧VR θ v v':=by
 cases hx with
 | tuple h1 h2=>
  obtain⟨v',hv',hr⟩:=AR.get ⟨h1,h2⟩ h
  exact⟨v',by simp[Instr.extract,hv'],hr⟩
 | _=>simp[xextract] at h
def xbound (x : Option Value) (d y : Nat) : Option Nat:=
 match x with
 | none=>some d
 | some (.int _ n)=>if 0≤n∧n≤(y : Int) then some n.toNat else none
 | _=>none
def xslice3 (P : Program) (e : TypeId) (a : Option Addr) (len cap : Nat) (lo hi : Option Value) (m : Value) : Option Value:=
 match P.info? e,xbound (some m) 0 cap,hi with
 | some inf,some k,some h0=>match xbound (some h0) 0 k with
  | some h=>match xbound lo 0 h with
   | some l=>match a with
    | some ⟨i,o,none⟩=>if k=l then some (.slice (some ⟨i,o,some 0⟩) 0 0) else some (.slice (some ⟨i,o+l*inf.size,none⟩) (h-l) (k-l))
    | some ⟨i,o,some s⟩=>if k=0 then some (.slice (some ⟨i,o,some s⟩) 0 0) else none
    | none=>if len=0∧l=0∧h=0∧k=0 then some (.slice none 0 0) else none
   | none=>none
  | none=>none
 | _,_,_=>none
def xslice (P : Program) (t : TypeId) (x : Value) (lo hi mx : Option Value) : Option Value:=
 match mx,x,P.underlying t with
 | some m,.slice a len cap,some (.slice e)=>xslice3 P e a len cap lo hi m
 | none,.slice a len cap,some (.slice e)=>match P.info? e,xbound hi len cap with
  | some inf,some h=>match xbound lo 0 h with
   | some l=>match a with
    | some ⟨i,o,none⟩=>if cap=l then some (.slice (some ⟨i,o,some 0⟩) 0 0) else some (.slice (some ⟨i,o+l*inf.size,none⟩) (h-l) (cap-l))
    | some ⟨i,o,some s⟩=>some (.slice (some ⟨i,o,some s⟩) 0 0)
    | none=>if len=0∧l=0∧h=0∧cap=0 then some (.slice none 0 0) else none
   | none=>none
  | _,_=>none
 | none,.string s,some .string=>match xbound hi s.size s.size with
  | some h=>match xbound lo 0 h with
   | some l=>some (.string (s.extract l h))
   | none=>none
  | none=>none
 | none,.pointer (some ⟨i,o,none⟩),some (.array n e)=>match P.info? e,xbound hi n n with
  | some inf,some h=>match xbound lo 0 h with
   | some l=>if n=l then some (.slice (some ⟨i,o,some 0⟩) 0 0) else some (.slice (some ⟨i,o+l*inf.size,none⟩) (h-l) (n-l))
   | none=>none
  | _,_=>none
 | _,_,_=>none
inductive OV (θ : Th) : Option Value→Option Value→Prop
 | none : OV θ none none
 | some {v w : Value} (h : VR θ v w) : OV θ (some v) (some w)
theorem OV.map {θ : Th} {ρ ρ' : Operand→Value} (hρ : ∀ x,VR θ (ρ x) (ρ' x)) (x : Option Operand) : OV θ (x.map ρ) (x.map ρ'):=by
 cases x with
 | none=>exact .none
 | some x=>exact .some (hρ x)
theorem run_bound {P : Program} {θ : Th} {x x' : Option Value} {d y r : Nat} {y' : Nat} {code : BoundsCode} (h : xbound x d y=some r) (hx : OV θ x x') (hy : y≤y') (w : World) :
  (match x' with|some v=>Instr.sliceBound v y' code|none=>pure d : Sem Nat).run P w=.ok r w:=by
 cases hx with
 | none=>simp only[xbound] at h;cases h;rfl
 | some hv=>
  cases hv with
  | int k n=>
   simp only[xbound] at h
   split at h
   ·rename_i hb
    cases h
    have hb' : 0≤n∧n≤(y' : Int):=⟨hb.1,by omega⟩
    simp[Instr.sliceBound,asIntOf,hb']
   ·cases h
  | _=>simp[xbound] at h
theorem xbound_le {x : Option Value} {d y r : Nat} (h : xbound x d y=some r) (hd : d≤y) : r≤y:=by
 unfold xbound at h
 split at h
 ·cases h;exact hd
 ·split at h
  ·cases h;omega
  ·cases h
 ·cases h
theorem run_bounds {P : Program} {θ : Th} {lo hi lo' hi' : Option Value} {len y cap' l h : Nat} {isSlice : Bool} (hh : xbound hi len y=some h) (hl : xbound lo 0 h=some l) (hy : y≤cap')
  (hlo : OV θ lo lo') (hhi : OV θ hi hi') (w : World) : (Instr.sliceBounds isSlice len cap' lo' hi' none).run P w=.ok (l,h,cap') w:=by
 have e1:=fun code=>run_bound (P:=P) (code:=code) hh hhi hy w
 have e2:=fun code=>run_bound (P:=P) (code:=code) hl hlo (Nat.le_refl _) w
 simp only[Instr.sliceBounds,Sem.run_bind,Result.andThen_ok,Sem.run_pure,Option.isSome_none,Bool.false_eq_true,if_false]
 cases hhi with
 | none=>
  have a1:=e1 .index
  simp only[Sem.run_pure,Result.ok.injEq,and_true] at a1
  subst a1
  cases hlo with
  | none=>
   have a2:=e2 .index
   simp only[Sem.run_pure,Result.ok.injEq,and_true] at a2
   subst a2
   simp
  | some hv=>simp[e2]
 | some hv'=>
  cases hlo with
  | none=>
   have a2:=e2 .index
   simp only[Sem.run_pure,Result.ok.injEq,and_true] at a2
   subst a2
   simp[e1]
  | some hv=>simp[e1,e2]
theorem run_bounds3 {P : Program} {θ : Th} {lo lo' : Option Value} {h0 h0' m m' : Value} {len cap cap' l h k : Nat} (hk : xbound (some m) 0 cap=some k) (hh : xbound (some h0) 0 k=some h) (hl : xbound lo 0 h=some l) (hy : cap≤cap')
  (hlo : OV θ lo lo') (hhi : VR θ h0 h0') (hm : VR θ m m') (w : World) : (Instr.sliceBounds true len cap' lo' (some h0') (some m')).run P w=.ok (l,h,k) w:=by
 have e0:=fun code=>run_bound (P:=P) (code:=code) hk (.some hm) hy w
 have e1:=fun code=>run_bound (P:=P) (code:=code) hh (.some hhi) (Nat.le_refl _) w
 have e2:=fun code=>run_bound (P:=P) (code:=code) hl hlo (Nat.le_refl _) w
 simp only at e0 e1
 simp only[Instr.sliceBounds,Sem.run_bind,Result.andThen_ok,Option.isSome_some,if_true,e0,e1]
 cases hlo with
 | none=>
  have a2:=e2 .index
  simp only[Sem.run_pure,Result.ok.injEq,and_true] at a2
  subst a2
  simp
 | some hv=>simp only at e2;simp[e2]
theorem xslice3_ok {P : Program} {θ : Th} {t e : TypeId} {a a' : Option Addr} {n c n' c' : Nat} {v m m' : Value} {lo hi lo' hi' : Option Value} (hu : P.underlying t=some (.slice e)) (h : xslice3 P e a n c lo hi m=some v)
  (hx : VR θ (.slice a n c) (.slice a' n' c')) (hlo : OV θ lo lo') (hhi : OV θ hi hi') (hmx : VR θ m m')
  (w : World) : ∃ v',(Instr.sliceAt t (.slice a' n' c') lo' hi' (some m')).run P w=.ok v' w∧VR θ v v':=by
 unfold xslice3 at h
 split at h
 ·rename_i inf k h0 hinf hk
  cases hhi with
  | some hh0=>
   split at h
   ·rename_i hh hhh
    split at h
    ·rename_i l hl
     have b1:=xbound_le hk (Nat.zero_le _)
     have b2:=xbound_le hhh (Nat.zero_le _)
     have b3:=xbound_le hl (Nat.zero_le _)
     cases hx with
     | snil n c=>
      simp only at h
      split at h
      ·rename_i hz
       obtain⟨rfl,rfl,rfl,rfl⟩:=hz
       cases h
       refine⟨_,?_,.snil _ _⟩
       simp[Instr.sliceAt,run_underlying hu,Instr.slice,run_bounds3 hk hhh hl (Nat.le_refl _) hlo hh0 hmx,run_sizeOf' hinf]
      ·cases h
     | slice hp hn hc hs=>
      rename_i i o p
      simp only at h
      split at h
      ·rename_i hcl
       cases h
       refine⟨_,?_,.sempty _ _ _ ⟨p.blk,p.base+o,none⟩ 0⟩
       have e0 : hh-l=0:=by omega
       have e1 : k-l=0:=by omega
       simp only[Instr.sliceAt,Sem.run_bind,run_underlying hu,Result.andThen_ok,Instr.slice,run_bounds3 hk hhh hl hc hlo hh0 hmx,run_sizeOf' hinf,Sem.run_pure,e0,e1]
       rw[if_pos hcl]
      ·rename_i hcl
       cases h
       refine⟨_,?_,.slice hp (by omega) (Nat.le_refl _) (fun _=>.inl rfl)⟩
       simp[Instr.sliceAt,run_underlying hu,Instr.slice,run_bounds3 hk hhh hl hc hlo hh0 hmx,run_sizeOf' hinf,hcl,addr_add,Nat.add_assoc]
     | sempty i o s a c=>
      simp only at h
      split at h
      ·rename_i hk0
       subst hk0
       cases h
       obtain rfl : hh=0:=by omega
       obtain rfl : l=0:=by omega
       refine⟨_,?_,.sempty i o s a 0⟩
       simp[Instr.sliceAt,run_underlying hu,Instr.slice,run_bounds3 hk hhh hl (Nat.zero_le _) hlo hh0 hmx,run_sizeOf' hinf]
      ·cases h
    ·cases h
   ·cases h
 ·cases h
theorem xslice_ok {P : Program} {θ : Th} {t : TypeId} {x x' v : Value} {lo hi mx lo' hi' mx' : Option Value} (h : xslice P t x lo hi mx=some v)
  (hx : VR θ x x') (hlo : OV θ lo lo') (hhi : OV θ hi hi') (hmx : OV θ mx mx')
  (hst : ∀ i o n c p e inf,x=.slice (some ⟨i,o,none⟩) n c→θ i=some p→p.rw=true→P.underlying t=some (.slice e)→P.info? e=some inf→p.st=inf.size) (w : World) :
  ∃ v',(Instr.sliceAt t x' lo' hi' mx').run P w=.ok v' w∧VR θ v v':=by
 cases hmx with
 | some hm=>
  cases hu : P.underlying t with
  | none=>cases hx<;>simp[xslice,hu] at h
  | some d=>
   cases hx with
   | snil n c=>
    cases d<;>try (simp[xslice,hu] at h;done)
    simp only[xslice,hu] at h
    exact xslice3_ok hu h (.snil n c) hlo hhi hm w
   | slice hp hn hc hs=>
    cases d<;>try (simp[xslice,hu] at h;done)
    simp only[xslice,hu] at h
    exact xslice3_ok hu h (.slice hp hn hc hs) hlo hhi hm w
   | sempty i o s a c=>
    cases d<;>try (simp[xslice,hu] at h;done)
    simp only[xslice,hu] at h
    exact xslice3_ok hu h (.sempty i o s a c) hlo hhi hm w
   | _=>cases d<;>simp[xslice] at h
 | none=>
  cases hu : P.underlying t with
  | none=>cases hx<;>simp[xslice,hu] at h
  | some d=>
   cases hx with
   | string s=>
    cases d<;>try (simp[xslice,hu] at h;done)
    simp only[xslice,hu] at h
    split at h
    ·rename_i hh hhh
     split at h
     ·rename_i l hl
      cases h
      refine⟨_,?_,.string _⟩
      simp[Instr.sliceAt,run_underlying hu,Instr.slice,run_bounds hhh hl (Nat.le_refl _) hlo hhi]
     ·cases h
    ·cases h
   | snil n c=>
    cases d<;>try (simp[xslice,hu] at h;done)
    simp only[xslice,hu] at h
    split at h
    ·rename_i inf hh hinf hhh
     split at h
     ·rename_i l hl
      split at h
      ·rename_i hz
       obtain⟨rfl,rfl,rfl,rfl⟩:=hz
       cases h
       refine⟨_,?_,.snil _ _⟩
       simp[Instr.sliceAt,run_underlying hu,Instr.slice,run_bounds hhh hl (Nat.le_refl _) hlo hhi,run_sizeOf' hinf]
      ·cases h
     ·cases h
    ·cases h
   | slice hp hn hc hs=>
    rename_i i o n c c' p
    cases d<;>try (simp[xslice,hu] at h;done)
    rename_i e
    simp only[xslice,hu] at h
    split at h
    ·rename_i inf hh hinf hhh
     split at h
     ·rename_i l hl
      have h1:=xbound_le hhh hn
      have h2:=xbound_le hl (Nat.zero_le _)
      split at h
      ·rename_i hcl
       cases h
       refine⟨_,?_,.sempty _ _ _ (if c'=l then ⟨p.blk,p.base+o,none⟩ else ⟨p.blk,p.base+o+l*inf.size,none⟩) (c'-l)⟩
       have e0 : hh-l=0:=by omega
       simp only[Instr.sliceAt,Sem.run_bind,run_underlying hu,Result.andThen_ok,Instr.slice,run_bounds hhh hl hc hlo hhi,run_sizeOf' hinf,Sem.run_pure,e0]
       split<;>simp[addr_add]
      ·rename_i hcl
       cases h
       have hcl' : c'≠l:=by omega
       have hst':=hst i o n c p e inf rfl hp
       refine⟨_,?_,.slice hp (by omega) (show c-l≤c'-l by omega) (fun hrw=>?_)⟩
       ·simp[Instr.sliceAt,run_underlying hu,Instr.slice,run_bounds hhh hl hc hlo hhi,run_sizeOf' hinf,hcl',addr_add,Nat.add_assoc]
       ·have h3:=hs hrw
        rw[hst' hrw hu hinf] at h3 ⊢
        have : (c'-l)*inf.size+l*inf.size=c'*inf.size:=by rw[← Nat.add_mul];congr 1;omega
        omega
     ·cases h
    ·cases h
   | sempty i o s a c=>
    cases d<;>try (simp[xslice,hu] at h;done)
    rename_i e
    simp only[xslice,hu] at h
    split at h
    ·rename_i inf hh hinf hhh
     split at h
     ·rename_i l hl
      have h1:=xbound_le hhh (Nat.le_refl _)
      have h2:=xbound_le hl (Nat.zero_le _)
      obtain rfl : hh=0:=by omega
      obtain rfl : l=0:=by omega
      cases h
      refine⟨_,?_,.sempty i o s (if c=0 then a else a.add 0) c⟩
      simp only[Instr.sliceAt,Sem.run_bind,run_underlying hu,Result.andThen_ok,Instr.slice,run_bounds hhh hl (show 0≤c by omega) hlo hhi,run_sizeOf' hinf,Sem.run_pure]
      split<;>simp
     ·cases h
    ·cases h
   | ptr hp=>
    rename_i i o p
    cases d<;>try (simp[xslice,hu] at h;done)
    rename_i n e
    simp only[xslice,hu] at h
    split at h
    ·rename_i inf hh hinf hhh
     split at h
     ·rename_i l hl
      have h1:=xbound_le hhh (Nat.le_refl _)
      have h2:=xbound_le hl (Nat.zero_le _)
      split at h
      ·rename_i hcl
       cases h
       refine⟨_,?_,.sempty _ _ _ ⟨p.blk,p.base+o,none⟩ 0⟩
       have e0 : hh-l=0:=by omega
       subst hcl
       simp[Instr.sliceAt,Instr.sureAddr,run_underlying hu,run_bounds hhh hl (Nat.le_refl _) hlo hhi,run_sizeOf' hinf,e0]
      ·rename_i hcl
       cases h
       refine⟨_,?_,.slice hp (by omega) (Nat.le_refl _) (fun _=>.inl rfl)⟩
       simp[Instr.sliceAt,Instr.sureAddr,run_underlying hu,run_bounds hhh hl (Nat.le_refl _) hlo hhi,run_sizeOf' hinf,hcl,addr_add,Nat.add_assoc]
     ·cases h
    ·cases h
   | _=>cases d<;>simp[xslice] at h
end Go.Xe
