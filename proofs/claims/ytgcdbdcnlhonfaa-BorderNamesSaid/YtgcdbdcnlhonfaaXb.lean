/- An executable reading of the model's code over an abstract heap (part 2): the operations that change no memory, and that the model's own run of each agrees. Conditions: none; definitions and lemmas for every program. -/
import Derived.Test.YtgcdbdcnlhonfaaXa
import Derived.Laws.Tables
import Derived.Laws.StructEq
namespace Go.Xe
open Go
def atomV : Value→Bool
 | .bool _ | .int _ _ | .float _ _ | .string _ | .pointer none | .slice none _ _ | .map none | .nilFunc | .nilIface=>true
 | _=>false
def plainV : Value→Bool
 | .agg cs=>cs.toList.all atomV
 | .tuple vs=>vs.toList.all atomV
 | v=>atomV v
theorem VR.atom {θ : Th} {v : Value} (h : atomV v=true) : VR θ v v:=by
 cases v with
 | bool b=>exact .bool b
 | int k n=>exact .int k n
 | float k b=>exact .float k b
 | string s=>exact .string s
 | pointer a=>cases a with
  | none=>exact .pnil
  | some a=>simp[atomV] at h
 | slice a n c=>cases a with
  | none=>exact .snil n c
  | some a=>simp[atomV] at h
 | map r=>cases r with
  | none=>exact .mnil
  | some a=>simp[atomV] at h
 | nilFunc=>exact .nilFunc
 | nilIface=>exact .nilIface
 | _=>simp[atomV] at h
theorem AR.atoms {θ : Th} {a : Array Value} (h : a.toList.all atomV=true) : AR θ a a:=by
 refine⟨rfl,fun i v w hv hw=>?_⟩
 rw[hv] at hw;cases hw
 refine VR.atom (List.all_eq_true.1 h v ?_)
 exact Array.mem_toList_iff.2 (Array.mem_of_getElem? hv)
theorem VR.plain {θ : Th} {v : Value} (h : plainV v=true) : VR θ v v:=by
 cases v with
 | agg cs=>exact .agg rfl (AR.atoms (θ:=θ) h).2
 | tuple cs=>exact .tuple rfl (AR.atoms (θ:=θ) h).2
 | bool b=>exact .bool b
 | int k n=>exact .int k n
 | float k b=>exact .float k b
 | string s=>exact .string s
 | pointer a=>exact VR.atom h
 | slice a n c=>exact VR.atom h
 | map r=>exact VR.atom h
 | nilFunc=>exact .nilFunc
 | nilIface=>exact .nilIface
 | complex _ _ _=>simp[plainV,atomV] at h
 | chan _=>simp[plainV,atomV] at h
 | func _ _ _=>simp[plainV,atomV] at h
 | iface _ _=>simp[plainV,atomV] at h
def top : Value:=.chan none
def xbin (P : Program) (op : BinOp) (t : TypeId) (x y : Value) : Option Value:=
 match op,x,y with
 | .shl,.int k a,.int _ b=>if b<0 then none else some (.int k (k.wrap (a*2 ^ (min b.toNat k.bits))))
 | .shr,.int k a,.int _ b=>if b<0 then none else some (.int k (a.fdiv (2 ^ (min b.toNat k.bits))))
 | op,.int k a,.int k' b=>
  if k≠k' then none else
  match op with
  | .add=>some (.int k (k.wrap (a+b)))
  | .sub=>some (.int k (k.wrap (a-b)))
  | .mul=>some (.int k (k.wrap (a*b)))
  | .quo=>if b=0 then none else some (.int k (k.wrap (a.tdiv b)))
  | .rem=>if b=0 then none else some (.int k (a.tmod b))
  | .and=>some (.int k (k.wrap (BitVec.ofInt k.bits a &&& BitVec.ofInt k.bits b).toNat))
  | .or=>some (.int k (k.wrap (BitVec.ofInt k.bits a ||| BitVec.ofInt k.bits b).toNat))
  | .xor=>some (.int k (k.wrap (BitVec.ofInt k.bits a ^^^ BitVec.ofInt k.bits b).toNat))
  | .andNot=>some (.int k (k.wrap (BitVec.ofInt k.bits a &&& ~~~ BitVec.ofInt k.bits b).toNat))
  | .eql=>some (.bool (a == b))
  | .neq=>some (.bool (a != b))
  | .lss=>some (.bool (decide (a<b)))
  | .leq=>some (.bool (decide (a≤b)))
  | .gtr=>some (.bool (decide (a > b)))
  | .geq=>some (.bool (decide (a≥b)))
  | _=>none
 | .eql,.bool a,.bool b=>match P.underlying t with
  | some .bool=>some (.bool (a == b))
  | _=>none
 | .neq,.bool a,.bool b=>match P.underlying t with
  | some .bool=>some (.bool (!(a == b)))
  | _=>none
 | _,_,_=>none
theorem int_eqGuard {P : Program} {w : World} {op : BinOp} {t : TypeId} {x y : Operand} {k k' : IntKind} {a b : Int} : (eqGuard op t x y (.int k a) (.int k' b)).run P w=.ok () w:=by
 unfold eqGuard;cases op<;>rfl
theorem bool_eqGuard {P : Program} {w : World} {op : BinOp} {t : TypeId} {x y : Operand} {a b : Bool} : (eqGuard op t x y (.bool a) (.bool b)).run P w=.ok () w:=by
 unfold eqGuard;cases op<;>rfl
theorem eql_bool {P : Program} {t : TypeId} {a b : Bool} (hu : P.underlying t=some .bool) (w : World) : (binOp .eql t (.bool a) (.bool b)).run P w=.ok (.bool (a == b)) w:=by
 show (do pure (.bool (← Op.equalIn (9999+1) t (.bool a) (.bool b))) : Sem Value).run P w=_
 simp only[Sem.run_bind,run_equalIn_bool w 9999 t a b hu,Result.andThen_ok,Sem.run_pure]
theorem neq_bool {P : Program} {t : TypeId} {a b : Bool} (hu : P.underlying t=some .bool) (w : World) : (binOp .neq t (.bool a) (.bool b)).run P w=.ok (.bool (!(a == b))) w:=by
 show (do pure (.bool (!(← Op.equalIn (9999+1) t (.bool a) (.bool b)))) : Sem Value).run P w=_
 simp only[Sem.run_bind,run_equalIn_bool w 9999 t a b hu,Result.andThen_ok,Sem.run_pure]
theorem xbin_ok {P : Program} {θ : Th} {op : BinOp} {t : TypeId} {x y : Value} {x' y' : Value} {ox oy : Operand} {v : Value} (h : xbin P op t x y=some v)
  (hx : VR θ x x') (hy : VR θ y y') (w : World) : ∃ v',(do eqGuard op t ox oy x' y';binOp op t x' y' : Sem Value).run P w=.ok v' w∧VR θ v v':=by
 cases hx with
 | int k a=>
  cases hy with
  | int k' b=>
   simp only[Sem.run_bind,int_eqGuard,Result.andThen_ok]
   cases op with
   | shl=>
    simp only[xbin] at h
    split at h
    ·cases h
    ·cases h
     rename_i hb
     refine⟨_,?_,.int _ _⟩
     simp only[binOp,Op.shift,if_neg hb];rfl
   | shr=>
    simp only[xbin] at h
    split at h
    ·cases h
    ·cases h
     rename_i hb
     refine⟨_,?_,.int _ _⟩
     simp only[binOp,Op.shift,if_neg hb];rfl
   | quo=>
    simp only[xbin] at h
    split at h
    ·cases h
    ·rename_i hk
     split at h
     ·cases h
     ·cases h
      rename_i hb
      refine⟨_,?_,.int _ _⟩
      simp only[binOp,Op.intDiv,if_neg hk,if_neg hb];rfl
   | rem=>
    simp only[xbin] at h
    split at h
    ·cases h
    ·rename_i hk
     split at h
     ·cases h
     ·cases h
      rename_i hb
      refine⟨_,?_,.int _ _⟩
      simp only[binOp,Op.intDiv,if_neg hk,if_neg hb];rfl
   | _=>
    simp only[xbin] at h
    split at h
    ·cases h
    ·cases h
     rename_i hk
     refine⟨_,?_,by first|exact .int _ _|exact .bool _⟩
     simp only[binOp,if_neg hk];rfl
  | _=>cases op<;>simp[xbin] at h
 | bool a=>
  cases hy with
  | bool b=>
   simp only[Sem.run_bind,bool_eqGuard,Result.andThen_ok]
   cases op with
   | eql=>
    simp only[xbin] at h
    split at h
    ·cases h
     rename_i hu
     exact⟨_,eql_bool hu w,.bool _⟩
    ·cases h
   | neq=>
    simp only[xbin] at h
    split at h
    ·cases h
     rename_i hu
     exact⟨_,neq_bool hu w,.bool _⟩
    ·cases h
   | _=>simp[xbin] at h
  | _=>cases op<;>simp[xbin] at h
 | _=>cases op<;>simp[xbin] at h
def xun (op : UnOp) (x : Value) : Option Value:=
 match op,x with
 | .neg,.int k n=>some (.int k (k.wrap (0-n)))
 | .not,.bool b=>some (.bool !b)
 | _,_=>none
theorem xun_ok {P : Program} {θ : Th} {op : UnOp} {x x' v : Value} (h : xun op x=some v) (hx : VR θ x x') (w : World) : ∃ v',(Op.unary op x').run P w=.ok v' w∧VR θ v v':=by
 cases hx<;>cases op<;>simp only[xun] at h<;>first|(cases h;done)|(cases h;exact⟨_,rfl,by first|exact .bool _|exact .int _ _⟩)
def xconv (P : Program) (src dst : TypeId) (x : Value) : Option Value:=
 match x with
 | .int _ n=>match P.underlying src,P.underlying dst with
  | some _,some (.int k)=>some (.int k (k.wrap n))
  | _,_=>none
 | _=>none
theorem xconv_ok {P : Program} {θ : Th} {src dst : TypeId} {x x' v : Value} (h : xconv P src dst x=some v) (hx : VR θ x x') (w : World) :
  ∃ v',(convert src dst x').run P w=.ok v' w∧VR θ v v':=by
 cases hx<;>simp only[xconv] at h<;>try (cases h;done)
 split at h
 ·cases h
  rename_i hs hd
  refine⟨_,?_,.int _ _⟩
  simp[convert,run_underlying hs,run_underlying hd,Conv.intToInt]
 ·cases h
theorem AR.setMany {θ : Th} (off : Nat) : ∀ (l : List Value) (l' : List Value) (n : Nat),l.length=l'.length→(∀ (i : Nat) (v w : Value),l[i]?=some v→l'[i]?=some w→VR θ v w) →
  ∀ {a a' : Array Value},AR θ a a'→AR θ ((l.zipIdx n).foldl (fun cs (c,j)=>cs.setIfInBounds (off+j) c) a) ((l'.zipIdx n).foldl (fun cs (c,j)=>cs.setIfInBounds (off+j) c) a'):=by
 intro l
 induction l with
 | nil=>intro l' n hl _ a a' ha;cases l' with
  | nil=>simpa using ha
  | cons _ _=>simp at hl
 | cons x l ih=>
  intro l' n hl h a a' ha
  cases l' with
  | nil=>simp at hl
  | cons y l'=>
   simp only[List.zipIdx_cons,List.foldl_cons]
   exact ih l' (n+1) (by simpa using hl) (fun i v w hv hw=>h (i+1) v w (by simpa using hv) (by simpa using hw)) (ha.set (h 0 x y rfl rfl) _)
inductive PartsR (θ : Th) : List (Nat×Value)→List (Nat×Value)→Prop
 | nil : PartsR θ [] []
 | cons {x y : Nat×Value} {l l' : List (Nat×Value)} (h : x.1=y.1∧VR θ x.2 y.2∧x.2≠.chan none) (t : PartsR θ l l') : PartsR θ (x::l) (y::l')
theorem fill_rel {θ : Th} (place : Nat→Option (Nat×Nat)) : ∀ (l l' : List (Nat×Value)) (cs cs' r : Array Value),AR θ cs cs' →
  PartsR θ l l'→Instr.fill place cs l=some r→∃ r',Instr.fill place cs' l'=some r'∧AR θ r r':=by
 intro l
 induction l with
 | nil=>
  intro l' cs cs' r hc hl h
  cases hl
  simp only[Instr.fill] at h;cases h
  exact⟨cs',rfl,hc⟩
 | cons x l ih=>
  intro l' cs cs' r hc hl h
  cases hl with
  | cons hx hrest=>
   rename_i y l'
   obtain⟨i,v⟩:=x
   obtain⟨i',v'⟩:=y
   obtain⟨rfl,hv,hne⟩:=hx
   have hcells:=hv.cells hne
   simp only[Instr.fill] at h ⊢
   split at h
   ·cases h
   ·rename_i off size hp
    dsimp only at hcells
    rw[← hcells.1,← hc.1]
    split at h
    ·cases h
    ·rename_i hn
     rw[if_neg hn]
     have e1:=Array.foldl_toList (xs:=v.cells.zipIdx) (f:=fun cs (x : Value×Nat)=>cs.setIfInBounds (off+x.2) x.1) (init:=cs)
     have e2:=Array.foldl_toList (xs:=v'.cells.zipIdx) (f:=fun cs (x : Value×Nat)=>cs.setIfInBounds (off+x.2) x.1) (init:=cs')
     refine ih l' _ _ r ?_ hrest h
     rw[← e1,← e2,Array.toList_zipIdx,Array.toList_zipIdx]
     exact AR.setMany off _ _ 0 (by simpa using hcells.1) (fun j a b ha hb=>hcells.2 j a b (by simpa using ha) (by simpa using hb)) hc
def notTop : Value→Bool
 | .chan none=>false
 | _=>true
theorem notTop_ne {v : Value} (h : notTop v=true) : v≠.chan none:=by intro e;subst e;simp[notTop] at h
def xparts (ρ : Operand→Value) (parts : Array (Nat×Operand)) : List (Nat×Value):=parts.toList.map fun x=>(x.1,ρ x.2)
theorem parts_rel {θ : Th} {ρ ρ' : Operand→Value} (hρ : ∀ x,VR θ (ρ x) (ρ' x)) (parts : List (Nat×Operand)) (h : (parts.map fun x=>(x.1,ρ x.2)).all (fun x=>notTop x.2)=true) :
  PartsR θ (parts.map fun x=>(x.1,ρ x.2)) (parts.map fun x=>(x.1,ρ' x.2)):=by
 induction parts with
 | nil=>exact .nil
 | cons x l ih=>
  simp only[List.map_cons,List.all_cons,Bool.and_eq_true] at h
  exact .cons ⟨rfl,hρ _,notTop_ne h.1⟩ (ih h.2)
def xbuild (P : Program) (t : TypeId) (parts : List (Nat×Value)) : Option Value:=
 match P.info? t,P.underlying t with
 | some it,some (.array _ e)=>
  match it.zero,P.info? e with
  | some z,some ie=>if plainV z && parts.all (fun x=>notTop x.2) then (Instr.fill (fun i=>some (i*ie.size,ie.size)) z.cells parts).map .agg else none
  | _,_=>none
 | some it,some (.struct fields)=>
  match it.zero,fields.toList.mapM (fun f=>(P.info? f.type).map fun i=>(f.offset,i.size)) with
  | some z,some places=>if plainV z && parts.all (fun x=>notTop x.2) then (Instr.fill (places.toArray[·]?) z.cells parts).map .agg else none
  | _,_=>none
 | _,_=>none
theorem plain_cells {θ : Th} {z : Value} (h : plainV z=true) : AR θ z.cells z.cells:=
 (VR.plain h).cells (fun e=>by subst e;simp[plainV,atomV] at h)
theorem xbuild_ok {P : Program} {θ : Th} {ρ ρ' : Operand→Value} {t : TypeId} {parts : Array (Nat×Operand)} {v : Value} (h : xbuild P t (xparts ρ parts)=some v)
  (hρ : ∀ x,VR θ (ρ x) (ρ' x)) (w : World) : ∃ v',(Instr.build t (parts.map fun (i,x)=>(i,ρ' x))).run P w=.ok v' w∧VR θ v v':=by
 have key : ∃ cells : Array Value,P.built t (parts.map fun (i,x)=>(i,ρ' x)).toList=some cells∧VR θ v (.agg cells):=by
  unfold xbuild at h
  unfold Program.built
  have hl : (parts.map fun (i,x)=>(i,ρ' x)).toList=parts.toList.map fun x=>(x.1,ρ' x.2):=by simp
  rw[hl]
  split at h
  ·rename_i it _ e hi hu
   rw[hi,hu]
   simp only
   split at h
   ·rename_i z ie hz hie
    rw[hz,hie]
    simp only
    split at h
    ·rename_i hc
     simp only[Bool.and_eq_true] at hc
     simp only[Option.map_eq_some_iff] at h
     obtain⟨cs,hcs,rfl⟩:=h
     obtain⟨r',hr',har⟩:=fill_rel _ _ _ _ z.cells _ (plain_cells hc.1) (parts_rel hρ parts.toList hc.2) hcs
     exact⟨r',hr',.agg har.1 har.2⟩
    ·cases h
   ·cases h
  ·rename_i it fields hi hu
   rw[hi,hu]
   simp only
   split at h
   ·rename_i z places hz hp
    rw[hz,hp]
    simp only
    split at h
    ·rename_i hc
     simp only[Bool.and_eq_true] at hc
     simp only[Option.map_eq_some_iff] at h
     obtain⟨cs,hcs,rfl⟩:=h
     obtain⟨r',hr',har⟩:=fill_rel _ _ _ _ z.cells _ (plain_cells hc.1) (parts_rel hρ parts.toList hc.2) hcs
     exact⟨r',hr',.agg har.1 har.2⟩
    ·cases h
   ·cases h
  ·cases h
 obtain⟨cells,hb,hv⟩:=key
 exact⟨.agg cells,run_build w t _ cells hb,hv⟩
theorem addr_add (b o n : Nat) : (⟨b,o,none⟩ : Addr).add n=⟨b,o+n,none⟩:=by
 unfold Addr.add;split
 ·rename_i h;subst h;rfl
 ·rfl
def xpart (P : Program) (t : TypeId) (cs : Array Value) (off : Nat) : Option Value:=
 match P.underlying t,P.info? t with
 | some (.struct _),some i|some (.array _ _),some i=>some (.agg (cs.extract off (off+i.size)))
 | some _,some _=>cs[off]?
 | _,_=>none
theorem run_isAgg {P : Program} {t : TypeId} {d : TypeDesc} (h : P.underlying t=some d) (w : World) :
  (isAgg t).run P w=.ok (match d with | .struct _ | .array _ _=>true|_=>false) w:=by
 simp only[isAgg,Sem.run_bind,run_underlying h,Result.andThen_ok]
 cases d<;>rfl
theorem run_sizeOf' {P : Program} {t : TypeId} {i : TypeInfo} (h : P.info? t=some i) (w : World) : (sizeOf t).run P w=.ok i.size w:=by simp[sizeOf,typeInfo,h]
theorem run_typeInfo' {P : Program} {t : TypeId} {i : TypeInfo} (h : P.info? t=some i) (w : World) : (typeInfo t).run P w=.ok i w:=by simp[typeInfo,h]
theorem run_zeroValue' {P : Program} {t : TypeId} {i : TypeInfo} {z : Value} (h : P.info? t=some i) (hz : i.zero=some z) (w : World) : (zeroValue t).run P w=.ok z w:=by simp[zeroValue,typeInfo,h,hz]
theorem xpart_ok {P : Program} {θ : Th} {t : TypeId} {cs cs' : Array Value} {off : Nat} {v : Value} (h : xpart P t cs off=some v) (hc : AR θ cs cs') (w : World) :
  ∃ v',(part t cs' off).run P w=.ok v' w∧VR θ v v':=by
 unfold xpart at h
 split at h
 ·cases h
  rename_i hu hi
  have:=hc.extract off (off+TypeInfo.size (by assumption))
  exact⟨_,by simp[part,run_isAgg hu,run_sizeOf' hi],.agg this.1 this.2⟩
 ·cases h
  rename_i hu hi
  have:=hc.extract off (off+TypeInfo.size (by assumption))
  exact⟨_,by simp[part,run_isAgg hu,run_sizeOf' hi],.agg this.1 this.2⟩
 ·rename_i d i hns hna hu hi
  obtain⟨v',hv',hr⟩:=hc.get h
  refine⟨v',?_,hr⟩
  have : (isAgg t).run P w=.ok false w:=by
   rw[run_isAgg hu]
   cases d<;>first|rfl|(exact absurd rfl (hns _))|(exact absurd rfl (hna _ _))
  simp[part,this,hv']
 ·cases h
end Go.Xe
