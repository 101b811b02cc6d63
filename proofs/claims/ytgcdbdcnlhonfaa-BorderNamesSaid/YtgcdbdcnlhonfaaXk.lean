/- An executable reading of the model's code over an abstract heap (part 11): operations that make a block of cells, told without a heap. Conditions: none. -/
import Derived.Test.YtgcdbdcnlhonfaaXj
namespace Go.Xe
open Go
def newC : Op→Bool
 | .alloc _ | .box _ _ | .buildSlice _ _ _ | .makeSlice _ _ _=>true
 | _=>false
def newOp : Op→Bool
 | .makeMap _ _=>true
 | op=>newC op
structure NewD where
 c : Array Value
 el : TypeId
 shape : Option (Nat×Nat)
def NewD.val (d : NewD) (i : Nat) : Value:=
 match d.shape with
 | none=>.pointer (some ⟨i,0,none⟩)
 | some (n,c)=>.slice (some ⟨i,0,none⟩) n c
def NewD.fits (d : NewD) (P : Program) (sz : Nat) : Prop:=∀ n c,d.shape=some (n,c)→n≤c∧c*P.cellsOf d.el≤sz
def NewD.runs (d : NewD) (P : Program) (θ : Th) (s : Sem Next) : Prop:=
 ∃ c',AR θ d.c c'∧d.fits P c'.size∧∀ w : World,s.run P w=.ok (.value (d.val w.heap.size)) (w.alloc (.cells c' d.el))
theorem NewD.vr {d : NewD} {P : Program} {θ : Th} {p : Pl} {i : Nat} (hp : θ i=some p) (hb : p.base=0) (hst : p.st=P.cellsOf d.el) (hf : d.fits P p.sz) : VR θ (d.val i) (d.val p.blk):=by
 have e : (⟨p.blk,0,none⟩ : Addr)=⟨p.blk,p.base+0,none⟩:=by rw[hb]
 unfold NewD.val
 cases hs : d.shape with
 | none=>simp only;rw[e];exact .ptr hp
 | some nc=>
  obtain⟨n,c⟩:=nc
  obtain⟨h1,h2⟩:=hf n c hs
  simp only
  rw[e]
  exact .slice hp h1 (Nat.le_refl _) (fun _=>by rw[hb,hst];omega)
theorem new_ok {P : Program} {θ : Th} {H H' : Heap} {ρ ρ' : Operand→Value} (hρ : ∀ x,VR θ (ρ x) (ρ' x)) {o : Oper} (hn : newC o.op=true) {v : Value} (h : xop P H ρ o.op=some (v,H')) :
  ∃ d : NewD,v=d.val H.next∧H'=H.alloc (.cells d.c d.el true)∧d.runs P θ (execOp ρ' o):=by
 obtain⟨dst,op,type,pos,after,guard⟩:=o
 simp only at h hn
 cases op<;>simp[newC] at hn
 case alloc e=>
  simp only[xop,xalloc] at h
  split at h
  ·rename_i i hi
   split at h
   ·rename_i z hz
    split at h
    ·rename_i hp
     cases h
     refine⟨⟨z.cells,e,none⟩,rfl,rfl,z.cells,plain_cells hp,(fun n c hs=>by cases hs),fun w=>?_⟩
     simp[execOp,Instr.alloc,run_zeroValue' hi hz,newVar,newRow,NewD.val]
    ·cases h
   ·cases h
  ·cases h
 case box e x=>
  simp only[xop,xbox] at h
  split at h
  ·rename_i hnt
   cases h
   refine⟨⟨(ρ x).cells,e,none⟩,rfl,rfl,(ρ' x).cells,(hρ x).cells (notTop_ne hnt),(fun n c hs=>by cases hs),fun w=>?_⟩
   simp[execOp,Instr.box,newVar,newRow,NewD.val]
  ·cases h
 case buildSlice t len parts=>
  simp only[xop,xbuildSlice] at h
  split at h
  ·rename_i e hu
   split at h
   ·rename_i ie hie
    split at h
    ·cases h
    ·rename_i hsm
     have hst : P.cellsOf e=ie.size:=by simp[Program.cellsOf,hie]
     split at h
     ·rename_i hz0
      split at h
      ·rename_i hp
       obtain⟨rfl,hp⟩:=hp
       cases h
       have hnil : parts=#[]:=by
        simp only[xparts,List.isEmpty_iff,List.map_eq_nil_iff] at hp
        exact Array.toList_eq_nil_iff.1 hp
       subst hnil
       refine⟨⟨#[],e,some (0,0)⟩,rfl,rfl,#[],AR.nil,(fun n c hs=>by cases hs;simp),fun w=>?_⟩
       simp[execOp,Instr.buildSlice,run_underlying hu,run_sizeOf' hie,Instr.fill,newRow,map_range0,NewD.val]
      ·cases h
     ·rename_i hz0
      split at h
      ·rename_i z hz
       split at h
       ·rename_i hc
        obtain⟨ha,hne,hnt⟩:=hc
        split at h
        ·rename_i cs hcs
         split at h
         ·rename_i hsz
          cases h
          obtain⟨cs',hcs',har⟩:=fill_rel _ _ _ _ _ _ (zeros_rel (θ:=θ) ha _ hne) (parts_rel hρ parts.toList hnt) hcs
          refine⟨⟨cs,e,some (len,len)⟩,rfl,rfl,cs',har,fun n c hs=>?_,fun w=>?_⟩
          ·cases hs;exact⟨Nat.le_refl _,by rw[← har.1,hsz,hst];exact Nat.le_refl _⟩
          ·have hl : (parts.map fun (i,x)=>(i,ρ' x)).toList=parts.toList.map fun x=>(x.1,ρ' x.2):=by simp
           have:=run_buildSlice w t e len (parts.map fun (i,x)=>(i,ρ' x)) cs' ie z hu hie hz hsm hz0 (by rw[hl];exact hcs')
           simp only[execOp,Sem.run_bind,this,Result.andThen_ok,Sem.run_pure,NewD.val]
         ·cases h
        ·cases h
       ·cases h
      ·cases h
   ·cases h
  ·cases h
 case makeSlice t l c=>
  have hl:=hρ l
  have hc:=hρ c
  simp only[xop] at h
  generalize ρ l=vl at *
  generalize ρ c=vc at *
  generalize hl' : ρ' l=vl' at *
  generalize hc' : ρ' c=vc' at *
  cases hl with
  | int kl nl=>
   cases hc with
   | int kc nc=>
    cases hu : P.underlying t with
    | none=>simp[xmakeSlice,hu] at h
    | some d=>
     cases d<;>try (simp[xmakeSlice,hu] at h;done)
     rename_i e
     simp only[xmakeSlice,hu] at h
     split at h
     ·rename_i ie hie
      split at h
      ·rename_i z hz
       split at h
       ·rename_i hcond
        obtain⟨h1,h2,h3,h4,h5,h6,h7⟩:=hcond
        cases h
        have hst : P.cellsOf e=ie.size:=by simp[Program.cellsOf,hie]
        refine⟨⟨zeros z.cells (nc.toNat*ie.size),e,some (nl.toNat,nc.toNat)⟩,rfl,rfl,_,zeros_rel h5 _ h6,fun n c hs=>?_,fun w=>?_⟩
        ·cases hs
         refine⟨by omega,?_⟩
         simp[hst,zeros]
        ·have e1 : IntKind.i64.wrap nl=nl:=wrap64_id h1 (by omega)
         have e2 : IntKind.i64.wrap nc=nc:=wrap64_id (by omega) h4
         have hcond : ¬ ((decide (nc<0) || decide ((ie.bytes : Int)*nc > 2 ^ 48) || decide (nl<0) || decide (nl > nc))=true):=by
          rw[Int.mul_comm] at h3
          simp only[Bool.or_eq_true,decide_eq_true_eq]
          omega
         have hrun : (Instr.makeSlice t (.int kl nl) (.int kc nc)).run P w=.ok (.slice (some ⟨w.heap.size,0,none⟩) nl.toNat nc.toNat) (w.alloc (.cells (zeros z.cells (nc.toNat*ie.size)) e)):=by
          simp only[Instr.makeSlice,Sem.run_bind,run_underlying hu,Result.andThen_ok,asInt,asIntOf,Sem.run_pure,run_typeInfo' hie,e1,e2,if_neg hcond,run_askRoom,run_sizeOf' hie,newRow]
          by_cases hn : nc.toNat*ie.size=0
          ·simp only[hn,if_true,zeros,map_range0];rfl
          ·simp only[if_neg hn,Sem.run_bind,run_zeroValue' hie hz,Result.andThen_ok,Sem.run_pure,run_newObj];rfl
         simp only[execOp,hl',hc',Sem.run_bind,hrun,Result.andThen_ok,Sem.run_pure,NewD.val]
       ·cases h
      ·cases h
     ·cases h
   | _=>simp[xmakeSlice] at h
  | _=>simp[xmakeSlice] at h
theorem Rel.adopt {P : Program} {θ : Th} {H : Heap} {w : World} (h : Rel P θ H w) {c c' : Array Value} {el : TypeId} {p : Pl} (hw : w.heap[p.blk]?=some (.cells c' el (0,0))) (hrw : p.rw=true) (hb : p.base=0) (hsz : p.sz=c'.size) (hst : p.st=P.cellsOf el)
  (hc : AR θ c c') (hfree : ∀ i q,θ i=some q→q.blk≠p.blk) : Rel P (θ.put H.next p) (H.alloc (.cells c el true)) w:=by
 have he : Ext θ (θ.put H.next p):=Th.ext_put h.fresh
 refine⟨?_,?_,?_⟩
 ·intro i x hi hx
  rw[Heap.get_alloc] at hi
  by_cases e : i=H.next
  ·subst e;simp at hi;subst hi
   refine⟨p,Th.put_same _ _ _,c',_,(0,0),hw,hrw,fun _=>⟨rfl,.inl rfl,hsz.symm,hst⟩,fun k v hk=>?_⟩
   obtain⟨v',hv',hr⟩:=hc.get hk
   exact⟨v',by rw[hb];simpa using hv',hr.ext he⟩
  ·simp[e] at hi
   obtain⟨q,hq,hor⟩:=h.obj i x hi hx
   exact⟨q,he _ _ hq,hor.ext he rfl⟩
 ·intro i q hq
  by_cases e : i=H.next
  ·subst e
   rw[Th.put_same] at hq;cases hq
   exact⟨by simp,(Array.getElem?_eq_some_iff.1 hw).1⟩
  ·simp[Th.put,e] at hq
   have:=h.dom i q hq
   exact⟨by simp;omega,this.2⟩
 ·obtain⟨ow,hown⟩:=h.own
  exact⟨_,hown.add (fun i q hq=>(h.dom i q hq).1) rfl hrw hfree (fun _ _ _=>rfl)⟩
theorem xmakeMap_new {P : Program} {θ : Th} {H H' : Heap} {t : TypeId} {r r' : Option Value} {v : Value} (h : xmakeMap P H t r=some (v,H')) (hrr : OV θ r r') :
  ∃ kt,v=.map (some H.next)∧H'=H.alloc (.map kt #[] 0)∧∀ w : World,(Instr.makeMap t r').run P w=.ok (.map (some w.heap.size)) (w.alloc (.map #[] 0)):=by
 unfold xmakeMap at h
 split at h
 ·rename_i kt et hu
  split at h
  ·rename_i hc
   cases h
   refine⟨kt,rfl,rfl,fun w=>?_⟩
   cases hrr with
   | none=>simp[Instr.makeMap]
   | some hv=>cases hv<;>simp[okHint] at hc<;>simp[Instr.makeMap,run_underlying hu,asInt,asIntOf]
  ·cases h
 ·cases h
inductive NO where
 | cells (c : Array Value) (el : TypeId)
 | map (kt : TypeId)
def NO.ao : NO→AO
 | .cells c el=>.cells c el true
 | .map kt=>.map kt #[] 0
def NOR (P : Program) (θ : Th) (w : World) (p : Pl) : NO→Prop
 | .cells c el=>p.base=0∧∃ c',p.sz=c'.size∧p.st=P.cellsOf el∧w.heap[p.blk]?=some (.cells c' el (0,0))∧AR θ c c'
 | .map _=>w.heap[p.blk]?=some (.map #[] 0)
theorem NOR.lt {P : Program} {θ : Th} {w : World} {p : Pl} {x : NO} (h : NOR P θ w p x) : p.blk<w.heap.size:=by
 cases x with
 | cells c el=>obtain⟨_,c',_,_,h1,_⟩:=h;exact (Array.getElem?_eq_some_iff.1 h1).1
 | map kt=>exact (Array.getElem?_eq_some_iff.1 h).1
theorem NOR.mono {P : Program} {θ θ' : Th} {w w' : World} {p : Pl} {x : NO} (h : NOR P θ w p x) (he : Ext θ θ') (hb : w'.heap[p.blk]?=w.heap[p.blk]?) : NOR P θ' w' p x:=by
 cases x with
 | cells c el=>obtain⟨a,c',b,d,e,f⟩:=h;exact⟨a,c',b,d,hb.trans e,f.ext he⟩
 | map kt=>exact hb.trans h
theorem Rel.adoptN {P : Program} {θ : Th} {H : Heap} {w : World} (h : Rel P θ H w) {x : NO} {p : Pl} (hn : NOR P θ w p x) (hrw : p.rw=true)
  (hfree : ∀ i q,θ i=some q→q.blk≠p.blk) : Rel P (θ.put H.next p) (H.alloc x.ao) w:=by
 cases x with
 | cells c el=>obtain⟨a,c',b,d,e,f⟩:=hn;exact h.adopt e hrw a b d f hfree
 | map kt=>
  have he : Ext θ (θ.put H.next p):=Th.ext_put h.fresh
  have hw : w.heap[p.blk]?=some (.map #[] 0):=hn
  refine⟨?_,?_,?_⟩
  ·intro i y hi hy
   rw[Heap.get_alloc] at hi
   by_cases e : i=H.next
   ·subst e;simp at hi;subst hi
    exact⟨p,Th.put_same _ _ _,#[],hw,hrw,rfl,by simp,fun k e e' hk=>by simp at hk⟩
   ·simp[e] at hi
    obtain⟨q,hq,hor⟩:=h.obj i y hi hy
    exact⟨q,he _ _ hq,hor.ext he rfl⟩
  ·intro i q hq
   by_cases e : i=H.next
   ·subst e
    rw[Th.put_same] at hq;cases hq
    exact⟨by simp,(Array.getElem?_eq_some_iff.1 hw).1⟩
   ·simp[Th.put,e] at hq
    have:=h.dom i q hq
    exact⟨by simp;omega,this.2⟩
  ·obtain⟨ow,hown⟩:=h.own
   exact⟨_,hown.add (fun i q hq=>(h.dom i q hq).1) rfl hrw hfree (fun _ _ _=>rfl)⟩
structure NewX (P : Program) (θ : Th) (o : Oper) (ρ' : Operand→Value) (x : NO) (val : Nat→Value) (w : World) (ob : Obj) (p : Pl) : Prop where
 run : (execOp ρ' o).run P w=.ok (.value (val w.heap.size)) (w.alloc ob)
 blk : p.blk=w.heap.size
 rw : p.rw=true
 nor : NOR P θ (w.alloc ob) p x
 vr : ∀ (θ1 : Th) (i : Nat),θ1 i=some p→VR θ1 (val i) (val p.blk)
theorem new_okX {P : Program} {θ : Th} {H H' : Heap} {ρ ρ' : Operand→Value} (hρ : ∀ x,VR θ (ρ x) (ρ' x)) {o : Oper} (hn : newOp o.op=true) {v : Value} (h : xop P H ρ o.op=some (v,H')) :
  ∃ (x : NO) (val : Nat→Value),v=val H.next∧H'=H.alloc x.ao∧∀ w : World,∃ ob p,NewX P θ o ρ' x val w ob p:=by
 by_cases hc : newC o.op=true
 ·obtain⟨d,rfl,rfl,c',h1,h2,h3⟩:=new_ok hρ hc h
  exact⟨.cells d.c d.el,d.val,rfl,rfl,fun w=>⟨.cells c' d.el,Pl.new P w d.el c'.size,h3 w,rfl,rfl,⟨rfl,c',rfl,rfl,alloc_at _ _,h1⟩,fun θ1 i hi=>NewD.vr hi rfl rfl h2⟩⟩
 ·obtain⟨dst,op,type,pos,after,guard⟩:=o
  simp only at h hn hc
  cases op<;>simp[newOp,newC] at hn hc
  case makeMap t r=>
   simp only[xop] at h
   obtain⟨kt,rfl,rfl,h3⟩:=xmakeMap_new h (OV.map hρ r)
   exact⟨.map kt,fun i=>.map (some i),rfl,rfl,fun w=>⟨.map #[] 0,{ blk:=w.heap.size,base:=0,sz:=0,st:=0,rw:=true },by simp only[execOp,Sem.run_bind,h3 w,Result.andThen_ok,Sem.run_pure],rfl,rfl,alloc_at _ _,fun θ1 i hi=>.map hi⟩⟩
def softOp : Op→Bool
 | .move _ | .assign _ | .build _ _=>true
 | _=>false
theorem soft_ok {P : Program} {θ : Th} {H H' : Heap} {ρ ρ' : Operand→Value} (hρ : ∀ x,VR θ (ρ x) (ρ' x)) {o : Oper} (hn : softOp o.op=true) {v : Value} (h : xop P H ρ o.op=some (v,H')) (w : World) :
  H'=H∧∃ v',(execOp ρ' o).run P w=.ok (.value v') w∧VR θ v v':=by
 obtain⟨dst,op,type,pos,after,guard⟩:=o
 simp only at h hn
 cases op<;>simp[softOp] at hn
 case move x=>simp only[xop] at h;cases h;exact⟨rfl,_,rfl,hρ x⟩
 case assign x=>simp only[xop] at h;cases h;exact⟨rfl,_,rfl,hρ x⟩
 case build t parts=>
  obtain⟨h1,rfl⟩:=map_fst h
  obtain⟨v',h2,h3⟩:=xbuild_ok h1 hρ w
  exact⟨rfl,v',by simp only[execOp,Sem.run_bind,h2,Result.andThen_ok,Sem.run_pure],h3⟩
def lightOp : Op→Bool
 | .alloc _ | .box _ _ | .buildSlice _ _ _ | .makeSlice _ _ _ | .makeMap _ _ | .store _ _ _ | .mapUpdate _ _ _ _ | .insert _ _ _ _=>false
 | .call { callee:=.builtin .append,.. }=>false
 | .call { callee:=.builtin .clear,.. }=>false
 | .call { callee:=.builtin .copy,.. }=>false
 | .call { callee:=.builtin _,.. }=>true
 | .call _=>false
 | _=>true
theorem light_heap {P : Program} {H H' : Heap} {ρ : Operand→Value} {op : Op} (hl : lightOp op=true) {v : Value} (h : xop P H ρ op=some (v,H')) : H'=H:=by
 have m1 : ∀ {x : Option Value},x.map (·,H)=some (v,H')→H'=H:=fun h=>(map_fst h).2
 cases op<;>simp[lightOp] at hl
 case move x=>cases h;rfl
 case assign x=>cases h;rfl
 case pick c a b=>
  simp only[xop] at h
  split at h
  ·cases h;rfl
  ·cases h
 case build=>exact m1 h
 case load=>exact m1 h
 case nilCheck=>exact m1 h
 case binOp=>exact m1 h
 case unOp=>exact m1 h
 case convert=>exact m1 h
 case makeFunc=>exact m1 h
 case fieldAddr=>exact m1 h
 case field=>exact m1 h
 case indexAddr=>exact m1 h
 case index=>exact m1 h
 case lookup=>exact m1 h
 case extract=>exact m1 h
 case slice=>
  simp only[xop] at h
  split at h
  ·exact m1 h
  ·cases h
 case call c=>
  obtain⟨callee,args,ats⟩:=c
  cases callee with
  | value f=>simp at hl
  | invoke r m=>simp at hl
  | builtin b=>
   simp only[xop,xbuiltin] at h
   split at h
   ·exact (map_fst h).2
   ·exact (map_fst h).2
   ·exact (map_fst h).2
   ·exact (map_fst h).2
   ·simp at hl
   ·simp at hl
   ·simp at hl
   ·cases h
 all_goals (simp[xop] at h)
end Go.Xe
