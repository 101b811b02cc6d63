/- An executable reading of the model's code over an abstract heap (part 8): calls, rounds of a range over a function, and a region in the order of its text. Conditions: what is executed at a lower depth agrees with the model (ExOk). -/
import Derived.Test.YtgcdbdcnlhonfaaXg
import Derived.RangeFuncWrites
import Derived.Lib.ConvBytes
import Derived.Laws.BytesString
namespace Go.Xe
open Go
structure AS where
 tmps : Array Value
 marks : List Nat
 heap : Heap
inductive XE where
 | normal
 | exit (id : Nat)
 | ret
def XE.to : XE→Exit
 | .normal=>.normal
 | .exit id=>.exit id
 | .ret=>.ret
abbrev Ex:=Option Nat→Code→AS→Option (XE×AS)
def FW (r : Option Nat) : Fence:={ Fence.wide with round:=r }
theorem FW_depth (r : Option Nat) (n : Nat) : (FW r).depth.isSome=true→1≤n:=fun h=>by cases h
theorem FW_none : FW none=Fence.wide:=rfl
theorem FW_in' (r : Option Nat) (l : Nat) : (FW r).inRound l=FW (some l):=rfl
def Quiet (v : Value) (w : World) : Ending→World→Prop:=fun e w'=>e=.returned v∧w.heap.size≤w'.heap.size∧(∀ b,b<w.heap.size→w'.heap[b]?=w.heap[b]?)∧w'.os=w.os∧w'.tape=w.tape∧w'.output=w.output
class Gl (P : Program) where
 G : Nat→Bool
@[reducible] def Gl.none (P : Program) : Gl P:=⟨fun _=>false⟩
class Orc (P : Program) where
 base : Nat
 I : World→Prop
 keep : ∀ w w' : World,(∀ b,b<base→w'.heap[b]?=w.heap[b]?)→I w→I w'
 O : Nat→Option Bool
 ok : ∀ g b, O g = some b → (∀ (w : World) (r : Option Nat) (n : Nat), base ≤ w.heap.size → I w → CallsIn (FW r) n P g #[] w (Quiet (.bool b) w)) ∧ ∃ fn, P.funcs[g]? = some fn ∧ fn.body.isSome = true ∧ (fn.name == "runtime.NumGoroutine") = false
@[reducible] def Orc.none (P : Program) : Orc P:=⟨0,fun _=>True,fun _ _ _ _=>trivial,fun _=>.none,fun _ _ h=>by cases h⟩
structure At (P : Program) [Gl P] [Orc P] (θ : Th) (w : World) : Prop where
 big : Orc.base P≤w.heap.size
 inv : Orc.I P w
 own : ∀ i p,θ i=some p→p.rw=true→Orc.base P≤p.blk
 glb : ∀ g,Gl.G P g=true→∃ p,θ g=some p∧p.blk=g∧p.base=0
theorem At.stp {P : Program} [Gl P] [Orc P] {θ θ' : Th} {w w' : World} (h : At P θ w) (s : Stp θ w θ' w') : At P θ' w':=by
 refine⟨Nat.le_trans h.big s.size,Orc.keep _ _ (fun b hb=>s.frame b (Nat.lt_of_lt_of_le hb h.big) ?_) h.inv,?_,?_⟩
 ·intro i p hp hrw e
  have:=h.own i p hp hrw
  omega
 ·intro i p hp hrw
  rcases s.new i p hp with h1|⟨_,h1|⟨j,q,hj,hq,hb⟩⟩
  ·exact h.own i p h1 hrw
  ·exact Nat.le_trans h.big h1
  ·rw[← hb];exact h.own j q hj hq
 ·intro g hg
  obtain⟨p,h1,h2⟩:=h.glb g hg
  exact⟨p,s.ext _ _ h1,h2⟩
def ev (P : Program) [Gl P] (tmps : Array Value) : Operand→Value
 | .tmp t=>tmps.getD t undef
 | .const v=>if plainV v then v else top
 | .global g=>if Gl.G P g then .pointer (some ⟨g,0,none⟩) else top
 | .func f=>.func (.func f) #[] #[]
theorem ev_rel {P : Program} [Gl P] [Orc P] {θ : Th} {w : World} (hat : At P θ w) {a : Array Value} {b : Act} (h : AR θ a b.tmps) (x : Operand) : VR θ (ev P a x) (b.eval x):=by
 cases x with
 | tmp t=>exact h.getD t
 | const v=>
  show VR θ (if plainV v then v else top) v
  split
  ·rename_i hv;exact VR.plain hv
  ·exact .top v
 | global g=>
  show VR θ (if Gl.G P g then .pointer (some ⟨g,0,none⟩) else top) (.pointer (some ⟨g,0,none⟩))
  split
  ·rename_i hg
   obtain⟨p,h1,h2,h3⟩:=hat.glb g hg
   have:=VR.ptr (o:=0) h1
   rw[h2,h3] at this
   exact this
  ·exact .top _
 | func f=>exact .func (.same _ (fun l=>by simp)) rfl (AR.nil (θ:=θ)).2 rfl (AR.nil (θ:=θ)).2
inductive MarksR (θ : Th) : List Nat→List Deferred→Prop
 | nil : MarksR θ [] []
 | cons {m : Nat} {p : Pl} {ms : List Nat} {ds : List Deferred} (h : θ m=some p) (t : MarksR θ ms ds) : MarksR θ (m::ms) ({ target:=.collected p.blk,args:=#[] }::ds)
theorem MarksR.ext {θ θ' : Th} (e : Ext θ θ') {ms : List Nat} {ds : List Deferred} (h : MarksR θ ms ds) : MarksR θ' ms ds:=by
 induction h with
 | nil=>exact .nil
 | cons h _ ih=>exact .cons (e _ _ h) ih
inductive RndR (θ : Th) : Option Nat→Option Nat→Prop
 | none : RndR θ none none
 | some {l : Nat} {p : Pl} (h : θ l=some p) : RndR θ (some l) (some p.blk)
theorem RndR.ext {θ θ' : Th} (e : Ext θ θ') {a b : Option Nat} (h : RndR θ a b) : RndR θ' a b:=by
 cases h with
 | none=>exact .none
 | some h=>exact .some (e _ _ h)
def ASR (P : Program) (θ : Th) (a : AS) (b : Act) (w : World) : Prop:=Rel P θ a.heap w∧AR θ a.tmps b.tmps∧MarksR θ a.marks b.defers
def Post (P : Program) (θ : Th) (w : World) (e : XE) (a : AS) : Exit→Act→World→Prop:=fun e' b' w'=>e'=e.to∧∃ θ',Stp θ w θ' w'∧ASR P θ' a b' w'
def ExOk (P : Program) [Gl P] [Orc P] (ex : Ex) : Prop:=∀ rnd c a e a',ex rnd c a=some (e,a')→∀ (θ : Th) (w : World) (b : Act) (r : Option Nat) (n : Nat),ASR P θ a b w→At P θ w→RndR θ rnd r →
 c.wpIn (FW r) n P (Post P θ w e a') b w
def xresult (P : Program) (H : Heap) (tmps : Array Value) : ResultVar→Option Value
 | .tmp t=>some (tmps.getD t undef)
 | .cell a t=>xload P H t (tmps.getD a undef)
def xresults (P : Program) (H : Heap) (fn : Func) (tmps : Array Value) : Option Value:=
 match fn.results.toList with
 | [r]=>xresult P H tmps r
 | rs=>match rs.mapM (xresult P H tmps) with
  | some vs=>some (.tuple vs.toArray)
  | none=>none
def runResult (tmps : Array Value) : ResultVar→Sem Value
 | .tmp t=>pure (tmps.getD t undef)
 | .cell a t=>do loadVar t (← asAddr (tmps.getD a undef))
theorem xresult_ok {P : Program} {θ : Th} {H : Heap} {w : World} (hr : Rel P θ H w) {tmps tmps' : Array Value} (ht : AR θ tmps tmps') {rv : ResultVar} {v : Value} (h : xresult P H tmps rv=some v) :
  ∃ v',(runResult tmps' rv).run P w=.ok v' w∧VR θ v v':=by
 cases rv with
 | tmp t=>simp only[xresult] at h;cases h;exact⟨_,rfl,ht.getD t⟩
 | cell a t=>
  simp only[xresult] at h
  obtain⟨v',h1,h2⟩:=xload_ok hr h (ht.getD a)
  refine⟨v',?_,h2⟩
  have hv:=ht.getD a
  generalize tmps.getD a undef=x at *
  generalize hx' : tmps'.getD a undef=x' at *
  cases hv<;>try (simp[xload] at h;done)
  simpa [runResult,hx',asAddr,Instr.loadAt,Instr.sureAddr] using h1
theorem xresultsM_ok {P : Program} {θ : Th} {H : Heap} {w : World} (hr : Rel P θ H w) {tmps tmps' : Array Value} (ht : AR θ tmps tmps') : ∀ {rs : List ResultVar} {vs : List Value},rs.mapM (xresult P H tmps)=some vs →
  ∃ vs',(rs.mapM (runResult tmps')).run P w=.ok vs' w∧vs.length=vs'.length∧∀ (i : Nat) (v v' : Value),vs[i]?=some v→vs'[i]?=some v'→VR θ v v'
 | [],vs,h=>by
  simp at h;subst h
  exact⟨[],by simp,rfl,fun i v v' hv=>by simp at hv⟩
 | r::rs,vs,h=>by
  simp only[List.mapM_cons,Option.bind_eq_bind,Option.bind_eq_some_iff,Option.pure_def,Option.some.injEq] at h
  obtain⟨v,hv,vs0,hvs,rfl⟩:=h
  obtain⟨v',h1,h2⟩:=xresult_ok hr ht hv
  obtain⟨vs',h3,h4,h5⟩:=xresultsM_ok hr ht hvs
  refine⟨v'::vs',by simp[List.mapM_cons,h1,h3],by simp[h4],fun i a b ha hb=>?_⟩
  cases i with
  | zero=>simp at ha hb;subst ha;subst hb;exact h2
  | succ i=>exact h5 i a b (by simpa using ha) (by simpa using hb)
theorem results_eq (fn : Func) (tmps : Array Value) : results fn tmps=(do
  let vs ← fn.results.mapM (runResult tmps)
  pure (if h : vs.size=1 then vs[0] else .tuple vs)):=by
 unfold results
 congr 1
theorem xresults_ok {P : Program} {θ : Th} {H : Heap} {w : World} (hr : Rel P θ H w) {tmps tmps' : Array Value} (ht : AR θ tmps tmps') {fn : Func} {v : Value} (h : xresults P H fn tmps=some v) :
  ∃ v',(results fn tmps').run P w=.ok v' w∧VR θ v v':=by
 rw[results_eq]
 unfold xresults at h
 split at h
 ·rename_i r hrs
  obtain⟨v',h1,h2⟩:=xresult_ok hr ht h
  refine⟨v',?_,h2⟩
  simp[Array.mapM_eq_mapM_toList,hrs,List.mapM_cons,h1]
 ·rename_i rs hne
  split at h
  ·rename_i vs hvs
   cases h
   obtain⟨vs',h1,h2,h3⟩:=xresultsM_ok hr ht hvs
   have hlen : vs.length=fn.results.toList.length:=by
    clear h1 h2 h3 hne
    generalize fn.results.toList=l at hvs
    clear hr ht
    induction l generalizing vs with
    | nil=>simp at hvs;subst hvs;rfl
    | cons x l ih=>
     simp only[List.mapM_cons,Option.bind_eq_bind,Option.bind_eq_some_iff,Option.pure_def,Option.some.injEq] at hvs
     obtain⟨_,_,vs0,hv0,rfl⟩:=hvs
     simp[ih vs0 hv0]
   have hne1 : vs'.length≠1:=by
    intro h1
    rw[← h2,hlen] at h1
    obtain⟨x,hx⟩:=List.length_eq_one_iff.1 h1
    exact hne x hx
   refine⟨.tuple vs'.toArray,?_,.tuple (by simpa using h2) (fun i a b ha hb=>h3 i a b (by simpa using ha) (by simpa using hb))⟩
   simp[Array.mapM_eq_mapM_toList,h1,hne1]
  ·cases h
def xunmark : List Nat→Heap→Option Heap
 | [],H=>some H
 | m::ms,H=>match H.get m with
  | some (.deferred true)=>xunmark ms (H.set m .dead)
  | _=>none
theorem xunmark_ok {P : Program} {F : Fence} {n : Nat} {fn : Func} {tmps : Array Value} {R : Ending→World→Prop} : ∀ {ms : List Nat} {ds : List Deferred} {H H' : Heap} {θ : Th} {w : World},
  Rel P θ H w→MarksR θ ms ds→xunmark ms H=some H' →
  (∀ w',Rel P θ H' w'→Stp θ w θ w'→LeavesInM F n P fn tmps R [] .returning w')→LeavesInM F n P fn tmps R ds .returning w
 | [],ds,H,H',θ,w,hr,hm,h,k=>by
  cases hm
  simp only[xunmark] at h;cases h
  exact k w hr (Stp.refl _ _)
 | m::ms,ds,H,H',θ,w,hr,hm,h,k=>by
  cases hm with
  | cons hp ht=>
   rename_i p ds
   simp only[xunmark] at h
   split at h
   ·rename_i hg
    obtain⟨q,hq,hb,hrw⟩:=hr.obj m _ hg rfl
    rw[hp] at hq;cases hq
    have hblk : w.heap[p.blk]?=some (.deferred (some [])):=hb
    have hlt : p.blk<w.heap.size:=(Array.getElem?_eq_some_iff.1 hblk).1
    obtain⟨q1,q2⟩:=hr.write hg rfl hp hrw (w':=w.putObj p.blk (.deferred none)) (by simp) (fun b hb'=>World.putObj_heap_other hb') rfl rfl rfl (o':=.dead) trivial
    refine⟨by simp,.inl ⟨p.blk,_,rfl,run_takeDeferred hblk,?_⟩⟩
    exact xunmark_ok q1 ht h (fun w' hw' hs=>k w' hw' (q2.trans hs))
   ·cases h
theorem Quiet.stp {P : Program} {θ : Th} {H : Heap} {w w' : World} {v : Value} {e : Ending} (h : Quiet v w e w') (hr : Rel P θ H w) : e=.returned v∧Stp θ w θ w'∧Rel P θ H w':=by
 obtain⟨h1,h2,h3,h4,h5,h6⟩:=h
 refine⟨h1,⟨Ext.refl θ,fun _ _ h=>.inl h,h2,fun b hb _=>h3 b hb,h4,h5,h6⟩,⟨?_,?_,hr.own.imp fun _ k=>k.same fun i q hq=>h3 _ (hr.dom i q hq).2⟩⟩
 ·intro i o hi ho
  obtain⟨p,hp,hor⟩:=hr.obj i o hi ho
  exact⟨p,hp,hor.ext (Ext.refl _) (h3 _ (hr.dom i p hp).2)⟩
 ·intro i p hp
  have:=hr.dom i p hp
  exact⟨this.1,Nat.lt_of_lt_of_le this.2 h2⟩
def xcall (P : Program) [Gl P] [Orc P] (ex : Ex) (f : FuncId) (args : Array Value) (H : Heap) : Option (Value×Heap):=
 match Orc.O P f with
 | some b=>if args.toList=[] then some (.bool b,H) else none
 | none=>
      match P.funcs[f]? with
  | some fn=>match fn.body with
   | some c=>
    if (fn.name == "runtime.NumGoroutine") = false then
     match ex none c { tmps:=args++Array.replicate (fn.ntmps-args.size) undef,marks:=[],heap:=H } with
     | some (.exit _,_)=>none
     | some (_,a)=>match xunmark a.marks a.heap with
      | some H1=>match xresults P H1 fn a.tmps with
       | some v=>some (v,H1)
       | none=>none
      | none=>none
     | none=>none
    else none
   | none=>none
  | none=>none
def Returns (P : Program) (θ : Th) (w : World) (v : Value) (H' : Heap) : Ending→World→Prop:=fun e w'=>∃ v' θ',e=.returned v'∧Stp θ w θ' w'∧Rel P θ' H' w'∧VR θ' v v'
theorem xcall_ok {P : Program} [Gl P] [Orc P] {ex : Ex} (hex : ExOk P ex) {f : FuncId} {args args' : Array Value} {H H' : Heap} {v : Value} (h : xcall P ex f args H=some (v,H')) {θ : Th} {w : World} (hr : Rel P θ H w) (hat : At P θ w)
  (ha : AR θ args args') (r : Option Nat) (n : Nat) : CallsIn (FW r) n P f args' w (Returns P θ w v H') ∧ ∃ fn, P.funcs[f]? = some fn ∧ fn.body.isSome = true ∧ (fn.name == "runtime.NumGoroutine") = false := by
 unfold xcall at h
 split at h
 ·rename_i b hob
  split at h
  ·rename_i hargs
   cases h
   obtain⟨k1,k2⟩:=Orc.ok f b hob
   have e1 : args=#[]:=Array.toList_inj.1 hargs
   subst e1
   have e2 : args'=#[]:=Array.eq_empty_of_size_eq_zero ha.1.symm
   subst e2
   refine⟨(k1 w r n hat.big hat.inv).mono ?_,k2⟩
   rintro e w' hq
   obtain⟨q1,q2,q3⟩:=hq.stp hr
   exact⟨_,θ,q1,q2,q3,.bool b⟩
  ·cases h
 split at h
 ·rename_i fn hf
  split at h
  ·rename_i c hb
   split at h
   ·rename_i hname
    refine⟨?_,fn,hf,by rw[hb];rfl,hname⟩
    suffices hs : CallsIn (FW none) n P f args' w (Returns P θ w v H') by
     cases r with
     | none=>exact hs
     | some l=>exact CallsIn.inRound l hs
    have hbody : ∀ (e : XE) (a : AS) (H1 : Heap),ex none c { tmps:=args++Array.replicate (fn.ntmps-args.size) undef,marks:=[],heap:=H }=some (e,a)→(∀ id,e≠.exit id) →
      xunmark a.marks a.heap=some H1→xresults P H1 fn a.tmps=some v→H1=H'→CallsIn (FW none) n P f args' w (Returns P θ w v H'):=by
     rintro e a H1 he hne hum hres rfl
     refine callsIn_of_wp_marks hf hb trivial ?_ rfl
     have hasr : ASR P θ { tmps:=args++Array.replicate (fn.ntmps-args.size) undef,marks:=[],heap:=H } { tmps:=args'++Array.replicate (fn.ntmps-args'.size) undef,defers:=[] } w:=
      ⟨hr,by rw[← ha.1];exact ha.append (AR.replicate _ VR.undef),.nil⟩
     refine wpIn_mono (hex _ _ _ _ _ he θ w _ none n hasr hat .none) ?_
     rintro e' b' w' ⟨rfl,θ',hs,hr',ht',hm'⟩
     have hl : LeavesInM (FW none) n P fn b'.tmps (Returns P θ w v H1) b'.defers .returning w':=by
      refine xunmark_ok hr' hm' hum (fun w2 hr2 hs2=>?_)
      obtain⟨v',hv1,hv2⟩:=xresults_ok hr2 ht' hres
      exact⟨v',hv1,v',θ',rfl,hs.trans hs2,hr2,hv2⟩
     cases e with
     | normal=>exact hl
     | ret=>exact hl
     | exit id=>exact absurd rfl (hne id)
    split at h
    ·cases h
    ·rename_i e a hne he
     split at h
     ·rename_i H1 hum
      split at h
      ·rename_i v0 hres
       cases h
       exact hbody e a _ he (fun id hid=>by subst hid;exact hne _ rfl) hum hres rfl
      ·cases h
     ·cases h
    ·cases h
   ·cases h
  ·cases h
 ·cases h
def setParams (tmps : Array Value) (ps : Array Tmp) (args : Array Value) : Array Value:=
 (ps.zip args).foldl (fun tmps (t,a)=>tmps.setIfInBounds t a) tmps
theorem setParams_rel {θ : Th} {tmps tmps' args args' : Array Value} (ps : Array Tmp) (ht : AR θ tmps tmps') (ha : AR θ args args') : AR θ (setParams tmps ps args) (setParams tmps' ps args'):=by
 unfold setParams
 rw[← Array.foldl_toList,← Array.foldl_toList,Array.toList_zip,Array.toList_zip]
 have hl : args.toList.length=args'.toList.length:=by simpa using ha.1
 have h2 : ∀ (i : Nat) (v v' : Value),args.toList[i]?=some v→args'.toList[i]?=some v'→VR θ v v':=fun i v v' a b=>ha.2 i v v' (by simpa using a) (by simpa using b)
 generalize args.toList=l at *
 generalize args'.toList=l' at *
 generalize ps.toList=q
 induction q generalizing l l' tmps tmps' with
 | nil=>simpa using ht
 | cons t q ih=>
  cases l with
  | nil=>cases l' with
   | nil=>simpa using ht
   | cons _ _=>simp at hl
  | cons x l=>cases l' with
   | nil=>simp at hl
   | cons y l'=>
    simp only[List.zip_cons_cons,List.foldl_cons]
    exact ih (ht.set (h2 0 x y rfl rfl) t) l l' (by simpa using hl) (fun i v v' a b=>h2 (i+1) v v' (by simpa using a) (by simpa using b))
def XE.jump : XE→Option Code
 | .normal=>none
 | .exit id=>some (.exit id)
 | .ret=>some .ret
def xround (ex : Ex) (l : Nat) (args : Array Value) (H : Heap) : Option (Value×Heap):=
 match H.get l with
 | some (.loop r)=>
  if args.size=r.params.size then
   match ex (some l) r.assign { tmps:=setParams r.tmps r.params args,marks:=[],heap:=H } with
   | some (.normal,a)=>match a.heap.get l with
    | some (.loop r1)=>
     if r1.state=.ready then
      match ex (some l) r.body { a with heap:=a.heap.set l (.loop { r1 with state:=.busy }) } with
      | some (e,a2)=>match a2.heap.get l with
       | some (.loop r2)=>some (.bool e.jump.isNone,a2.heap.set l (.loop { r2 with state:=if e.jump.isNone then .ready else .done,pending:=e.jump }))
       | _=>none
      | none=>none
     else none
    | _=>none
   | _=>none
  else none
 | _=>none
theorem Rel.loopAt {P : Program} {θ : Th} {H : Heap} {w : World} (h : Rel P θ H w) {l : Nat} {r : Loop} (hl : H.get l=some (.loop r)) : ∃ p,θ l=some p∧p.rw=true∧∃ r' : Loop,w.heap[p.blk]?=some (.loop r') ∧
  r'.state=r.state∧r'.pending=r.pending∧AR θ r.tmps r'.tmps∧r'.params=r.params∧r'.assign=r.assign∧r'.body=r.body∧∃ pd,θ r.defers=some pd∧r'.defers=pd.blk:=by
 obtain⟨p,hp,r',h1,h2,h3⟩:=h.obj l _ hl rfl
 exact⟨p,hp,h2,r',h1,h3⟩
theorem Rel.setLoop {P : Program} {θ : Th} {H : Heap} {w : World} (h : Rel P θ H w) {l : Nat} {r : Loop} (hl : H.get l=some (.loop r)) {p : Pl} {r' : Loop} (hp : θ l=some p) (hr' : w.heap[p.blk]?=some (.loop r')) (st : LoopState) (pd : Option Code) :
  Rel P θ (H.set l (.loop { r with state:=st,pending:=pd })) (w.putObj p.blk (.loop { r' with state:=st,pending:=pd }))∧Stp θ w θ (w.putObj p.blk (.loop { r' with state:=st,pending:=pd })):=by
 obtain⟨q,hq,hrw,r2,h1,h2,h3,h4,h5,h6,h7,h8⟩:=h.loopAt hl
 rw[hp] at hq;cases hq
 rw[hr'] at h1;cases h1
 have hlt : p.blk<w.heap.size:=(Array.getElem?_eq_some_iff.1 hr').1
 exact h.write hl rfl hp hrw (by simp) (fun b hb=>World.putObj_heap_other hb) rfl rfl rfl ⟨_,World.putObj_heap_same hlt,hrw,rfl,rfl,h4,h5,h6,h7,h8⟩
theorem xround_ok {P : Program} [Gl P] [Orc P] {ex : Ex} (hex : ExOk P ex) {l : Nat} {args args' : Array Value} {H H' : Heap} {v : Value} (h : xround ex l args H=some (v,H')) {θ : Th} {w : World} (hr : Rel P θ H w) (hat : At P θ w)
  (ha : AR θ args args') {p : Pl} (hp : θ l=some p) (r : Option Nat) (n : Nat) : ∃ fn tmps assign body,(Instr.yield p.blk args').run P w=.ok (.round p.blk fn tmps assign body) w∧RoundIn (FW r) n P p.blk fn tmps assign body w (Returns P θ w v H'):=by
 unfold xround at h
 split at h
 ·rename_i rec hl
  split at h
  ·rename_i hsz
   obtain⟨q,hq,hrw,rec',g1,g2,g3,g4,g5,g6,g7,g8⟩:=hr.loopAt hl
   rw[hp] at hq;cases hq
   refine⟨_,_,_,_,run_yield g1 (by rw[← ha.1,hsz,g5]),?_⟩
   split at h
   ·rename_i a hassign
    split at h
    ·rename_i r1 hl1
     split at h
     ·rename_i hready
      split at h
      ·rename_i e a2 hbody
       split at h
       ·rename_i r2 hl2
        cases h
        refine roundIn_of_wpIn trivial ?_
        rw[FW_in']
        have hasr : ASR P θ { tmps:=setParams rec.tmps rec.params args,marks:=[],heap:=H } { tmps:=setParams rec'.tmps rec'.params args',defers:=[] } w:=
         ⟨hr,by rw[g5];exact setParams_rel _ g4 ha,.nil⟩
        have w1:=hex _ _ _ _ _ hassign θ w _ (some p.blk) n hasr hat (.some hp)
        rw[← g6] at w1
        refine wpIn_mono w1 ?_
        rintro e1 b1 v1 ⟨rfl,θ1,hs1,hr1,ht1,hm1⟩
        obtain⟨q1,hq1,hrw1,rec1,k1,k2,k3,k4,k5,k6,k7,k8⟩:=hr1.loopAt hl1
        have hq1':=hs1.ext _ _ hp
        rw[hq1'] at hq1;cases hq1
        obtain⟨z1,z2⟩:=hr1.setLoop hl1 hq1' k1 .busy rec1.pending
        rw[show ({ r1 with state:=LoopState.busy,pending:=rec1.pending } : Loop)={ r1 with state:=.busy } by rw[k3]] at z1
        have hbr:=run_beginRound (P:=P) k1 (by rw[k2];exact hready)
        refine⟨_,hbr,?_⟩
        have hasr2 : ASR P θ1 { a with heap:=a.heap.set l (.loop { r1 with state:=.busy }) } b1 (v1.putObj p.blk (.loop { rec1 with state:=.busy,pending:=rec1.pending })):=⟨z1,ht1,hm1⟩
        have w2:=hex _ _ _ _ _ hbody θ1 _ _ (some p.blk) n hasr2 ((hat.stp hs1).stp z2) (.some hq1')
        rw[← g7] at w2
        refine wpIn_mono w2 ?_
        rintro e2 b2 v2 ⟨rfl,θ2,hs2,hr2,ht2,hm2⟩
        obtain⟨q2,hq2,hrw2,rec2,y1,y2,y3,y4,y5,y6,y7,y8⟩:=hr2.loopAt hl2
        have hq2':=hs2.ext _ _ hq1'
        rw[hq2'] at hq2;cases hq2
        obtain⟨x1,x2⟩:=hr2.setLoop hl2 hq2' y1 (if e.jump.isNone then .ready else .done) e.jump
        have hend:=run_endRound (P:=P) e.jump y1
        have hres : Returns P θ w (.bool e.jump.isNone) (a2.heap.set l (.loop { r2 with state:=if e.jump.isNone then .ready else .done,pending:=e.jump })) (.returned (.bool e.jump.isNone))
          (v2.putObj p.blk (.loop { rec2 with state:=if e.jump.isNone then .ready else .done,pending:=e.jump })):=
         ⟨_,θ2,rfl,hs1.trans (z2.trans (hs2.trans x2)),x1,.bool _⟩
        cases e with
        | normal=>exact⟨_,_,hend,hres⟩
        | exit id=>exact⟨_,_,hend,hres⟩
        | ret=>exact⟨_,_,hend,hres⟩
       ·cases h
      ·cases h
     ·cases h
    ·cases h
   ·cases h
  ·cases h
 ·cases h
end Go.Xe
/- An executable reading of the model's code over an abstract heap (part 9): one operation in the walk, and a region in the order of its text. Conditions: what is executed at a lower depth agrees with the model (ExOk). -/
namespace Go.Xe
open Go
def xopv (P : Program) [Gl P] [Orc P] (ex : Ex) (ρ : Operand→Value) (op : Op) (H : Heap) : Option (Value×Heap):=
 match op with
 | .call { callee:=.value f,args,.. }=>match ρ f with
  | .func (.func g) first cap=>xcall P ex g (first++args.map ρ++cap) H
  | .func (.yield l) first _=>xround ex l (first++args.map ρ) H
  | _=>none
 | op=>xop P H ρ op
def put (tmps : Array Value) (dst : Option Tmp) (v : Value) : Array Value:=
 match dst with
 | some d=>tmps.setIfInBounds d v
 | none=>tmps
theorem put_rel {θ : Th} {a : Array Value} {b : Act} (h : AR θ a b.tmps) {v v' : Value} (hv : VR θ v v') (dst : Option Tmp) : AR θ (put a dst v) (b.put dst v').tmps:=by
 cases dst with
 | none=>exact h
 | some d=>exact h.set hv d
theorem put_defers (b : Act) (dst : Option Tmp) (v : Value) : (b.put dst v).defers=b.defers:=by cases dst<;>rfl
def Next' (P : Program) (θ : Th) (w : World) (v : Value) (H' : Heap) (K : Value→World→Prop) : Prop:=
 ∀ v' w' θ',Stp θ w θ' w'→Rel P θ' H' w'→VR θ' v v'→K v' w'
theorem xopv_ok {P : Program} [Gl P] [Orc P] {ex : Ex} (hex : ExOk P ex) {o : Oper} {ρ : Operand→Value} {b : Act} {H H' : Heap} {v : Value} {θ : Th} {w : World} (hr : Rel P θ H w) (hat : At P θ w) (hρ : ∀ x,VR θ (ρ x) (b.eval x))
  (h : xopv P ex ρ o.op H=some (v,H')) (r : Option Nat) (n : Nat) {next : Act→World→Prop} {Q : Exit→Act→World→Prop}
  (k : Next' P θ w v H' fun v' w'=>next (b.put o.dst v') w') : o.wpIn (FW r) n P b w next Q:=by
 have hdefer : ∀ c,o.op≠.defer c:=by
  intro c hc
  rw[hc] at h
  simp[xopv,xop] at h
 refine⟨fun _ _=>trivial,?_⟩
 rw[Oper.semAt_eq _ _ _ hdefer]
 have plain : xop P H ρ o.op=some (v,H')→o.uponIn (FW r) n P b next Q ((execOp b.eval o).run P w):=by
  intro h
  obtain⟨m,w',θ',h1,h2,h3,h4⟩:=xop_ok hr hρ h
  rw[h1]
  rcases h4 with⟨v',rfl,hv⟩|⟨rfl,rfl⟩
  ·exact k v' w' θ' h2 h3 hv
  ·exact k undef w' θ' h2 h3 VR.undef
 unfold xopv at h
 split at h
 ·rename_i f args ats hop
  have hx:=hρ f
  split at h
  ·rename_i g first cap hf
   rw[hf] at hx
   generalize hbf : b.eval f=fv at hx
   cases hx with
   | func hfn h1 h2 h3 h4=>
    rename_i f' first' cap'
    cases hfn
    have ha : AR θ (first++args.map ρ++cap) (first'++args.map b.eval++cap'):=(AR.append (AR.append ⟨h1,h2⟩ (AR.map ρ b.eval args hρ)) ⟨h3,h4⟩)
    obtain⟨hc,fn,hfn,hbody,hname⟩:=xcall_ok hex h hr hat ha r (n-1)
    have hrun : (execOp b.eval o).run P w=.ok (.enter g (first'++args.map b.eval++cap')) w:=by
     obtain⟨c,hc⟩:=Option.isSome_iff_exists.1 hbody
     have hname' : ¬ fn.name = "runtime.NumGoroutine" := by simpa using hname
     simp[execOp,hop,resolve,hbf,Deferred.ofValue,invoke,callFunc,hfn,hname',hc]
    rw[hrun,Oper.uponIn_enter]
    refine⟨FW_depth r n,hc.mono ?_⟩
    rintro e w' ⟨v',θ',rfl,hs,hr',hv⟩
    exact k v' w' θ' hs hr' hv
  ·rename_i l first cap hf
   rw[hf] at hx
   generalize hbf : b.eval f=fv at hx
   cases hx with
   | func hfn h1 h2 h3 h4=>
    rename_i f' first' cap'
    cases hfn with
    | same _ hno=>exact absurd rfl (hno l)
    | yield hp=>
     rename_i p
     have ha : AR θ (first++args.map ρ) (first'++args.map b.eval):=AR.append ⟨h1,h2⟩ (AR.map ρ b.eval args hρ)
     obtain⟨fn,tmps,assign,body,hy,hR⟩:=xround_ok hex h hr hat ha hp r (n-1)
     have hrun : (execOp b.eval o).run P w=.ok (.round p.blk fn tmps assign body) w:=by
      simp only[execOp,hop,resolve,hbf,Deferred.ofValue,invoke,Sem.run_bind,Sem.run_pure,Result.andThen_ok]
      exact hy
     rw[hrun,Oper.uponIn_round]
     refine⟨FW_depth r n,hR.mono ?_⟩
     rintro e w' ⟨v',θ',rfl,hs,hr',hv⟩
     exact k v' w' θ' hs hr' hv
  ·cases h
 ·exact plain h
def byteV (b : UInt8) : Value:=.int .u8 (.ofNat b.toNat)
def bytesV (s : ByteArray) : List Value:=s.data.toList.map byteV
def ofBytes : List Value→Option (List UInt8)
 | []=>some []
 | .int .u8 n::l=>match ofBytes l with
  | some r=>some (UInt8.ofNat n.toNat::r)
  | none=>none
 | _=>none
def isU8 (P : Program) (e : TypeId) : Bool:=match P.underlying e with
 | some (.int .u8)=>match P.info? e with
  | some ie=>ie.size == 1
  | none=>false
 | _=>false
def xconvS (P : Program) (H : Heap) (src dst : TypeId) (x : Value) : Option (Value×Heap):=
 match x with
 | .string s=>match P.underlying src,P.underlying dst with
  | some _,some (.slice e)=>if isU8 P e=true then some (.slice (some ⟨H.next,0,none⟩) s.data.toList.length s.data.toList.length,H.alloc (.cells ⟨bytesV s⟩ e true)) else none
  | _,_=>none
 | .slice a n _=>match P.underlying src,P.underlying dst with
  | some (.slice e),some .string=>if isU8 P e=true then match a with
   | some ⟨i,o,none⟩=>match H.cellsAt i with
    | some (c,_,_)=>if n=0 then some (.string ⟨⟨[]⟩⟩,H) else if o+n≤c.size then match ofBytes (c.extract o (o+n)).toList with
     | some l=>some (.string ⟨⟨l⟩⟩,H)
     | none=>none
     else none
    | none=>none
   | some ⟨_,_,some _⟩=>none
   | none=>some (.string ⟨⟨[]⟩⟩,H)
   else none
  | _,_=>none
 | _=>none
theorem bytesWorld_eq (w : World) (e : TypeId) (s : ByteArray) : Lib.bytesWorld w e s=w.drew.alloc (.cells (Lib.bytesCells w e s) e ((Lib.bytesCells w e s).size,(Lib.bytesCells w e s).size+1)):=by
 have h : (Lib.bytesWorld w e s).heap=(w.drew.alloc (.cells (Lib.bytesCells w e s) e ((Lib.bytesCells w e s).size,(Lib.bytesCells w e s).size+1))).heap:=by
  apply Array.ext_getElem?
  intro j
  by_cases h1 : j<w.heap.size
  ·rw[Lib.bytesWorld_at_old w e s j h1]
   exact (heap_alloc_lt w.drew _ j h1).symm
  ·by_cases h2 : j=w.heap.size
   ·subst h2
    rw[Lib.bytesWorld_at_new]
    exact (alloc_at w.drew _).symm
   ·rw[Array.getElem?_eq_none (by rw[Lib.bytesWorld_size];omega),Array.getElem?_eq_none]
    have : (w.drew.alloc (.cells (Lib.bytesCells w e s) e ((Lib.bytesCells w e s).size,(Lib.bytesCells w e s).size+1))).heap.size=w.heap.size+1:=by simp[World.alloc,World.drew,-World.alloc_eq,-World.drew_eq]
    omega
 have e1 : Lib.bytesWorld w e s={ w.drew.alloc (.cells (Lib.bytesCells w e s) e ((Lib.bytesCells w e s).size,(Lib.bytesCells w e s).size+1)) with heap:=(Lib.bytesWorld w e s).heap }:=rfl
 rw[e1,h]
theorem ofBytes_ok : ∀ {l : List Value} {r : List UInt8},ofBytes l=some r→∃ ns : List Int,l=ns.map (Value.int .u8)∧r=ns.map fun n=>UInt8.ofNat n.toNat
 | [],r,h=>by simp[ofBytes] at h;subst h;exact⟨[],rfl,rfl⟩
 | v::l,r,h=>by
  unfold ofBytes at h
  split at h
  ·rename_i heq;cases heq
  ·rename_i n l' heq
   cases heq
   split at h
   ·rename_i r' hr'
    cases h
    obtain⟨ns,h1,h2⟩:=ofBytes_ok hr'
    exact⟨n::ns,by rw[h1];rfl,by rw[h2];rfl⟩
   ·cases h
  ·cases h
theorem fold_push : ∀ (ns : List Int) (s : ByteArray),ns.foldl (fun r n=>r.push (UInt8.ofNat n.toNat)) s=⟨⟨s.data.toList++ns.map fun n=>UInt8.ofNat n.toNat⟩⟩
 | [],s=>by apply ByteArray.ext;apply Array.toList_inj.1;simp
 | n::ns,s=>by
  rw[List.foldl_cons,fold_push ns]
  apply ByteArray.ext;apply Array.toList_inj.1
  simp[ByteArray.push]
theorem isU8_ok {P : Program} {e : TypeId} (h : isU8 P e=true) : P.underlying e=some (.int .u8)∧∃ ie,P.info? e=some ie∧ie.size=1:=by
 unfold isU8 at h
 split at h
 ·rename_i hu
  split at h
  ·rename_i ie hi;exact⟨hu,ie,hi,by simpa using h⟩
  ·cases h
 ·cases h
theorem xconvS_ok {P : Program} {θ : Th} {H H' : Heap} {w : World} (hr : Rel P θ H w) {src dst : TypeId} {x x' v : Value} (h : xconvS P H src dst x=some (v,H')) (hx : VR θ x x') : NewOk P θ w (convert src dst x') v H':=by
 cases hx with
 | string s=>
  simp only[xconvS] at h
  split at h
  ·rename_i u e hs hd
   split at h
   ·rename_i hu
    obtain⟨h1,ie,h2,h3⟩:=isU8_ok hu
    cases h
    have hlen : s.size=s.data.toList.length:=(Array.length_toList).symm
    have hsz : (Lib.bytesCells w e s).size=s.size+(grownCap w s.size 0 e-s.size):=by simp[Lib.bytesCells]
    have hcap : s.size≤grownCap w s.size 0 e:=by simp[grownCap,Question.cut]
    have hc : P.cellsOf e=1:=by simp[Program.cellsOf,h2,h3]
    obtain⟨q1,q2⟩:=hr.drew.alloc (.cells ⟨bytesV s⟩ e true) (.cells (Lib.bytesCells w e s) e ((Lib.bytesCells w e s).size,(Lib.bytesCells w e s).size+1))
     { blk:=w.heap.size,base:=0,sz:=(Lib.bytesCells w e s).size,st:=P.cellsOf e,rw:=true } rfl rfl
     ⟨_,_,_,alloc_at w.drew _,rfl,fun _=>⟨rfl,.inr (Nat.le_refl _),rfl,rfl⟩,fun k v hk=>by
      have hk' : ((⟨bytesV s⟩ : Array Value).toList)[k]?=some v:=by rw[Array.getElem?_toList];exact hk
      simp only[bytesV,List.getElem?_map,Option.map_eq_some_iff] at hk'
      obtain⟨b,hb,rfl⟩:=hk'
      have hlt : k<s.data.size:=by
       have:=(List.getElem?_eq_some_iff.1 hb).1
       simpa using this
      refine⟨byteV b,?_,.int _ _⟩
      rw[Nat.zero_add]
      simp only[Lib.bytesCells]
      rw[Array.getElem?_append_left (by simpa using hlt),Array.getElem?_map,← Array.getElem?_toList,hb]
      rfl⟩
    refine⟨_,_,θ.put H.next { blk:=w.heap.size,base:=0,sz:=(Lib.bytesCells w e s).size,st:=P.cellsOf e,rw:=true },Lib.run_convert_string_bytes w src dst e s hs hd h1,?_,?_,?_⟩
    ·rw[bytesWorld_eq];exact Stp.of_drew q2
    ·rw[bytesWorld_eq];exact q1
    ·rw[← hlen]
     refine VR.slice (p:={ blk:=w.heap.size,base:=0,sz:=(Lib.bytesCells w e s).size,st:=P.cellsOf e,rw:=true }) (o:=0) (Th.put_same _ _ _) (Nat.le_refl _) hcap (fun _=>.inr ?_)
     simp only[hc,hsz];omega
   ·cases h
  ·cases h
 | snil n c=>
  simp only[xconvS] at h
  split at h
  ·rename_i e hs hd
   split at h
   ·rename_i hu
    obtain⟨h1,_⟩:=isU8_ok hu
    cases h
    refine⟨_,w,θ,?_,Stp.refl _ _,hr,.string _⟩
    rw[run_convert_bytes_string w src dst e _ n c hs h1 hd]
    simp[Conv.bytesToString];rfl
   ·cases h
  ·cases h
 | slice hp hn hc hsl=>
  rename_i i o n c c' p
  simp only[xconvS] at h
  split at h
  ·rename_i e hs hd
   split at h
   ·rename_i hu
    obtain⟨h1,_⟩:=isU8_ok hu
    split at h
    ·rename_i cd el rw' hcd
     obtain⟨_,q,hq,cs',elc,fz,hw,_,_,hcells⟩:=hr.cells hcd
     rw[hp] at hq;cases hq
     split at h
     ·rename_i hz
      subst hz
      cases h
      refine⟨_,w,θ,?_,Stp.refl _ _,hr,.string _⟩
      rw[run_convert_bytes_string w src dst e _ 0 c' hs h1 hd,run_bytesToString w _ 0 c' [] (by simp[loadCells,loadCellsFrom])]
      rfl
     ·rename_i hz
      split at h
      ·rename_i hb
       split at h
       ·rename_i l hl
        cases h
        obtain⟨ns,k1,k2⟩:=ofBytes_ok hl
        obtain⟨hlast,har⟩:=window hcells hb hz
        have hsame : cs'.extract (p.base+o) (p.base+o+n)=(ns.map (Value.int .u8)).toArray:=by
         apply Array.ext_getElem?
         intro k
         have hk1 : (cd.extract o (o+n))[k]?=(ns.map (Value.int .u8))[k]?:=by rw[← k1,Array.getElem?_toList]
         have hk2 : (ns.map (Value.int .u8)).toArray[k]?=(ns.map (Value.int .u8))[k]?:=by simp
         rw[hk2,← hk1]
         cases hv : (cd.extract o (o+n))[k]? with
         | none=>
          rw[Array.getElem?_eq_none_iff] at hv ⊢
          rw[← har.1];exact hv
         | some v=>
          obtain⟨v',hv',hvr⟩:=har.get hv
          rw[hv']
          rw[hk1,List.getElem?_map] at hv
          obtain⟨m,_,rfl⟩:=Option.map_eq_some_iff.1 hv
          cases hvr;rfl
        refine⟨_,w,θ,?_,Stp.refl _ _,hr,.string _⟩
        rw[run_convert_bytes_string w src dst e _ n c' hs h1 hd,run_bytesToString w _ n c' ns (by rw[run_loadCells hw _ _ hlast,hsame]),fold_push]
        rw[k2];rfl
       ·cases h
      ·cases h
    ·cases h
   ·cases h
  ·cases h
 | sempty i o s a c=>
  simp only[xconvS] at h
  split at h
  ·split at h<;>cases h
  ·cases h
 | _=>simp[xconvS] at h
def xopvS (P : Program) [Gl P] [Orc P] (ex : Ex) (ρ : Operand→Value) (op : Op) (H : Heap) : Option (Value×Heap):=
 match xopv P ex ρ op H with
 | some r=>some r
 | none=>match op with
  | .convert src dst x=>xconvS P H src dst (ρ x)
  | _=>none
theorem xopvS_ok {P : Program} [Gl P] [Orc P] {ex : Ex} (hex : ExOk P ex) {o : Oper} {ρ : Operand→Value} {b : Act} {H H' : Heap} {v : Value} {θ : Th} {w : World} (hr : Rel P θ H w) (hat : At P θ w) (hρ : ∀ x,VR θ (ρ x) (b.eval x))
  (h : xopvS P ex ρ o.op H=some (v,H')) (r : Option Nat) (n : Nat) {next : Act→World→Prop} {Q : Exit→Act→World→Prop}
  (k : Next' P θ w v H' fun v' w'=>next (b.put o.dst v') w') : o.wpIn (FW r) n P b w next Q:=by
 unfold xopvS at h
 split at h
 ·rename_i r0 h0
  cases h
  exact xopv_ok hex hr hat hρ h0 r n k
 ·split at h
  ·rename_i src dst x hop
   have hdefer : ∀ c,o.op≠.defer c:=by
    intro c hc
    rw[hc] at hop;cases hop
   refine⟨fun _ _=>trivial,?_⟩
   rw[Oper.semAt_eq _ _ _ hdefer]
   obtain⟨v',w',θ',h1,h2,h3,h4⟩:=xconvS_ok hr h (hρ x)
   have hrun : (execOp b.eval o).run P w=.ok (.value v') w':=by
    obtain⟨dst',op,type,pos,after,guard⟩:=o
    simp only at hop
    subst hop
    simp only[execOp,Sem.run_bind,h1,Result.andThen_ok,Sem.run_pure]
   rw[hrun]
   exact k v' w' θ' h2 h3 h4
  ·cases h
def xwanted (ops : Array Oper) (tmps : Array Value) (o : Oper) : Option Bool:=
 match o.guard with
 | none=>some true
 | some (j,want)=>match ((ops[j]?).bind (·.dst)).bind (tmps[·]?) with
  | some (.bool b)=>some (b == want)
  | some (.chan none)=>none
  | _=>some false
theorem xwanted_ok {θ : Th} {ops : Array Oper} {tmps tmps' : Array Value} (ht : AR θ tmps tmps') {o : Oper} {c : Bool} (h : xwanted ops tmps o=some c) : Region.wanted o (yielded ops tmps')=c:=by
 unfold xwanted at h
 unfold Region.wanted
 split at h
 ·rename_i hg;cases h;rw[hg]
 ·rename_i j want hg
  rw[hg]
  simp only
  unfold yielded
  cases hd : (ops[j]?).bind (·.dst) with
  | none=>
   rw[hd] at h
   simp at h;subst h;simp
  | some d=>
   rw[hd] at h
   simp only[Option.bind_some] at h ⊢
   cases hv : tmps[d]? with
   | none=>
    rw[hv] at h
    have : tmps'[d]?=none:=by rw[Array.getElem?_eq_none_iff] at hv ⊢;rw[← ht.1];exact hv
    rw[this]
    simp at h;subst h;simp
   | some v=>
    rw[hv] at h
    obtain⟨v',hv',hr⟩:=ht.get hv
    rw[hv']
    cases hr<;>simp at h<;>subst h<;>simp
def xrun (P : Program) [Gl P] [Orc P] (ex : Ex) (ops : Array Oper) : List Oper→Array Value→Heap→Option (Array Value×Heap)
 | [],t,H=>some (t,H)
 | o::rest,t,H=>match xwanted ops t o with
  | some true=>match xopvS P ex (ev P t) o.op H with
   | some (v,H')=>xrun P ex ops rest (put t o.dst v) H'
   | none=>none
  | some false=>xrun P ex ops rest (put t o.dst undef) H
  | none=>none
theorem xrun_ok {P : Program} [Gl P] [Orc P] {ex : Ex} (hex : ExOk P ex) {ops : Array Oper} {Q : Exit→Act→World→Prop} (r : Option Nat) (n : Nat) :
  ∀ (l : List Oper) (i : Nat) (t t' : Array Value) (H H' : Heap) (θ : Th) (w : World) (b : Act),(∀ j,l[j]?=ops[i+j]?)→xrun P ex ops l t H=some (t',H')→Rel P θ H w→At P θ w→AR θ t b.tmps →
  (∀ (θ' : Th) (w' : World) (b' : Act),Stp θ w θ' w'→Rel P θ' H' w'→AR θ' t' b'.tmps→b'.defers=b.defers→Q .normal b' w') →
  wpOpsIn (FW r) n P ops Q (List.range' i l.length) b w:=by
 intro l
 induction l with
 | nil=>
  intro i t t' H H' θ w b _ h hr hat ht k
  simp only[xrun] at h;cases h
  exact k θ w b (Stp.refl _ _) hr ht rfl
 | cons o l ih=>
  intro i t t' H H' θ w b hl h hr hat ht k
  have ho : ops[i]?=some o:=by have:=hl 0;simpa using this.symm
  have hl' : ∀ j,l[j]?=ops[i+1+j]?:=fun j=>by have:=hl (j+1);simp only[List.getElem?_cons_succ] at this;rw[this];congr 1;omega
  simp only[List.length_cons,List.range'_succ,wpOpsIn,ho]
  simp only[xrun] at h
  split at h
  ·rename_i hw
   rw[xwanted_ok ht hw]
   simp only[if_true]
   split at h
   ·rename_i v H1 hv
    refine xopvS_ok hex hr hat (ev_rel hat ht) hv r n ?_
    intro v' w' θ' hs hr' hvr
    refine ih (i+1) _ _ _ _ θ' w' _ hl' h hr' (hat.stp hs) (put_rel (ht.ext hs.ext) hvr o.dst) ?_
    intro θ2 w2 b2 hs2 hr2 ht2 hd2
    exact k θ2 w2 b2 (hs.trans hs2) hr2 ht2 (hd2.trans (put_defers _ _ _))
   ·cases h
  ·rename_i hw
   rw[xwanted_ok ht hw]
   simp only[Bool.false_eq_true,if_false]
   refine⟨fun _ _=>trivial,?_⟩
   refine ih (i+1) _ _ _ _ θ w _ hl' h hr hat (put_rel ht VR.undef o.dst) ?_
   intro θ2 w2 b2 hs2 hr2 ht2 hd2
   exact k θ2 w2 b2 hs2 hr2 ht2 (hd2.trans (put_defers _ _ _))
  ·cases h
end Go.Xe
