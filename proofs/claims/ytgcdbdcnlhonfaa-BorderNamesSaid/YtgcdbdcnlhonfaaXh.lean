/- An executable reading of the model's code over an abstract heap (part 8): calls, rounds of a range over a function, and a region in the order of its text. Conditions: what is executed at a lower depth agrees with the model (ExOk). -/
import Derived.Test.YtgcdbdcnlhonfaaXg
import Derived.RangeFuncWrites
namespace Go.Xe
open Go
structure AS where
 tmps : Array Value
 marks : List Nat
 heap : Heap
inductive XE where
 | normal
 | exit (id : Nat)
 | ret
def XE.to : XE→Exit
 | .normal=>.normal
 | .exit id=>.exit id
 | .ret=>.ret
abbrev Ex:=Option Nat→Code→AS→Option (XE×AS)
def FW (r : Option Nat) : Fence:={ Fence.wide with round:=r }
theorem FW_depth (r : Option Nat) (n : Nat) : (FW r).depth.isSome=true→1≤n:=fun h=>by cases h
theorem FW_none : FW none=Fence.wide:=rfl
theorem FW_in' (r : Option Nat) (l : Nat) : (FW r).inRound l=FW (some l):=rfl
def Quiet (v : Value) (w : World) : Ending→World→Prop:=fun e w'=>e=.returned v∧w.heap.size≤w'.heap.size∧(∀ b,b<w.heap.size→w'.heap[b]?=w.heap[b]?)∧w'.os=w.os∧w'.tape=w.tape∧w'.output=w.output
class Gl (P : Program) where
 G : Nat→Bool
@[reducible] def Gl.none (P : Program) : Gl P:=⟨fun _=>false⟩
class Orc (P : Program) where
 base : Nat
 I : World→Prop
 keep : ∀ w w' : World,(∀ b,b<base→w'.heap[b]?=w.heap[b]?)→I w→I w'
 O : Nat→Option Bool
 ok : ∀ g b, O g = some b → (∀ (w : World) (r : Option Nat) (n : Nat), base ≤ w.heap.size → I w → CallsIn (FW r) n P g #[] w (Quiet (.bool b) w)) ∧ ∃ fn, P.funcs[g]? = some fn ∧ fn.body.isSome = true ∧ (fn.name == "runtime.NumGoroutine") = false
@[reducible] def Orc.none (P : Program) : Orc P:=⟨0,fun _=>True,fun _ _ _ _=>trivial,fun _=>.none,fun _ _ h=>by cases h⟩
structure At (P : Program) [Gl P] [Orc P] (θ : Th) (w : World) : Prop where
 big : Orc.base P≤w.heap.size
 inv : Orc.I P w
 own : ∀ i p,θ i=some p→p.rw=true→Orc.base P≤p.blk
 glb : ∀ g,Gl.G P g=true→∃ p,θ g=some p∧p.blk=g∧p.base=0
theorem At.stp {P : Program} [Gl P] [Orc P] {θ θ' : Th} {w w' : World} (h : At P θ w) (s : Stp θ w θ' w') : At P θ' w':=by
 refine⟨Nat.le_trans h.big s.size,Orc.keep _ _ (fun b hb=>s.frame b (Nat.lt_of_lt_of_le hb h.big) ?_) h.inv,?_,?_⟩
 ·intro i p hp hrw e
  have:=h.own i p hp hrw
  omega
 ·intro i p hp hrw
  rcases s.new i p hp with h1|⟨_,h1|⟨j,q,hj,hq,hb⟩⟩
  ·exact h.own i p h1 hrw
  ·exact Nat.le_trans h.big h1
  ·rw[← hb];exact h.own j q hj hq
 ·intro g hg
  obtain⟨p,h1,h2⟩:=h.glb g hg
  exact⟨p,s.ext _ _ h1,h2⟩
def ev (P : Program) [Gl P] (tmps : Array Value) : Operand→Value
 | .tmp t=>tmps.getD t undef
 | .const v=>if plainV v then v else top
 | .global g=>if Gl.G P g then .pointer (some ⟨g,0,none⟩) else top
 | .func f=>.func (.func f) #[] #[]
theorem ev_rel {P : Program} [Gl P] [Orc P] {θ : Th} {w : World} (hat : At P θ w) {a : Array Value} {b : Act} (h : AR θ a b.tmps) (x : Operand) : VR θ (ev P a x) (b.eval x):=by
 cases x with
 | tmp t=>exact h.getD t
 | const v=>
  show VR θ (if plainV v then v else top) v
  split
  ·rename_i hv;exact VR.plain hv
  ·exact .top v
 | global g=>
  show VR θ (if Gl.G P g then .pointer (some ⟨g,0,none⟩) else top) (.pointer (some ⟨g,0,none⟩))
  split
  ·rename_i hg
   obtain⟨p,h1,h2,h3⟩:=hat.glb g hg
   have:=VR.ptr (o:=0) h1
   rw[h2,h3] at this
   exact this
  ·exact .top _
 | func f=>exact .func (.same _ (fun l=>by simp)) rfl (AR.nil (θ:=θ)).2 rfl (AR.nil (θ:=θ)).2
inductive MarksR (θ : Th) : List Nat→List Deferred→Prop
 | nil : MarksR θ [] []
 | cons {m : Nat} {p : Pl} {ms : List Nat} {ds : List Deferred} (h : θ m=some p) (t : MarksR θ ms ds) : MarksR θ (m::ms) ({ target:=.collected p.blk,args:=#[] }::ds)
theorem MarksR.ext {θ θ' : Th} (e : Ext θ θ') {ms : List Nat} {ds : List Deferred} (h : MarksR θ ms ds) : MarksR θ' ms ds:=by
 induction h with
 | nil=>exact .nil
 | cons h _ ih=>exact .cons (e _ _ h) ih
inductive RndR (θ : Th) : Option Nat→Option Nat→Prop
 | none : RndR θ none none
 | some {l : Nat} {p : Pl} (h : θ l=some p) : RndR θ (some l) (some p.blk)
theorem RndR.ext {θ θ' : Th} (e : Ext θ θ') {a b : Option Nat} (h : RndR θ a b) : RndR θ' a b:=by
 cases h with
 | none=>exact .none
 | some h=>exact .some (e _ _ h)
def ASR (P : Program) (θ : Th) (a : AS) (b : Act) (w : World) : Prop:=Rel P θ a.heap w∧AR θ a.tmps b.tmps∧MarksR θ a.marks b.defers
def Post (P : Program) (θ : Th) (w : World) (e : XE) (a : AS) : Exit→Act→World→Prop:=fun e' b' w'=>e'=e.to∧∃ θ',Stp θ w θ' w'∧ASR P θ' a b' w'
def ExOk (P : Program) [Gl P] [Orc P] (ex : Ex) : Prop:=∀ rnd c a e a',ex rnd c a=some (e,a')→∀ (θ : Th) (w : World) (b : Act) (r : Option Nat) (n : Nat),ASR P θ a b w→At P θ w→RndR θ rnd r →
 c.wpIn (FW r) n P (Post P θ w e a') b w
def xresult (P : Program) (H : Heap) (tmps : Array Value) : ResultVar→Option Value
 | .tmp t=>some (tmps.getD t undef)
 | .cell a t=>xload P H t (tmps.getD a undef)
def xresults (P : Program) (H : Heap) (fn : Func) (tmps : Array Value) : Option Value:=
 match fn.results.toList with
 | [r]=>xresult P H tmps r
 | rs=>match rs.mapM (xresult P H tmps) with
  | some vs=>some (.tuple vs.toArray)
  | none=>none
def runResult (tmps : Array Value) : ResultVar→Sem Value
 | .tmp t=>pure (tmps.getD t undef)
 | .cell a t=>do loadVar t (← asAddr (tmps.getD a undef))
theorem xresult_ok {P : Program} {θ : Th} {H : Heap} {w : World} (hr : Rel P θ H w) {tmps tmps' : Array Value} (ht : AR θ tmps tmps') {rv : ResultVar} {v : Value} (h : xresult P H tmps rv=some v) :
  ∃ v',(runResult tmps' rv).run P w=.ok v' w∧VR θ v v':=by
 cases rv with
 | tmp t=>simp only[xresult] at h;cases h;exact⟨_,rfl,ht.getD t⟩
 | cell a t=>
  simp only[xresult] at h
  obtain⟨v',h1,h2⟩:=xload_ok hr h (ht.getD a)
  refine⟨v',?_,h2⟩
  have hv:=ht.getD a
  generalize tmps.getD a undef=x at *
  generalize hx' : tmps'.getD a undef=x' at *
  cases hv<;>try (simp[xload] at h;done)
  simpa [runResult,hx',asAddr,Instr.loadAt,Instr.sureAddr] using h1
theorem xresultsM_ok {P : Program} {θ : Th} {H : Heap} {w : World} (hr : Rel P θ H w) {tmps tmps' : Array Value} (ht : AR θ tmps tmps') : ∀ {rs : List ResultVar} {vs : List Value},rs.mapM (xresult P H tmps)=some vs →
  ∃ vs',(rs.mapM (runResult tmps')).run P w=.ok vs' w∧vs.length=vs'.length∧∀ (i : Nat) (v v' : Value),vs[i]?=some v→vs'[i]?=some v'→VR θ v v'
 | [],vs,h=>by
  simp at h;subst h
  exact⟨[],by simp,rfl,fun i v v' hv=>by simp at hv⟩
 | r::rs,vs,h=>by
  simp only[List.mapM_cons,Option.bind_eq_bind,Option.bind_eq_some_iff,Option.pure_def,Option.some.injEq] at h
  obtain⟨v,hv,vs0,hvs,rfl⟩:=h
  obtain⟨v',h1,h2⟩:=xresult_ok hr ht hv
  obtain⟨vs',h3,h4,h5⟩:=xresultsM_ok hr ht hvs
  refine⟨v'::vs',by simp[List.mapM_cons,h1,h3],by simp[h4],fun i a b ha hb=>?_⟩
  cases i with
  | zero=>simp at ha hb;subst ha;subst hb;exact h2
  | succ i=>exact h5 i a b (by simpa using ha) (by simpa using hb)
theorem results_eq (fn : Func) (tmps : Array Value) : results fn tmps=(do
  let vs ← fn.results.mapM (runResult tmps)
  pure (if h : vs.size=1 then vs[0] else .tuple vs)):=by
 unfold results
 congr 1
theorem xresults_ok {P : Program} {θ : Th} {H : Heap} {w : World} (hr : Rel P θ H w) {tmps tmps' : Array Value} (ht : AR θ tmps tmps') {fn : Func} {v : Value} (h : xresults P H fn tmps=some v) :
  ∃ v',(results fn tmps').run P w=.ok v' w∧VR θ v v':=by
 rw[results_eq]
 unfold xresults at h
 split at h
 ·rename_i r hrs
  obtain⟨v',h1,h2⟩:=xresult_ok hr ht h
  refine⟨v',?_,h2⟩
  simp[Array.mapM_eq_mapM_toList,hrs,List.mapM_cons,h1]
 ·rename_i rs hne
  split at h
  ·rename_i vs hvs
   cases h
   obtain⟨vs',h1,h2,h3⟩:=xresultsM_ok hr ht hvs
   have hlen : vs.length=fn.results.toList.length:=by
    clear h1 h2 h3 hne
    generalize fn.results.toList=l at hvs
    clear hr ht
    induction l generalizing vs with
    | nil=>simp at hvs;subst hvs;rfl
    | cons x l ih=>
     simp only[List.mapM_cons,Option.bind_eq_bind,Option.bind_eq_some_iff,Option.pure_def,Option.some.injEq] at hvs
     obtain⟨_,_,vs0,hv0,rfl⟩:=hvs
     simp[ih vs0 hv0]
   have hne1 : vs'.length≠1:=by
    intro h1
    rw[← h2,hlen] at h1
    obtain⟨x,hx⟩:=List.length_eq_one_iff.1 h1
    exact hne x hx
   refine⟨.tuple vs'.toArray,?_,.tuple (by simpa using h2) (fun i a b ha hb=>h3 i a b (by simpa using ha) (by simpa using hb))⟩
   simp[Array.mapM_eq_mapM_toList,h1,hne1]
  ·cases h
def xunmark : List Nat→Heap→Option Heap
 | [],H=>some H
 | m::ms,H=>match H.get m with
  | some (.deferred true)=>xunmark ms (H.set m .dead)
  | _=>none
theorem xunmark_ok {P : Program} {F : Fence} {n : Nat} {fn : Func} {tmps : Array Value} {R : Ending→World→Prop} : ∀ {ms : List Nat} {ds : List Deferred} {H H' : Heap} {θ : Th} {w : World},
  Rel P θ H w→MarksR θ ms ds→xunmark ms H=some H' →
  (∀ w',Rel P θ H' w'→Stp θ w θ w'→LeavesInM F n P fn tmps R [] .returning w')→LeavesInM F n P fn tmps R ds .returning w
 | [],ds,H,H',θ,w,hr,hm,h,k=>by
  cases hm
  simp only[xunmark] at h;cases h
  exact k w hr (Stp.refl _ _)
 | m::ms,ds,H,H',θ,w,hr,hm,h,k=>by
  cases hm with
  | cons hp ht=>
   rename_i p ds
   simp only[xunmark] at h
   split at h
   ·rename_i hg
    obtain⟨q,hq,hb,hrw⟩:=hr.obj m _ hg rfl
    rw[hp] at hq;cases hq
    have hblk : w.heap[p.blk]?=some (.deferred (some [])):=hb
    have hlt : p.blk<w.heap.size:=(Array.getElem?_eq_some_iff.1 hblk).1
    obtain⟨q1,q2⟩:=hr.write hg rfl hp hrw (w':=w.putObj p.blk (.deferred none)) (by simp) (fun b hb'=>World.putObj_heap_other hb') rfl rfl rfl (o':=.dead) trivial
    refine⟨by simp,.inl ⟨p.blk,_,rfl,run_takeDeferred hblk,?_⟩⟩
    exact xunmark_ok q1 ht h (fun w' hw' hs=>k w' hw' (q2.trans hs))
   ·cases h
theorem Quiet.stp {P : Program} {θ : Th} {H : Heap} {w w' : World} {v : Value} {e : Ending} (h : Quiet v w e w') (hr : Rel P θ H w) : e=.returned v∧Stp θ w θ w'∧Rel P θ H w':=by
 obtain⟨h1,h2,h3,h4,h5,h6⟩:=h
 refine⟨h1,⟨Ext.refl θ,fun _ _ h=>.inl h,h2,fun b hb _=>h3 b hb,h4,h5,h6⟩,⟨?_,?_,hr.own.imp fun _ k=>k.same fun i q hq=>h3 _ (hr.dom i q hq).2⟩⟩
 ·intro i o hi ho
  obtain⟨p,hp,hor⟩:=hr.obj i o hi ho
  exact⟨p,hp,hor.ext (Ext.refl _) (h3 _ (hr.dom i p hp).2)⟩
 ·intro i p hp
  have:=hr.dom i p hp
  exact⟨this.1,Nat.lt_of_lt_of_le this.2 h2⟩
def xcall (P : Program) [Gl P] [Orc P] (ex : Ex) (f : FuncId) (args : Array Value) (H : Heap) : Option (Value×Heap):=
 match Orc.O P f with
 | some b=>if args.toList=[] then some (.bool b,H) else none
 | none=>
      match P.funcs[f]? with
  | some fn=>match fn.body with
   | some c=>
    if (fn.name == "runtime.NumGoroutine") = false then
     match ex none c { tmps:=args++Array.replicate (fn.ntmps-args.size) undef,marks:=[],heap:=H } with
     | some (.exit _,_)=>none
     | some (_,a)=>match xunmark a.marks a.heap with
      | some H1=>match xresults P H1 fn a.tmps with
       | some v=>some (v,H1)
       | none=>none
      | none=>none
     | none=>none
    else none
   | none=>none
  | none=>none
def Returns (P : Program) (θ : Th) (w : World) (v : Value) (H' : Heap) : Ending→World→Prop:=fun e w'=>∃ v' θ',e=.returned v'∧Stp θ w θ' w'∧Rel P θ' H' w'∧VR θ' v v'
theorem xcall_ok {P : Program} [Gl P] [Orc P] {ex : Ex} (hex : ExOk P ex) {f : FuncId} {args args' : Array Value} {H H' : Heap} {v : Value} (h : xcall P ex f args H=some (v,H')) {θ : Th} {w : World} (hr : Rel P θ H w) (hat : At P θ w)
  (ha : AR θ args args') (r : Option Nat) (n : Nat) : CallsIn (FW r) n P f args' w (Returns P θ w v H') ∧ ∃ fn, P.funcs[f]? = some fn ∧ fn.body.isSome = true ∧ (fn.name == "runtime.NumGoroutine") = false := by
 unfold xcall at h
 split at h
 ·rename_i b hob
  split at h
  ·rename_i hargs
   cases h
   obtain⟨k1,k2⟩:=Orc.ok f b hob
   have e1 : args=#[]:=Array.toList_inj.1 hargs
   subst e1
   have e2 : args'=#[]:=Array.eq_empty_of_size_eq_zero ha.1.symm
   subst e2
   refine⟨(k1 w r n hat.big hat.inv).mono ?_,k2⟩
   rintro e w' hq
   obtain⟨q1,q2,q3⟩:=hq.stp hr
   exact⟨_,θ,q1,q2,q3,.bool b⟩
  ·cases h
 split at h
 ·rename_i fn hf
  split at h
  ·rename_i c hb
   split at h
   ·rename_i hname
    refine⟨?_,fn,hf,by rw[hb];rfl,hname⟩
    suffices hs : CallsIn (FW none) n P f args' w (Returns P θ w v H') by
     cases r with
     | none=>exact hs
     | some l=>exact CallsIn.inRound l hs
    have hbody : ∀ (e : XE) (a : AS) (H1 : Heap),ex none c { tmps:=args++Array.replicate (fn.ntmps-args.size) undef,marks:=[],heap:=H }=some (e,a)→(∀ id,e≠.exit id) →
      xunmark a.marks a.heap=some H1→xresults P H1 fn a.tmps=some v→H1=H'→CallsIn (FW none) n P f args' w (Returns P θ w v H'):=by
     rintro e a H1 he hne hum hres rfl
     refine callsIn_of_wp_marks hf hb trivial ?_ rfl
     have hasr : ASR P θ { tmps:=args++Array.replicate (fn.ntmps-args.size) undef,marks:=[],heap:=H } { tmps:=args'++Array.replicate (fn.ntmps-args'.size) undef,defers:=[] } w:=
      ⟨hr,by rw[← ha.1];exact ha.append (AR.replicate _ VR.undef),.nil⟩
     refine wpIn_mono (hex _ _ _ _ _ he θ w _ none n hasr hat .none) ?_
     rintro e' b' w' ⟨rfl,θ',hs,hr',ht',hm'⟩
     have hl : LeavesInM (FW none) n P fn b'.tmps (Returns P θ w v H1) b'.defers .returning w':=by
      refine xunmark_ok hr' hm' hum (fun w2 hr2 hs2=>?_)
      obtain⟨v',hv1,hv2⟩:=xresults_ok hr2 ht' hres
      exact⟨v',hv1,v',θ',rfl,hs.trans hs2,hr2,hv2⟩
     cases e with
     | normal=>exact hl
     | ret=>exact hl
     | exit id=>exact absurd rfl (hne id)
    split at h
    ·cases h
    ·rename_i e a hne he
     split at h
     ·rename_i H1 hum
      split at h
      ·rename_i v0 hres
       cases h
       exact hbody e a _ he (fun id hid=>by subst hid;exact hne _ rfl) hum hres rfl
      ·cases h
     ·cases h
    ·cases h
   ·cases h
  ·cases h
 ·cases h
def setParams (tmps : Array Value) (ps : Array Tmp) (args : Array Value) : Array Value:=
 (ps.zip args).foldl (fun tmps (t,a)=>tmps.setIfInBounds t a) tmps
theorem setParams_rel {θ : Th} {tmps tmps' args args' : Array Value} (ps : Array Tmp) (ht : AR θ tmps tmps') (ha : AR θ args args') : AR θ (setParams tmps ps args) (setParams tmps' ps args'):=by
 unfold setParams
 rw[← Array.foldl_toList,← Array.foldl_toList,Array.toList_zip,Array.toList_zip]
 have hl : args.toList.length=args'.toList.length:=by simpa using ha.1
 have h2 : ∀ (i : Nat) (v v' : Value),args.toList[i]?=some v→args'.toList[i]?=some v'→VR θ v v':=fun i v v' a b=>ha.2 i v v' (by simpa using a) (by simpa using b)
 generalize args.toList=l at *
 generalize args'.toList=l' at *
 generalize ps.toList=q
 induction q generalizing l l' tmps tmps' with
 | nil=>simpa using ht
 | cons t q ih=>
  cases l with
  | nil=>cases l' with
   | nil=>simpa using ht
   | cons _ _=>simp at hl
  | cons x l=>cases l' with
   | nil=>simp at hl
   | cons y l'=>
    simp only[List.zip_cons_cons,List.foldl_cons]
    exact ih (ht.set (h2 0 x y rfl rfl) t) l l' (by simpa using hl) (fun i v v' a b=>h2 (i+1) v v' (by simpa using a) (by simpa using b))
def XE.jump : XE→Option Code
 | .normal=>none
 | .exit id=>some (.exit id)
 | .ret=>some .ret
def xround (ex : Ex) (l : Nat) (args : Array Value) (H : Heap) : Option (Value×Heap):=
 match H.get l with
 | some (.loop r)=>
  if args.size=r.params.size then
   match ex (some l) r.assign { tmps:=setParams r.tmps r.params args,marks:=[],heap:=H } with
   | some (.normal,a)=>match a.heap.get l with
    | some (.loop r1)=>
     if r1.state=.ready then
      match ex (some l) r.body { a with heap:=a.heap.set l (.loop { r1 with state:=.busy }) } with
      | some (e,a2)=>match a2.heap.get l with
       | some (.loop r2)=>some (.bool e.jump.isNone,a2.heap.set l (.loop { r2 with state:=if e.jump.isNone then .ready else .done,pending:=e.jump }))
       | _=>none
      | none=>none
     else none
    | _=>none
   | _=>none
  else none
 | _=>none
theorem Rel.loopAt {P : Program} {θ : Th} {H : Heap} {w : World} (h : Rel P θ H w) {l : Nat} {r : Loop} (hl : H.get l=some (.loop r)) : ∃ p,θ l=some p∧p.rw=true∧∃ r' : Loop,w.heap[p.blk]?=some (.loop r') ∧
  r'.state=r.state∧r'.pending=r.pending∧AR θ r.tmps r'.tmps∧r'.params=r.params∧r'.assign=r.assign∧r'.body=r.body∧∃ pd,θ r.defers=some pd∧r'.defers=pd.blk:=by
 obtain⟨p,hp,r',h1,h2,h3⟩:=h.obj l _ hl rfl
 exact⟨p,hp,h2,r',h1,h3⟩
theorem Rel.setLoop {P : Program} {θ : Th} {H : Heap} {w : World} (h : Rel P θ H w) {l : Nat} {r : Loop} (hl : H.get l=some (.loop r)) {p : Pl} {r' : Loop} (hp : θ l=some p) (hr' : w.heap[p.blk]?=some (.loop r')) (st : LoopState) (pd : Option Code) :
  Rel P θ (H.set l (.loop { r with state:=st,pending:=pd })) (w.putObj p.blk (.loop { r' with state:=st,pending:=pd }))∧Stp θ w θ (w.putObj p.blk (.loop { r' with state:=st,pending:=pd })):=by
 obtain⟨q,hq,hrw,r2,h1,h2,h3,h4,h5,h6,h7,h8⟩:=h.loopAt hl
 rw[hp] at hq;cases hq
 rw[hr'] at h1;cases h1
 have hlt : p.blk<w.heap.size:=(Array.getElem?_eq_some_iff.1 hr').1
 exact h.write hl rfl hp hrw (by simp) (fun b hb=>World.putObj_heap_other hb) rfl rfl rfl ⟨_,World.putObj_heap_same hlt,hrw,rfl,rfl,h4,h5,h6,h7,h8⟩
theorem xround_ok {P : Program} [Gl P] [Orc P] {ex : Ex} (hex : ExOk P ex) {l : Nat} {args args' : Array Value} {H H' : Heap} {v : Value} (h : xround ex l args H=some (v,H')) {θ : Th} {w : World} (hr : Rel P θ H w) (hat : At P θ w)
  (ha : AR θ args args') {p : Pl} (hp : θ l=some p) (r : Option Nat) (n : Nat) : ∃ fn tmps assign body,(Instr.yield p.blk args').run P w=.ok (.round p.blk fn tmps assign body) w∧RoundIn (FW r) n P p.blk fn tmps assign body w (Returns P θ w v H'):=by
 unfold xround at h
 split at h
 ·rename_i rec hl
  split at h
  ·rename_i hsz
   obtain⟨q,hq,hrw,rec',g1,g2,g3,g4,g5,g6,g7,g8⟩:=hr.loopAt hl
   rw[hp] at hq;cases hq
   refine⟨_,_,_,_,run_yield g1 (by rw[← ha.1,hsz,g5]),?_⟩
   split at h
   ·rename_i a hassign
    split at h
    ·rename_i r1 hl1
     split at h
     ·rename_i hready
      split at h
      ·rename_i e a2 hbody
       split at h
       ·rename_i r2 hl2
        cases h
        refine roundIn_of_wpIn trivial ?_
        rw[FW_in']
        have hasr : ASR P θ { tmps:=setParams rec.tmps rec.params args,marks:=[],heap:=H } { tmps:=setParams rec'.tmps rec'.params args',defers:=[] } w:=
         ⟨hr,by rw[g5];exact setParams_rel _ g4 ha,.nil⟩
        have w1:=hex _ _ _ _ _ hassign θ w _ (some p.blk) n hasr hat (.some hp)
        rw[← g6] at w1
        refine wpIn_mono w1 ?_
        rintro e1 b1 v1 ⟨rfl,θ1,hs1,hr1,ht1,hm1⟩
        obtain⟨q1,hq1,hrw1,rec1,k1,k2,k3,k4,k5,k6,k7,k8⟩:=hr1.loopAt hl1
        have hq1':=hs1.ext _ _ hp
        rw[hq1'] at hq1;cases hq1
        obtain⟨z1,z2⟩:=hr1.setLoop hl1 hq1' k1 .busy rec1.pending
        rw[show ({ r1 with state:=LoopState.busy,pending:=rec1.pending } : Loop)={ r1 with state:=.busy } by rw[k3]] at z1
        have hbr:=run_beginRound (P:=P) k1 (by rw[k2];exact hready)
        refine⟨_,hbr,?_⟩
        have hasr2 : ASR P θ1 { a with heap:=a.heap.set l (.loop { r1 with state:=.busy }) } b1 (v1.putObj p.blk (.loop { rec1 with state:=.busy,pending:=rec1.pending })):=⟨z1,ht1,hm1⟩
        have w2:=hex _ _ _ _ _ hbody θ1 _ _ (some p.blk) n hasr2 ((hat.stp hs1).stp z2) (.some hq1')
        rw[← g7] at w2
        refine wpIn_mono w2 ?_
        rintro e2 b2 v2 ⟨rfl,θ2,hs2,hr2,ht2,hm2⟩
        obtain⟨q2,hq2,hrw2,rec2,y1,y2,y3,y4,y5,y6,y7,y8⟩:=hr2.loopAt hl2
        have hq2':=hs2.ext _ _ hq1'
        rw[hq2'] at hq2;cases hq2
        obtain⟨x1,x2⟩:=hr2.setLoop hl2 hq2' y1 (if e.jump.isNone then .ready else .done) e.jump
        have hend:=run_endRound (P:=P) e.jump y1
        have hres : Returns P θ w (.bool e.jump.isNone) (a2.heap.set l (.loop { r2 with state:=if e.jump.isNone then .ready else .done,pending:=e.jump })) (.returned (.bool e.jump.isNone))
          (v2.putObj p.blk (.loop { rec2 with state:=if e.jump.isNone then .ready else .done,pending:=e.jump })):=
         ⟨_,θ2,rfl,hs1.trans (z2.trans (hs2.trans x2)),x1,.bool _⟩
        cases e with
        | normal=>exact⟨_,_,hend,hres⟩
        | exit id=>exact⟨_,_,hend,hres⟩
        | ret=>exact⟨_,_,hend,hres⟩
       ·cases h
      ·cases h
     ·cases h
    ·cases h
   ·cases h
  ·cases h
 ·cases h
end Go.Xe
