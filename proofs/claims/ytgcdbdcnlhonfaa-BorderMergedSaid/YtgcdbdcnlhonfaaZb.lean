/- An executable reading of the model's code over an abstract heap (part 32): what the machine for the kernel answers, the reading answers. Conditions: F is the program's functions (FnOk). -/
import Derived.Test.YtgcdbdcnlhonfaaYe
import Derived.Test.YtgcdbdcnlhonfaaXq
namespace Go.Xe
open Go
section
variable {P : Program} [Gl P] [Orc P] {F : Nat→FFunc} {x : FX} {ex : Ex}
theorem seqR_ok {P : Program} [Gl P] (hx : ExF P x ex) {r : RF} {e : XE} {a : AS} (ho : Out P r e a) {code : Code} {rnd : Option Nat} (h : Good (seqR r x (comp P code) rnd)) :
  (e=.normal∧∃ e' a',ex rnd code a=some (e',a')∧Out P (seqR r x (comp P code) rnd) e' a')∨(e≠.normal∧seqR r x (comp P code) rnd=r):=by
 cases r with
 | fail n=>exact not_good h
 | nx t m H=>
  cases e with
  | normal=>
   obtain⟨h1,h2,h3⟩:=ho
   have h' : Good (x (comp P code) rnd m t H):=h
   obtain⟨e',a',h4,h5⟩:=hx code rnd m t H a.tmps a.heap h1 h2 h'
   have ha : a={ tmps:=a.tmps,marks:=m,heap:=a.heap }:=by rw[← h3]
   exact .inl ⟨rfl,e',a',by rw[ha];exact h4,h5⟩
  | exit id=>exact ho.elim
  | ret=>exact ho.elim
 | ex id t m H=>
  cases e with
  | exit id'=>exact .inr ⟨(by intro h;cases h),rfl⟩
  | normal=>exact ho.elim
  | ret=>exact ho.elim
 | rt t m H=>
  cases e with
  | ret=>exact .inr ⟨(by intro h;cases h),rfl⟩
  | normal=>exact ho.elim
  | exit id=>exact ho.elim
theorem seqR_good {r : RF} {b : FCode} {rnd : Option Nat} (h : Good (seqR r x b rnd)) : Good r:=by
 intro n hn
 rw[hn] at h
 exact not_good (n:=n) h
theorem blockR_good {r : RF} {id : Nat} (h : Good (blockR r id)) : Good r:=by
 intro n hn
 rw[hn] at h
 exact not_good (n:=n) h
theorem notBusy_good {s : LoopState} {k : RF} (h : Good (notBusy s k)) : s≠.busy∧notBusy s k=k:=by
 cases s with
 | busy=>exact not_good h
 | _=>exact⟨(by intro h;cases h),rfl⟩
theorem rangeG_ok (hF : FnOk P F) (hx : ExF P x ex) {f : Operand} {ps : Array Tmp} {ca cb : Code} {t : TT} {tm : Array Value} {df : Nat} {ms : List Nat} {H : FH} {Hs : Heap} (ht : TR t tm) (hr : HR (comp P) H Hs)
  (h : Good (rangeG (compA P f) (ps.toList.map pth) ca cb (comp P ca) (comp P cb) F x t df ms H)) :
  ∃ g args v H2s r H',xrangeCall (ev P tm f) Hs.next=some (g,args)∧xcall P ex g args (Hs.alloc (.loop { state:=.ready,pending:=none,fn:=0,tmps:=tm,params:=ps,assign:=ca,body:=cb,defers:=df }))=some (v,H2s) ∧
   H2s.get Hs.next=some (.loop r)∧r.state≠.busy∧HR (comp P) H' (H2s.set Hs.next (.loop { r with state:=.exhausted })) ∧
   ∃ pj : Option FJ,r.pending=pj.map FJ.code∧rangeG (compA P f) (ps.toList.map pth) ca cb (comp P ca) (comp P cb) F x t df ms H=pendR pj t ms H':=by
 unfold rangeG at h ⊢
 rw[evA_comp ht] at h ⊢
 rcases asFunc_good h with⟨g,a,b,e1,e2⟩|⟨l,a,b,e1,e2⟩
 ·rw[e2] at h ⊢
  obtain⟨H2,e3,e4⟩:=allocF_good hr (x:=.loop .ready none t (ps.toList.map pth) ca cb (comp P ca) (comp P cb) df) (o:=.loop { state:=.ready,pending:=none,fn:=0,tmps:=tm,params:=ps,assign:=ca,body:=cb,defers:=df })
   ⟨_,rfl,rfl,rfl,ht,rfl,rfl,rfl,rfl,rfl,rfl⟩ h
  rw[e4,catL_eq] at h ⊢
  obtain⟨v,H3,Hs3,e5,e6,e7⟩:=callF_ok hF hx e3 h
  rw[e5] at h ⊢
  obtain⟨st,pj,t1,ps1,ca1,cb1,fa1,fb1,df1,b1,b2⟩:=onLoop_good h
  rw[b2] at h ⊢
  obtain⟨b3,b4⟩:=notBusy_good h
  rw[b4] at h ⊢
  have ho:=e7.obj Hs.next
  rw[b1] at ho
  obtain⟨r,k0,k1,k2,k3,k4,k5,k6,k7,k8,k9⟩:=ho
  obtain⟨H4,c1,c2⟩:=setF_good e7 (x:=.loop .exhausted pj t1 ps1 ca1 cb1 fa1 fb1 df1) (o:=.loop { r with state:=.exhausted }) ⟨_,rfl,rfl,k2,k3,k4,k5,k6,k7,k8,k9⟩ h
  refine⟨g,_,v,Hs3,r,H4,?_,e6,k0,by rw[k1];exact b3,c1,pj,k2,c2⟩
  simp only[xrangeCall,e1]
  congr 2
  apply Array.toList_inj.1
  simp
 ·rw[e2] at h;exact not_good h
theorem execF_ok (hF : FnOk P F) : ∀ N,ExF P (execF P F N) (exec P N):=by
 intro N
 induction N with
 | zero=>intro code rnd m t H tm Hs ht hr h;exact not_good (n:=83) h
 | succ N ih=>
  intro code rnd m t H tm Hs ht hr h
  have hv:=opv_ok hF ih
  have e0 : execF P F (N+1) (comp P code) rnd m t H=exC (comp P code) P F (execF P F N) rnd m t H:=rfl
  rw[e0] at h ⊢
  cases code with
  | skip=>exact⟨.normal,⟨tm,m,Hs⟩,by simp only[exec],ht,hr,rfl⟩
  | label l=>exact⟨.normal,⟨tm,m,Hs⟩,by simp only[exec],ht,hr,rfl⟩
  | exit id=>exact⟨.exit id,⟨tm,m,Hs⟩,by simp only[exec],rfl,ht,hr,rfl⟩
  | ret=>exact⟨.ret,⟨tm,m,Hs⟩,by simp only[exec],ht,hr,rfl⟩
  | goto l=>exact not_good (n:=82) h
  | refuse s=>exact not_good (n:=82) h
  | seq a b=>
   have h' : Good (seqR (execF P F N (comp P a) rnd m t H) (execF P F N) (comp P b) rnd):=h
   show ∃ e a',_∧Out P (seqR (execF P F N (comp P a) rnd m t H) (execF P F N) (comp P b) rnd) e a'
   obtain⟨e,a1,e1,e2⟩:=ih a rnd m t H tm Hs ht hr (seqR_good h')
   rcases seqR_ok ih e2 h' with⟨e3,e',a',e4,e5⟩|⟨e3,e4⟩
   ·subst e3;exact⟨e',a',by simp only[exec,e1,e4],e5⟩
   ·refine⟨e,a1,?_,by rw[e4];exact e2⟩
    simp only[exec,e1]
    cases e with
    | normal=>exact absurd rfl e3
    | _=>rfl
  | loop b=>
   have h' : Good (seqR (execF P F N (comp P b) rnd m t H) (execF P F N) (comp P (.loop b)) rnd):=h
   show ∃ e a',_∧Out P (seqR (execF P F N (comp P b) rnd m t H) (execF P F N) (comp P (.loop b)) rnd) e a'
   obtain⟨e,a1,e1,e2⟩:=ih b rnd m t H tm Hs ht hr (seqR_good h')
   rcases seqR_ok ih e2 h' with⟨e3,e',a',e4,e5⟩|⟨e3,e4⟩
   ·subst e3;exact⟨e',a',by simp only[exec,e1,e4],e5⟩
   ·refine⟨e,a1,?_,by rw[e4];exact e2⟩
    simp only[exec,e1]
    cases e with
    | normal=>exact absurd rfl e3
    | _=>rfl
  | cond q a b=>
   have h' : Good (asBool (evA t (compA P q)) (execF P F N (comp P a) rnd m t H) (execF P F N (comp P b) rnd m t H) (.fail 80)):=h
   show ∃ e a',_∧Out P (asBool (evA t (compA P q)) (execF P F N (comp P a) rnd m t H) (execF P F N (comp P b) rnd m t H) (.fail 80)) e a'
   rw[evA_comp ht] at h' ⊢
   rcases asBool_good h' with⟨e1,e2⟩|⟨e1,e2⟩|⟨_,_,e2⟩
   ·rw[e2] at h' ⊢
    obtain⟨e,a1,e3,e4⟩:=ih a rnd m t H tm Hs ht hr h'
    exact⟨e,a1,by simp only[exec,e1,if_true,e3],e4⟩
   ·rw[e2] at h' ⊢
    obtain⟨e,a1,e3,e4⟩:=ih b rnd m t H tm Hs ht hr h'
    exact⟨e,a1,by simp only[exec,e1,Bool.false_eq_true,if_false,e3],e4⟩
   ·rw[e2] at h';exact not_good h'
  | scope b=>
   obtain⟨e,a1,e3,e4⟩:=ih b rnd m t H tm Hs ht hr h
   exact⟨e,a1,by simp only[exec,e3],e4⟩
  | block id b=>
   have h' : Good (blockR (execF P F N (comp P b) rnd m t H) id):=h
   show ∃ e a',_∧Out P (blockR (execF P F N (comp P b) rnd m t H) id) e a'
   obtain⟨e,a1,e1,e2⟩:=ih b rnd m t H tm Hs ht hr (blockR_good h')
   cases hxr : execF P F N (comp P b) rnd m t H with
   | fail n=>rw[hxr] at h';exact not_good (n:=n) h'
   | nx t' m' H'=>
    rw[hxr] at e2
    cases e with
    | normal=>exact⟨.normal,a1,by simp only[exec,e1],e2⟩
    | exit id=>exact e2.elim
    | ret=>exact e2.elim
   | rt t' m' H'=>
    rw[hxr] at e2
    cases e with
    | ret=>exact⟨.ret,a1,by simp only[exec,e1],e2⟩
    | exit id=>exact e2.elim
    | normal=>exact e2.elim
   | ex id' t' m' H'=>
    rw[hxr] at e2
    cases e with
    | normal=>exact e2.elim
    | ret=>exact e2.elim
    | exit id2=>
     obtain⟨q0,q1,q2,q3⟩:=e2
     subst q0
     have eb : blockR (.ex id2 t' m' H') id=ifB (Nat.beq id2 id) (.nx t' m' H') (.ex id2 t' m' H'):=rfl
     rw[eb]
     cases hb : Nat.beq id2 id with
     | true=>
      have : id2=id:=Nat.eq_of_beq_eq_true hb
      exact⟨.normal,a1,by simp only[exec,e1,if_pos this],q1,q2,q3⟩
     | false=>
      have : id2≠id:=Nat.ne_of_beq_eq_false hb
      exact⟨.exit id2,a1,by simp only[exec,e1,if_neg this],rfl,q1,q2,q3⟩
  | region i ops draw=>
   cases draw with
   | true=>
    have ec : comp P (.region i ops true)=if planOk ops (mkPlan ops) then .draw ops.size ((mkPlan ops).sig.map (compAt P ops)) ((List.range ops.size).map (chkOf P ops (mkPlan ops))) else .bad:=by simp only[comp]
    rw[ec] at h ⊢
    cases hp : planOk ops (mkPlan ops) with
    | false=>rw[hp] at h;exact not_good (n:=82) h
    | true=>
     rw[hp,if_pos rfl] at h
     rw[if_pos rfl]
     obtain⟨T,Hs',t',H',e1,e2,e3,e4⟩:=exDraw_ok (rnd:=rnd) (m:=m) hv hp ht hr h
     have e4' : exC (.draw ops.size ((mkPlan ops).sig.map (compAt P ops)) ((List.range ops.size).map (chkOf P ops (mkPlan ops)))) P F (execF P F N) rnd m t H=.nx t' m H':=e4
     rw[e4']
     exact⟨.normal,⟨T,m,Hs'⟩,by simp only[exec,if_true,e1],e2,e3,rfl⟩
   | false=>
    have ec : comp P (.region i ops false)=.run (ops.toList.map (compFIS P ops)):=by simp only[comp]
    rw[ec] at h ⊢
    have h' : Good (runF P F (execF P F N) (ops.toList.map (compFIS P ops)) t H fun t' H'=>.nx t' m H'):=h
    obtain⟨tm',Hs',t',H',e1,e2,e3,e4⟩:=runF_ok (opvS_ok hv) ht hr h'
    have e4' : exC (.run (ops.toList.map (compFIS P ops))) P F (execF P F N) rnd m t H=.nx t' m H':=e4
    rw[e4']
    exact⟨.normal,⟨tm',m,Hs'⟩,by simp only[exec,Bool.false_eq_true,if_false,e1],e2,e3,rfl⟩
  | rangeFunc f ps ca cb=>
   have pend : ∀ (df : Nat) (ms : List Nat) (H1 : FH) (Hs1 : Heap),HR (comp P) H1 Hs1→xenter rnd m Hs=some (df,ms,Hs1)→Good (rangeG (compA P f) (ps.toList.map pth) ca cb (comp P ca) (comp P cb) F (execF P F N) t df ms H1) →
     ∃ e a,exec P (N+1) rnd (.rangeFunc f ps ca cb) { tmps:=tm,marks:=m,heap:=Hs }=some (e,a)∧Out P (rangeG (compA P f) (ps.toList.map pth) ca cb (comp P ca) (comp P cb) F (execF P F N) t df ms H1) e a:=by
    intro df ms H1 Hs1 hr1 hen hg
    obtain⟨g,args,v,H2s,r,H',f1,f2,f3,f4,f5,pj,f6,f7⟩:=rangeG_ok hF ih ht hr1 hg
    rw[f7]
    cases N with
    | zero=>
     exfalso
     have hne : args.toList≠[]:=by
      unfold xrangeCall at f1
      split at f1
      ·cases f1;simp
      ·cases f1
     unfold xcall at f2
     split at f2
     ·rw[if_neg hne] at f2;cases f2
     split at f2
     ·split at f2
      ·split at f2
       ·simp[exec] at f2
       ·cases f2
      ·cases f2
     ·cases f2
    | succ N=>
     cases pj with
     | none=>exact⟨.normal,⟨tm,ms,H2s.set Hs1.next (.loop { r with state:=.exhausted })⟩,by simp only[exec,hen,f1];simp only[f2,f3,if_neg f4,f6,Option.map_none],ht,f5,rfl⟩
     | some j=>
      cases j with
      | exit id=>exact⟨.exit id,⟨tm,ms,H2s.set Hs1.next (.loop { r with state:=.exhausted })⟩,by simp only[exec,hen,f1];simp only[f2,f3,if_neg f4,f6,Option.map_some,FJ.code];first|rfl|(simp only[exec,f6,Option.map_some,FJ.code]),rfl,ht,f5,rfl⟩
      | ret=>exact⟨.ret,⟨tm,ms,H2s.set Hs1.next (.loop { r with state:=.exhausted })⟩,by simp only[exec,hen,f1];simp only[f2,f3,if_neg f4,f6,Option.map_some,FJ.code];first|rfl|(simp only[exec,f6,Option.map_some,FJ.code]),ht,f5,rfl⟩
   cases rnd with
   | none=>
    have h' : Good (allocF H .deferred fun i H'=>rangeG (compA P f) (ps.toList.map pth) ca cb (comp P ca) (comp P cb) F (execF P F N) t i (i::m) H'):=h
    obtain⟨H1,e1,e2⟩:=allocF_good hr (x:=.deferred) (o:=.deferred true) rfl h'
    show ∃ e a,_∧Out P (allocF H .deferred fun i H'=>rangeG (compA P f) (ps.toList.map pth) ca cb (comp P ca) (comp P cb) F (execF P F N) t i (i::m) H') e a
    rw[e2] at h' ⊢
    exact pend _ _ _ _ e1 rfl h'
   | some l=>
    have h' : Good (onLoop (objF H l) fun _ _ _ _ _ _ _ _ df=>rangeG (compA P f) (ps.toList.map pth) ca cb (comp P ca) (comp P cb) F (execF P F N) t df m H):=h
    obtain⟨st,pj,t1,ps1,ca1,cb1,fa1,fb1,df1,b1,b2⟩:=onLoop_good h'
    show ∃ e a,_∧Out P (onLoop (objF H l) fun _ _ _ _ _ _ _ _ df=>rangeG (compA P f) (ps.toList.map pth) ca cb (comp P ca) (comp P cb) F (execF P F N) t df m H) e a
    rw[b2] at h' ⊢
    have ho:=hr.obj l
    rw[b1] at ho
    obtain⟨r,k0,k1,k2,k3,k4,k5,k6,k7,k8,k9⟩:=ho
    exact pend df1 m H Hs hr (by simp only[xenter,k0,k9]) h'
end
end Go.Xe
/- An executable reading of the model's code over an abstract heap (part 33): a table of functions, and closed calls: what the machine for the kernel answers for a function without parameters, started with no memory at all, the model's call returns in every world, and leaves the world as it was. Conditions: the table holds the program's own functions; the program follows the mixed orders. -/
namespace Go.Xe
open Go
def rfs : Code→List (Code×Code)
 | .seq a b=>rfs a++rfs b
 | .cond _ a b=>rfs a++rfs b
 | .block _ b=>rfs b
 | .scope b=>rfs b
 | .loop b=>rfs b
 | .rangeFunc _ _ a b=>(a,b)::(rfs a++rfs b)
 | _=>[]
def rfA (fn : Func) (k : Nat) : Code:=match fn.body with
 | some c=>match (rfs c)[k]? with
  | some x=>x.1
  | none=>.skip
 | none=>.skip
def rfB (fn : Func) (k : Nat) : Code:=match fn.body with
 | some c=>match (rfs c)[k]? with
  | some x=>x.2
  | none=>.skip
 | none=>.skip
def compF (P : Program) [Gl P] (fn : Func) (k : Nat) : FFunc:=match fn.body with
 | some c=>.mk (comp P c) (mkTT fn.ntmps) ((List.range' 0 k).map pth) (fn.results.toList.map (compR P))
 | none=>.bad
def okF (P : Program) (fn : Func) : Bool := !(fn.name == "runtime.NumGoroutine") && fn.results.toList.all (resOk P)
def EntryOk (P : Program) [Gl P] (o : Nat→Option Bool) (g : Nat) (f : FFunc) : Prop:=f=.bad∨(∃ b,f=.orc b∧o g=some b)∨(o g=none∧∃ fn k,P.funcs[g]?=some fn∧okF P fn=true∧compF P fn k=f)
inductive FT where
 | e
 | n (f : FFunc) (l r : FT)
noncomputable def look (t : FT) : Nat→FFunc:=FT.rec (motive:=fun _=>Nat→FFunc) (fun _=>.bad) (fun o _ _ ihl ihr n=>Nat.rec (motive:=fun _=>FFunc) o (fun m _=>Bool.rec (motive:=fun _=>FFunc) (ihr (Nat.div m 2)) (ihl (Nat.div m 2)) (Nat.beq (Nat.mod m 2) 0)) n) t
def FT.Ok (Q : Nat→FFunc→Prop) : FT→(Nat→Nat)→Prop
 | .e,_=>True
 | .n f l r,φ=>Q (φ 0) f∧FT.Ok Q l (fun k=>φ (2*k+1))∧FT.Ok Q r (fun k=>φ (2*k+2))
theorem look_ok {Q : Nat→FFunc→Prop} (hb : ∀ n,Q n .bad) : ∀ {t : FT} {φ : Nat→Nat},t.Ok Q φ→∀ n,Q (φ n) (look t n)
 | .e,_,_,n=>hb _
 | .n f l r,φ,h,0=>h.1
 | .n f l r,φ,h,m+1=>by
  have e : look (.n f l r) (m+1)=Bool.rec (motive:=fun _=>FFunc) (look r (Nat.div m 2)) (look l (Nat.div m 2)) (Nat.beq (Nat.mod m 2) 0):=rfl
  rw[e]
  have h1 : Nat.div m 2=m/2:=rfl
  rw[h1]
  rcases beq_mod m with⟨hb',hm⟩|⟨hb',hm⟩
  ·have h2 : Nat.beq (Nat.mod m 2) 0=true:=hb'
   rw[h2]
   have:=look_ok hb h.2.1 (m/2)
   rw[show m+1=2*(m/2)+1 by omega]
   exact this
  ·have h2 : Nat.beq (Nat.mod m 2) 0=false:=hb'
   rw[h2]
   have:=look_ok hb h.2.2 (m/2)
   rw[show m+1=2*(m/2)+2 by omega]
   exact this
theorem fnOk_of {P : Program} [Gl P] (O : Orc P) {t : FT} (h : t.Ok (EntryOk P O.O) (fun k=>k)) : @FnOk P _ O (look t):=by
 intro g
 rcases look_ok (Q:=EntryOk P O.O) (fun _=>.inl rfl) h g with h1|h1|⟨h0,fn,k,h1,h2,h3⟩
 ·exact .inl h1
 ·exact .inr (.inl h1)
 ·unfold compF at h3
  split at h3
  ·rename_i c hc
   unfold okF at h2
   simp only[Bool.and_eq_true,Bool.not_eq_true',List.all_eq_true] at h2
   exact .inr (.inr ⟨fn,c,k,h0,h1,hc,h2.1,h2.2,h3.symm⟩)
  ·exact .inl h3.symm
noncomputable def endT (v : Value) (_ : FH) : RF:=asBool v (.rt .e [] (.mk 0 .e)) (.fail 2000) (.fail 3000)
end Go.Xe
/- Rules of reasoning over the executable reading of the model's code (part Z2): operations over code whose types are resolved, in the direct style, over any heap. Conditions: none. -/
namespace Go.Xe
open Go
def gt : Pth→TT→Value
 | _,.e=>undef
 | .o,.n v _ _=>v
 | .l p,.n _ l _=>gt p l
 | .r p,.n _ _ r=>gt p r
def st (v : Value) : Pth→TT→TT
 | _,.e=>.e
 | .o,.n _ l r=>.n v l r
 | .l p,.n x l r=>.n x (st v p l) r
 | .r p,.n x l r=>.n x l (st v p r)
theorem gt_eq : ∀ (p : Pth) (t : TT),getP p t=gt p t
 | .o,.e=>rfl
 | .o,.n v l r=>rfl
 | .l p,.e=>rfl
 | .l p,.n v l r=>by rw[gt,← gt_eq p l];rfl
 | .r p,.e=>rfl
 | .r p,.n v l r=>by rw[gt,← gt_eq p r];rfl
theorem st_F {v : Value} : ∀ {f i : Nat} {t : TT},i≤f→∀ j,(st v (pthF f i) t).at j=if j=i∧(t.at i).isSome=true then some v else t.at j:=by
 intro f
 induction f with
 | zero=>
  intro i t hi j
  have : i=0:=by omega
  subst this
  cases t with
  | e=>simp[pthF,st,TT.at]
  | n x l r=>cases j<;>simp[pthF,st,TT.at]
 | succ f ih=>
  intro i t hi j
  cases i with
  | zero=>
   cases t with
   | e=>simp[pthF,st,TT.at]
   | n x l r=>cases j<;>simp[pthF,st,TT.at]
  | succ m=>
   rcases beq_mod m with⟨hb,hm⟩|⟨hb,hm⟩
   ·have e : pthF (f+1) (m+1)=.l (pthF f (m/2)):=by simp only[pthF,hb]
    rw[e]
    cases t with
    | e=>simp[st,TT.at]
    | n x l r=>
     cases j with
     | zero=>simp[st,TT.at]
     | succ j=>
      simp only[st,TT.at,hb]
      rcases beq_mod j with⟨hb',hj⟩|⟨hb',hj⟩
      ·simp only[hb',ih (i:=m/2) (t:=l) (by omega) (j/2)]
       by_cases hjm : j=m
       ·subst hjm;simp
       ·rw[if_neg (by omega),if_neg (by omega)]
      ·simp only[hb']
       rw[if_neg (by omega)]
   ·have e : pthF (f+1) (m+1)=.r (pthF f (m/2)):=by simp only[pthF,hb]
    rw[e]
    cases t with
    | e=>simp[st,TT.at]
    | n x l r=>
     cases j with
     | zero=>simp[st,TT.at]
     | succ j=>
      simp only[st,TT.at,hb]
      rcases beq_mod j with⟨hb',hj⟩|⟨hb',hj⟩
      ·simp only[hb']
       rw[if_neg (by omega)]
      ·simp only[hb',ih (i:=m/2) (t:=r) (by omega) (j/2)]
       by_cases hjm : j=m
       ·subst hjm;simp
       ·rw[if_neg (by omega),if_neg (by omega)]
theorem TR.st {t : TT} {a : Array Value} (h : TR t a) (v : Value) (i : Nat) : TR (st v (pth i) t) (a.setIfInBounds i v):=by
 intro j
 have:=st_F (v:=v) (t:=t) (Nat.le_refl i) j
 rw[pth,this,Array.getElem?_setIfInBounds,h i,h j]
 by_cases hj : j=i
 ·subst hj
  by_cases hl : j<a.size
  ·simp[hl]
  ·simp[hl]
 ·rw[if_neg (fun c=>hj c.1),if_neg (fun c=>hj c.symm)]
theorem TR.gt {t : TT} {a : Array Value} (h : TR t a) (i : Nat) : gt (pth i) t=a.getD i undef:=by rw[← gt_eq,h.get]
def dA (t : TT) : FA→Value
 | .tmp p=>gt p t
 | .con v=>v
theorem dA_comp {P : Program} [Gl P] {t : TT} {a : Array Value} (h : TR t a) (x : Operand) : dA t (compA P x)=ev P a x:=by
 cases x with
 | tmp i=>exact h.gt i
 | const v=>rfl
 | global g=>rfl
 | func f=>rfl
def ypick (c a b : Value) (H : Heap) : Option (Value×Heap):=match c with
 | .bool t=>some (if t then a else b,H)
 | _=>none
def yload1 (H : Heap) (x : Value) : Option Value:=match x with
 | .pointer (some ⟨i,o,none⟩)=>match H.cellsAt i with
  | some (c,_,_)=>c[o]?
  | none=>none
 | _=>none
def yloadN (n : Nat) (H : Heap) (x : Value) : Option Value:=match x with
 | .pointer (some ⟨i,o,none⟩)=>match H.cellsAt i with
  | some (c,_,_)=>if o+n≤c.size∧n≠0 then some (.agg (c.extract o (o+n))) else none
  | none=>none
 | _=>none
def ystore (n : Nat) (H : Heap) (x v : Value) : Option Heap:=match x with
 | .pointer (some ⟨i,o,none⟩)=>match H.cellsAt i with
  | some (c,el,true)=>
   if notTop v=true∧v.cells.size=n∧o+v.cells.size≤c.size∧v.cells.size≠0∧v.cells.toList.all (fun y=>y.oneCell' && notTop y)=true then
    some (H.set i (.cells (setCells v.cells.toList o c) el true))
   else none
  | _=>none
 | _=>none
def yconv (k : IntKind) (x : Value) : Option Value:=match x with
 | .int _ n=>some (.int k (k.wrap n))
 | _=>none
def yfieldAddr (off : Nat) (x : Value) : Option Value:=match x with
 | .pointer (some ⟨i,o,none⟩)=>some (.pointer (some ⟨i,o+off,none⟩))
 | _=>none
def yfield1 (off : Nat) (x : Value) : Option Value:=match x with
 | .agg cs=>cs[off]?
 | _=>none
def yfieldN (off n : Nat) (x : Value) : Option Value:=match x with
 | .agg cs=>some (.agg (cs.extract off (off+n)))
 | _=>none
def yindexAddr (arr : Option Nat) (es : Nat) (x ix : Value) : Option Value:=match ix with
 | .int _ n=>match arr,x with
  | none,.slice (some ⟨i,o,none⟩) len _=>if 0≤n∧n<(len : Int) then some (.pointer (some ⟨i,o+n.toNat*es,none⟩)) else none
  | some len,.pointer (some ⟨i,o,none⟩)=>if 0≤n∧n<(len : Int) then some (.pointer (some ⟨i,o+n.toNat*es,none⟩)) else none
  | _,_=>none
 | _=>none
def yindex (len es : Nat) (one : Bool) (x ix : Value) : Option Value:=match ix,x with
 | .int _ n,.agg cs=>if 0≤n∧n<(len : Int) then (if one then cs[n.toNat*es]? else some (.agg (cs.extract (n.toNat*es) (n.toNat*es+es)))) else none
 | _,_=>none
def yslice (P : Program) (e : TypeId) (es : Nat) (H : Heap) (x : Value) (lo hi : Option Value) : Option Value:=match x with
 | .slice (some ⟨i,o,none⟩) len cap=>match H.cellsAt i with
  | some (_,el,rw)=>if rw=false∨el=e∨P.cellsOf el=P.cellsOf e then match xbound hi len cap with
   | some h=>match xbound lo 0 h with
    | some l=>if cap=l then some (.slice (some ⟨i,o,some 0⟩) 0 0) else some (.slice (some ⟨i,o+l*es,none⟩) (h-l) (cap-l))
    | none=>none
   | none=>none
   else none
  | none=>none
 | .slice (some ⟨i,o,some s⟩) len cap=>match xbound hi len cap with
   | some h=>match xbound lo 0 h with
    | some _=>some (.slice (some ⟨i,o,some s⟩) 0 0)
    | none=>none
   | none=>none
 | .slice none len cap=>match xbound hi len cap with
   | some h=>match xbound lo 0 h with
    | some l=>if len=0∧l=0∧h=0∧cap=0 then some (.slice none 0 0) else none
    | none=>none
   | none=>none
 | _=>none
def yslice3 (P : Program) (e : TypeId) (es : Nat) (H : Heap) (x : Value) (lo : Option Value) (hi m : Value) : Option Value:=match x with
 | .slice (some ⟨i,o,none⟩) _ cap=>match H.cellsAt i with
  | some (_,el,rw)=>if rw=false∨el=e∨P.cellsOf el=P.cellsOf e then match xbound (some m) 0 cap with
   | some k=>match xbound (some hi) 0 k with
    | some h=>match xbound lo 0 h with
     | some l=>if k=l then some (.slice (some ⟨i,o,some 0⟩) 0 0) else some (.slice (some ⟨i,o+l*es,none⟩) (h-l) (k-l))
     | none=>none
    | none=>none
   | none=>none
   else none
  | none=>none
 | .slice none len cap=>match xbound (some m) 0 cap with
   | some k=>match xbound (some hi) 0 k with
    | some h=>match xbound lo 0 h with
     | some l=>if len=0∧l=0∧h=0∧k=0 then some (.slice none 0 0) else none
     | none=>none
    | none=>none
   | none=>none
 | _=>none
def ylen (kd : Nat) (H : Heap) (x : Value) : Option Value:=match kd,x with
 | 0,.slice _ n _=>some (.int .i64 n)
 | 1,.string s=>some (.int .i64 s.size)
 | 2,.map none=>some (.int .i64 0)
 | 2,.map (some i)=>match H.mapAt i with
  | some (_,es,_)=>some (.int .i64 es.size)
  | none=>none
 | _,_=>none
def yappend (e : TypeId) (es bytes : Nat) (H : Heap) (s x : Value) : Option (Value×Heap):=match s,x with
 | .slice a n c,.slice b m _=>
  if m=0 then match a with
   | none=>if n=0 then some (.slice none n c,H) else none
   | some a=>some (.slice (some a) n c,H)
  else match xsource H es m b with
   | some new=>
    if new.toList.all (fun y=>y.oneCell' && notTop y)=true∧(2*(n+m)+256)*bytes≤2 ^ 48∧n+m≤2 ^ 48 then match a with
     | none=>if n=0∧c=0 then some (.slice (some ⟨H.next,0,none⟩) m m,H.alloc (.cells new e true)) else none
     | some ⟨i,o,none⟩=>match H.cellsAt i with
      | some (cd,el,true)=>
       if el=e∧o+n*es≤cd.size∧o+c*es≤cd.size∧(n+m≤c→c*es≠0) then
        if n+m≤c then some (.slice (some ⟨i,o,none⟩) (n+m) c,H.set i (.cells (setCells new.toList (o+n*es) cd) e true))
        else some (.slice (some ⟨H.next,0,none⟩) (n+m) (n+m),(H.set i (lentO o (n*es) cd e H.next)).alloc (.cells (cd.extract o (o+n*es)++new) e true))
       else none
      | some (_,_,false)=>none
      | none=>match nowB H 24 i with
       | some (cd,el,tp)=>
        if o=0∧el=e∧n*es≤cd.length∧c<n+m then
         some (.slice (some ⟨H.next,0,none⟩) (n+m) (n+m),((H.set tp .dead).set i (.lent ((⟨cd⟩ : Array Value).extract 0 (n*es)) e H.next)).alloc (.cells ((⟨cd⟩ : Array Value).extract 0 (n*es)++new) e true))
        else none
       | none=>none
     | _=>none
    else none
   | none=>none
 | _,_=>none
def yclear (es : Nat) (z : List Value) (H : Heap) (x : Value) : Option Heap:=match x with
 | .slice none _ _=>some H
 | .slice (some ⟨i,o,none⟩) n _=>if n=0 then some H else match H.cellsAt i with
  | some (cd,el,true)=>if o+n*es≤cd.size then some (H.set i (.cells (setCells (zeros ⟨z⟩ (n*es)).toList o cd) el true)) else none
  | _=>none
 | .slice (some ⟨_,_,some _⟩) 0 _=>some H
 | _=>none
def ycopy (es : Nat) (H : Heap) (d s : Value) : Option (Value×Heap):=match d,s with
 | .slice db dn _,.slice sb m _=>if min m dn=0 then some (.int .i64 (.ofNat 0),H) else match xsource H es (min m dn) sb,db with
  | some new,some ⟨i,o,none⟩=>match H.cellsAt i with
   | some (cd,el,true)=>if new.toList.all (fun y=>y.oneCell' && notTop y)=true∧o+min m dn*es≤cd.size then some (.int .i64 (.ofNat (min m dn)),H.set i (.cells (setCells new.toList o cd) el true)) else none
   | _=>none
  | _,_=>none
 | _,_=>none
def ymakeSlice (e : TypeId) (bytes : Nat) (z : List Value) (H : Heap) (l c : Value) : Option (Value×Heap):=match l,c with
 | .int _ l,.int _ c=>if 0≤l∧l≤c∧c*bytes≤2 ^ 48∧c≤2 ^ 48 then some (.slice (some ⟨H.next,0,none⟩) l.toNat c.toNat,H.alloc (.cells (zeros ⟨z⟩ (c.toNat*z.length)) e true)) else none
 | _,_=>none
def ylookup (P : Program) (kt : TypeId) (z : Value) (H : Heap) (x k : Value) (ok : Bool) : Option Value:=match x with
 | .map (some i)=>match H.mapAt i with
  | some (kt',es,_)=>if kt'=kt∧keyedB P kt=true∧keyishV k=true∧(keyOf P kt k).isSome=true then
     match xfind k es.toList 0 with
     | some j=>match es[j]? with
      | some e=>some (if ok then .tuple #[e.val,.bool true] else e.val)
      | none=>none
     | none=>some (if ok then .tuple #[z,.bool false] else z)
    else none
  | none=>none
 | _=>none
def ymapUpdate (P : Program) (kt : TypeId) (H : Heap) (x k v : Value) : Option Heap:=match x with
 | .map (some i)=>match H.mapAt i with
  | some (kt',es,clock)=>
   if kt'=kt∧keyedB P kt=true∧keyishV k=true∧(keyOf P kt k).isSome=true then
    match xfind k es.toList 0 with
    | some j=>some (H.set i (.map kt (es.modify j fun e=>{ e with key:=k,val:=v }) clock))
    | none=>some (H.set i (.map kt (es.push { key:=k,val:=v,born:=clock }) (clock+1)))
   else none
  | none=>none
 | _=>none
def ycap (x : Value) : Option Value:=match x with
 | .slice none _ c=>some (.int .i64 c)
 | _=>none
def ytoBytes (e : TypeId) (H : Heap) (x : Value) : Option (Value×Heap):=match x with
 | .string s=>some (.slice (some ⟨H.next,0,none⟩) s.data.toList.length s.data.toList.length,H.alloc (.cells ⟨bytesV s⟩ e true))
 | _=>none
def ytoStr (H : Heap) (x : Value) : Option (Value×Heap):=match x with
 | .slice a n _=>match a with
   | some ⟨i,o,none⟩=>match H.cellsAt i with
    | some (c,_,_)=>if n=0 then some (.string ⟨⟨[]⟩⟩,H) else if o+n≤c.size then match ofBytes (c.extract o (o+n)).toList with
     | some l=>some (.string ⟨⟨l⟩⟩,H)
     | none=>none
     else none
    | none=>none
   | some ⟨_,_,some _⟩=>none
   | none=>some (.string ⟨⟨[]⟩⟩,H)
 | _=>none
def yfill (t : TT) : List (Nat×Nat×FA)→Array Value→Option (Array Value)
 | [],c=>some c
 | (off,size,a)::r,c=>if notTop (dA t a)=true∧(dA t a).cells.size=size∧off+(dA t a).cells.size≤c.size then yfill t r (setCells (dA t a).cells.toList off c) else none
def dop (P : Program) (f : FOp) (t : TT) (H : Heap) : Option (Value×Heap):=match f with
 | .move x=>some (dA t x,H)
 | .pick c a b=>ypick (dA t c) (dA t a) (dA t b) H
 | .alloc el z=>some (.pointer (some ⟨H.next,0,none⟩),H.alloc (.cells ⟨z⟩ el true))
 | .box el x=>xbox H el (dA t x)
 | .build z ps=>(yfill t ps ⟨z⟩).map fun c=>(.agg c,H)
 | .buildSlice el n z ps=>(yfill t ps ⟨z⟩).map fun c=>(.slice (some ⟨H.next,0,none⟩) n n,H.alloc (.cells c el true))
 | .load1 x=>(yload1 H (dA t x)).map (·,H)
 | .loadN n x=>(yloadN n H (dA t x)).map (·,H)
 | .store n a x=>(ystore n H (dA t a) (dA t x)).map (undef,·)
 | .nilCheck x=>(xnil (dA t x)).map (·,H)
 | .bin op ty x y=>(xbinOp P op ty (dA t x) (dA t y)).map (·,H)
 | .un op x=>(xun op (dA t x)).map (·,H)
 | .conv k x=>(yconv k (dA t x)).map (·,H)
 | .fieldAddr off x=>(yfieldAddr off (dA t x)).map (·,H)
 | .field1 off x=>(yfield1 off (dA t x)).map (·,H)
 | .fieldN off n x=>(yfieldN off n (dA t x)).map (·,H)
 | .indexAddr arr es x i=>(yindexAddr arr es (dA t x) (dA t i)).map (·,H)
 | .index len es one x i=>(yindex len es one (dA t x) (dA t i)).map (·,H)
 | .slice e es x lo hi=>(yslice P e es H (dA t x) (lo.map (dA t)) (hi.map (dA t))).map (·,H)
 | .len kd x=>(ylen kd H (dA t x)).map (·,H)
 | .mm mx xs=>(xmm mx (xs.map (dA t))).map (·,H)
 | .append e es bytes s x=>yappend e es bytes H (dA t s) (dA t x)
 | .makeSlice e _ bytes z l c=>ymakeSlice e bytes z H (dA t l) (dA t c)
 | .makeFunc f a b=>some (.func (.func f) ⟨a.map (dA t)⟩ ⟨b.map (dA t)⟩,H)
 | .makeMap kt=>some (.map (some H.next),H.alloc (.map kt #[] 0))
 | .lookup kt z x k ok=>(ylookup P kt z H (dA t x) (dA t k) ok).map (·,H)
 | .mapUpdate kt m k v=>(ymapUpdate P kt H (dA t m) (dA t k) (dA t v)).map (undef,·)
 | .extract x i=>(xextract (dA t x) i).map (·,H)
 | .cap x=>(ycap (dA t x)).map (·,H)
 | .idxSlow ty x i=>(xindex P ty (dA t x) (dA t i)).map (·,H)
 | .sliceSlow ty x lo hi=>(xslice P ty (dA t x) (lo.map (dA t)) (hi.map (dA t)) none).map (·,H)
 | .toBytes e x=>ytoBytes e H (dA t x)
 | .toStr x=>ytoStr H (dA t x)
 | .clear es z x=>(yclear es z H (dA t x)).map (undef,·)
 | .slice3 e es x lo hi m=>(yslice3 P e es H (dA t x) (lo.map (dA t)) (dA t hi) (dA t m)).map (·,H)
 | .copy es d s=>ycopy es H (dA t d) (dA t s)
 | .appendMk .. | .call ..=>none
def DOk (P : Program) [Gl P] (f : FOp) (op : Op) : Prop:=∀ (t : TT) (tm : Array Value) (H H' : Heap) (v : Value),TR t tm→dop P f t H=some (v,H')→xop P H (ev P tm) op=some (v,H')
theorem setCells_zip (vs : List Value) : ∀ (off : Nat) (c : Array Value) (k : Nat),(vs.zipIdx k).foldl (fun cs x=>cs.setIfInBounds (off+x.2) x.1) c=setCells vs (off+k) c:=by
 induction vs with
 | nil=>intro off c k;rfl
 | cons v vs ih=>
  intro off c k
  simp only[List.zipIdx_cons,List.foldl_cons,setCells]
  exact ih off _ (k+1)
section
variable {P : Program} [Gl P]
theorem yfill_ok {pl : Nat→Option (Nat×Nat)} {t : TT} {tm : Array Value} (ht : TR t tm) : ∀ {l : List (Nat×Operand)} {ps : List (Nat×Nat×FA)} {c c' : Array Value},compParts P pl l=some ps→yfill t ps c=some c' →
  (l.map fun x=>(x.1,ev P tm x.2)).all (fun x=>notTop x.2)=true∧Instr.fill pl c (l.map fun x=>(x.1,ev P tm x.2))=some c'∧c'.size=c.size
 | [],ps,c,c',h,k=>by
  simp only[compParts] at h;cases h
  simp only[yfill] at k;cases k
  exact⟨rfl,rfl,rfl⟩
 | (i,x)::l,ps,c,c',h,k=>by
  simp only[compParts] at h
  split at h
  ·rename_i off size hpl
   split at h
   ·rename_i r hr
    cases h
    simp only[yfill,dA_comp ht] at k
    split at k
    ·rename_i hc
     obtain⟨h1,h2,h3⟩:=hc
     obtain⟨k1,k2,k3⟩:=yfill_ok ht hr k
     refine⟨by simp only[List.map_cons,List.all_cons,h1,k1,Bool.and_self],?_,by rw[k3,setCells_size]⟩
     simp only[List.map_cons,Instr.fill,hpl]
     have e1 : ((ev P tm x).cells.size != size)=false:=by simp[h2]
     have e2 : ¬ (off+(ev P tm x).cells.size > c.size):=by omega
     have e3 : (ev P tm x).cells.zipIdx.foldl (fun cs (y : Value×Nat)=>cs.setIfInBounds (off+y.2) y.1) c=setCells (ev P tm x).cells.toList off c:=by
      rw[← Array.foldl_toList,Array.toList_zipIdx]
      exact setCells_zip _ off c 0
     simp only[h2,ne_eq,not_true_eq_false,decide_false,Bool.false_or] at e2 ⊢
     rw[if_neg (by simpa using e2)]
     rw[← k2]
     congr 1
    ·cases k
   ·cases h
  ·cases h
end
end Go.Xe
