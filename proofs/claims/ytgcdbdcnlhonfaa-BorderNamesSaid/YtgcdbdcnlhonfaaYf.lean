/- An executable reading of the model's code over an abstract heap (part 32): what the machine for the kernel answers, the reading answers. Conditions: F is the program's functions (FnOk). -/
import Derived.Test.YtgcdbdcnlhonfaaYe
namespace Go.Xe
open Go
section
variable {P : Program} [Gl P] [Orc P] {F : Nat→FFunc} {x : FX} {ex : Ex}
theorem seqR_ok {P : Program} [Gl P] (hx : ExF P x ex) {r : RF} {e : XE} {a : AS} (ho : Out P r e a) {code : Code} {rnd : Option Nat} (h : Good (seqR r x (comp P code) rnd)) :
  (e=.normal∧∃ e' a',ex rnd code a=some (e',a')∧Out P (seqR r x (comp P code) rnd) e' a')∨(e≠.normal∧seqR r x (comp P code) rnd=r):=by
 cases r with
 | fail n=>exact not_good h
 | nx t m H=>
  cases e with
  | normal=>
   obtain⟨h1,h2,h3⟩:=ho
   have h' : Good (x (comp P code) rnd m t H):=h
   obtain⟨e',a',h4,h5⟩:=hx code rnd m t H a.tmps a.heap h1 h2 h'
   have ha : a={ tmps:=a.tmps,marks:=m,heap:=a.heap }:=by rw[← h3]
   exact .inl ⟨rfl,e',a',by rw[ha];exact h4,h5⟩
  | exit id=>exact ho.elim
  | ret=>exact ho.elim
 | ex id t m H=>
  cases e with
  | exit id'=>exact .inr ⟨(by intro h;cases h),rfl⟩
  | normal=>exact ho.elim
  | ret=>exact ho.elim
 | rt t m H=>
  cases e with
  | ret=>exact .inr ⟨(by intro h;cases h),rfl⟩
  | normal=>exact ho.elim
  | exit id=>exact ho.elim
theorem seqR_good {r : RF} {b : FCode} {rnd : Option Nat} (h : Good (seqR r x b rnd)) : Good r:=by
 intro n hn
 rw[hn] at h
 exact not_good (n:=n) h
theorem blockR_good {r : RF} {id : Nat} (h : Good (blockR r id)) : Good r:=by
 intro n hn
 rw[hn] at h
 exact not_good (n:=n) h
theorem notBusy_good {s : LoopState} {k : RF} (h : Good (notBusy s k)) : s≠.busy∧notBusy s k=k:=by
 cases s with
 | busy=>exact not_good h
 | _=>exact⟨(by intro h;cases h),rfl⟩
theorem rangeG_ok (hF : FnOk P F) (hx : ExF P x ex) {f : Operand} {ps : Array Tmp} {ca cb : Code} {t : TT} {tm : Array Value} {df : Nat} {ms : List Nat} {H : FH} {Hs : Heap} (ht : TR t tm) (hr : HR (comp P) H Hs)
  (h : Good (rangeG (compA P f) (ps.toList.map pth) ca cb (comp P ca) (comp P cb) F x t df ms H)) :
  ∃ g args v H2s r H',xrangeCall (ev P tm f) Hs.next=some (g,args)∧xcall P ex g args (Hs.alloc (.loop { state:=.ready,pending:=none,fn:=0,tmps:=tm,params:=ps,assign:=ca,body:=cb,defers:=df }))=some (v,H2s) ∧
   H2s.get Hs.next=some (.loop r)∧r.state≠.busy∧HR (comp P) H' (H2s.set Hs.next (.loop { r with state:=.exhausted })) ∧
   ∃ pj : Option FJ,r.pending=pj.map FJ.code∧rangeG (compA P f) (ps.toList.map pth) ca cb (comp P ca) (comp P cb) F x t df ms H=pendR pj t ms H':=by
 unfold rangeG at h ⊢
 rw[evA_comp ht] at h ⊢
 rcases asFunc_good h with⟨g,a,b,e1,e2⟩|⟨l,a,b,e1,e2⟩
 ·rw[e2] at h ⊢
  obtain⟨H2,e3,e4⟩:=allocF_good hr (x:=.loop .ready none t (ps.toList.map pth) ca cb (comp P ca) (comp P cb) df) (o:=.loop { state:=.ready,pending:=none,fn:=0,tmps:=tm,params:=ps,assign:=ca,body:=cb,defers:=df })
   ⟨_,rfl,rfl,rfl,ht,rfl,rfl,rfl,rfl,rfl,rfl⟩ h
  rw[e4,catL_eq] at h ⊢
  obtain⟨v,H3,Hs3,e5,e6,e7⟩:=callF_ok hF hx e3 h
  rw[e5] at h ⊢
  obtain⟨st,pj,t1,ps1,ca1,cb1,fa1,fb1,df1,b1,b2⟩:=onLoop_good h
  rw[b2] at h ⊢
  obtain⟨b3,b4⟩:=notBusy_good h
  rw[b4] at h ⊢
  have ho:=e7.obj Hs.next
  rw[b1] at ho
  obtain⟨r,k0,k1,k2,k3,k4,k5,k6,k7,k8,k9⟩:=ho
  obtain⟨H4,c1,c2⟩:=setF_good e7 (x:=.loop .exhausted pj t1 ps1 ca1 cb1 fa1 fb1 df1) (o:=.loop { r with state:=.exhausted }) ⟨_,rfl,rfl,k2,k3,k4,k5,k6,k7,k8,k9⟩ h
  refine⟨g,_,v,Hs3,r,H4,?_,e6,k0,by rw[k1];exact b3,c1,pj,k2,c2⟩
  simp only[xrangeCall,e1]
  congr 2
  apply Array.toList_inj.1
  simp
 ·rw[e2] at h;exact not_good h
theorem execF_ok (hF : FnOk P F) : ∀ N,ExF P (execF P F N) (exec P N):=by
 intro N
 induction N with
 | zero=>intro code rnd m t H tm Hs ht hr h;exact not_good (n:=83) h
 | succ N ih=>
  intro code rnd m t H tm Hs ht hr h
  have hv:=opv_ok hF ih
  have e0 : execF P F (N+1) (comp P code) rnd m t H=exC (comp P code) P F (execF P F N) rnd m t H:=rfl
  rw[e0] at h ⊢
  cases code with
  | skip=>exact⟨.normal,⟨tm,m,Hs⟩,by simp only[exec],ht,hr,rfl⟩
  | label l=>exact⟨.normal,⟨tm,m,Hs⟩,by simp only[exec],ht,hr,rfl⟩
  | exit id=>exact⟨.exit id,⟨tm,m,Hs⟩,by simp only[exec],rfl,ht,hr,rfl⟩
  | ret=>exact⟨.ret,⟨tm,m,Hs⟩,by simp only[exec],ht,hr,rfl⟩
  | goto l=>exact not_good (n:=82) h
  | refuse s=>exact not_good (n:=82) h
  | seq a b=>
   have h' : Good (seqR (execF P F N (comp P a) rnd m t H) (execF P F N) (comp P b) rnd):=h
   show ∃ e a',_∧Out P (seqR (execF P F N (comp P a) rnd m t H) (execF P F N) (comp P b) rnd) e a'
   obtain⟨e,a1,e1,e2⟩:=ih a rnd m t H tm Hs ht hr (seqR_good h')
   rcases seqR_ok ih e2 h' with⟨e3,e',a',e4,e5⟩|⟨e3,e4⟩
   ·subst e3;exact⟨e',a',by simp only[exec,e1,e4],e5⟩
   ·refine⟨e,a1,?_,by rw[e4];exact e2⟩
    simp only[exec,e1]
    cases e with
    | normal=>exact absurd rfl e3
    | _=>rfl
  | loop b=>
   have h' : Good (seqR (execF P F N (comp P b) rnd m t H) (execF P F N) (comp P (.loop b)) rnd):=h
   show ∃ e a',_∧Out P (seqR (execF P F N (comp P b) rnd m t H) (execF P F N) (comp P (.loop b)) rnd) e a'
   obtain⟨e,a1,e1,e2⟩:=ih b rnd m t H tm Hs ht hr (seqR_good h')
   rcases seqR_ok ih e2 h' with⟨e3,e',a',e4,e5⟩|⟨e3,e4⟩
   ·subst e3;exact⟨e',a',by simp only[exec,e1,e4],e5⟩
   ·refine⟨e,a1,?_,by rw[e4];exact e2⟩
    simp only[exec,e1]
    cases e with
    | normal=>exact absurd rfl e3
    | _=>rfl
  | cond q a b=>
   have h' : Good (asBool (evA t (compA P q)) (execF P F N (comp P a) rnd m t H) (execF P F N (comp P b) rnd m t H) (.fail 80)):=h
   show ∃ e a',_∧Out P (asBool (evA t (compA P q)) (execF P F N (comp P a) rnd m t H) (execF P F N (comp P b) rnd m t H) (.fail 80)) e a'
   rw[evA_comp ht] at h' ⊢
   rcases asBool_good h' with⟨e1,e2⟩|⟨e1,e2⟩|⟨_,_,e2⟩
   ·rw[e2] at h' ⊢
    obtain⟨e,a1,e3,e4⟩:=ih a rnd m t H tm Hs ht hr h'
    exact⟨e,a1,by simp only[exec,e1,if_true,e3],e4⟩
   ·rw[e2] at h' ⊢
    obtain⟨e,a1,e3,e4⟩:=ih b rnd m t H tm Hs ht hr h'
    exact⟨e,a1,by simp only[exec,e1,Bool.false_eq_true,if_false,e3],e4⟩
   ·rw[e2] at h';exact not_good h'
  | scope b=>
   obtain⟨e,a1,e3,e4⟩:=ih b rnd m t H tm Hs ht hr h
   exact⟨e,a1,by simp only[exec,e3],e4⟩
  | block id b=>
   have h' : Good (blockR (execF P F N (comp P b) rnd m t H) id):=h
   show ∃ e a',_∧Out P (blockR (execF P F N (comp P b) rnd m t H) id) e a'
   obtain⟨e,a1,e1,e2⟩:=ih b rnd m t H tm Hs ht hr (blockR_good h')
   cases hxr : execF P F N (comp P b) rnd m t H with
   | fail n=>rw[hxr] at h';exact not_good (n:=n) h'
   | nx t' m' H'=>
    rw[hxr] at e2
    cases e with
    | normal=>exact⟨.normal,a1,by simp only[exec,e1],e2⟩
    | exit id=>exact e2.elim
    | ret=>exact e2.elim
   | rt t' m' H'=>
    rw[hxr] at e2
    cases e with
    | ret=>exact⟨.ret,a1,by simp only[exec,e1],e2⟩
    | exit id=>exact e2.elim
    | normal=>exact e2.elim
   | ex id' t' m' H'=>
    rw[hxr] at e2
    cases e with
    | normal=>exact e2.elim
    | ret=>exact e2.elim
    | exit id2=>
     obtain⟨q0,q1,q2,q3⟩:=e2
     subst q0
     have eb : blockR (.ex id2 t' m' H') id=ifB (Nat.beq id2 id) (.nx t' m' H') (.ex id2 t' m' H'):=rfl
     rw[eb]
     cases hb : Nat.beq id2 id with
     | true=>
      have : id2=id:=Nat.eq_of_beq_eq_true hb
      exact⟨.normal,a1,by simp only[exec,e1,if_pos this],q1,q2,q3⟩
     | false=>
      have : id2≠id:=Nat.ne_of_beq_eq_false hb
      exact⟨.exit id2,a1,by simp only[exec,e1,if_neg this],rfl,q1,q2,q3⟩
  | region i ops draw=>
   cases draw with
   | true=>
    have ec : comp P (.region i ops true)=if planOk ops (mkPlan ops) then .draw ops.size ((mkPlan ops).sig.map (compAt P ops)) ((List.range ops.size).map (chkOf P ops (mkPlan ops))) else .bad:=by simp only[comp]
    rw[ec] at h ⊢
    cases hp : planOk ops (mkPlan ops) with
    | false=>rw[hp] at h;exact not_good (n:=82) h
    | true=>
     rw[hp,if_pos rfl] at h
     rw[if_pos rfl]
     obtain⟨T,Hs',t',H',e1,e2,e3,e4⟩:=exDraw_ok (rnd:=rnd) (m:=m) hv hp ht hr h
     have e4' : exC (.draw ops.size ((mkPlan ops).sig.map (compAt P ops)) ((List.range ops.size).map (chkOf P ops (mkPlan ops)))) P F (execF P F N) rnd m t H=.nx t' m H':=e4
     rw[e4']
     exact⟨.normal,⟨T,m,Hs'⟩,by simp only[exec,if_true,e1],e2,e3,rfl⟩
   | false=>
    have ec : comp P (.region i ops false)=.run (ops.toList.map (compFIS P ops)):=by simp only[comp]
    rw[ec] at h ⊢
    have h' : Good (runF P F (execF P F N) (ops.toList.map (compFIS P ops)) t H fun t' H'=>.nx t' m H'):=h
    obtain⟨tm',Hs',t',H',e1,e2,e3,e4⟩:=runF_ok (opvS_ok hv) ht hr h'
    have e4' : exC (.run (ops.toList.map (compFIS P ops))) P F (execF P F N) rnd m t H=.nx t' m H':=e4
    rw[e4']
    exact⟨.normal,⟨tm',m,Hs'⟩,by simp only[exec,Bool.false_eq_true,if_false,e1],e2,e3,rfl⟩
  | rangeFunc f ps ca cb=>
   have pend : ∀ (df : Nat) (ms : List Nat) (H1 : FH) (Hs1 : Heap),HR (comp P) H1 Hs1→xenter rnd m Hs=some (df,ms,Hs1)→Good (rangeG (compA P f) (ps.toList.map pth) ca cb (comp P ca) (comp P cb) F (execF P F N) t df ms H1) →
     ∃ e a,exec P (N+1) rnd (.rangeFunc f ps ca cb) { tmps:=tm,marks:=m,heap:=Hs }=some (e,a)∧Out P (rangeG (compA P f) (ps.toList.map pth) ca cb (comp P ca) (comp P cb) F (execF P F N) t df ms H1) e a:=by
    intro df ms H1 Hs1 hr1 hen hg
    obtain⟨g,args,v,H2s,r,H',f1,f2,f3,f4,f5,pj,f6,f7⟩:=rangeG_ok hF ih ht hr1 hg
    rw[f7]
    cases N with
    | zero=>
     exfalso
     have hne : args.toList≠[]:=by
      unfold xrangeCall at f1
      split at f1
      ·cases f1;simp
      ·cases f1
     unfold xcall at f2
     split at f2
     ·rw[if_neg hne] at f2;cases f2
     split at f2
     ·split at f2
      ·split at f2
       ·simp[exec] at f2
       ·cases f2
      ·cases f2
     ·cases f2
    | succ N=>
     cases pj with
     | none=>exact⟨.normal,⟨tm,ms,H2s.set Hs1.next (.loop { r with state:=.exhausted })⟩,by simp only[exec,hen,f1];simp only[f2,f3,if_neg f4,f6,Option.map_none],ht,f5,rfl⟩
     | some j=>
      cases j with
      | exit id=>exact⟨.exit id,⟨tm,ms,H2s.set Hs1.next (.loop { r with state:=.exhausted })⟩,by simp only[exec,hen,f1];simp only[f2,f3,if_neg f4,f6,Option.map_some,FJ.code];first|rfl|(simp only[exec,f6,Option.map_some,FJ.code]),rfl,ht,f5,rfl⟩
      | ret=>exact⟨.ret,⟨tm,ms,H2s.set Hs1.next (.loop { r with state:=.exhausted })⟩,by simp only[exec,hen,f1];simp only[f2,f3,if_neg f4,f6,Option.map_some,FJ.code];first|rfl|(simp only[exec,f6,Option.map_some,FJ.code]),ht,f5,rfl⟩
   cases rnd with
   | none=>
    have h' : Good (allocF H .deferred fun i H'=>rangeG (compA P f) (ps.toList.map pth) ca cb (comp P ca) (comp P cb) F (execF P F N) t i (i::m) H'):=h
    obtain⟨H1,e1,e2⟩:=allocF_good hr (x:=.deferred) (o:=.deferred true) rfl h'
    show ∃ e a,_∧Out P (allocF H .deferred fun i H'=>rangeG (compA P f) (ps.toList.map pth) ca cb (comp P ca) (comp P cb) F (execF P F N) t i (i::m) H') e a
    rw[e2] at h' ⊢
    exact pend _ _ _ _ e1 rfl h'
   | some l=>
    have h' : Good (onLoop (objF H l) fun _ _ _ _ _ _ _ _ df=>rangeG (compA P f) (ps.toList.map pth) ca cb (comp P ca) (comp P cb) F (execF P F N) t df m H):=h
    obtain⟨st,pj,t1,ps1,ca1,cb1,fa1,fb1,df1,b1,b2⟩:=onLoop_good h'
    show ∃ e a,_∧Out P (onLoop (objF H l) fun _ _ _ _ _ _ _ _ df=>rangeG (compA P f) (ps.toList.map pth) ca cb (comp P ca) (comp P cb) F (execF P F N) t df m H) e a
    rw[b2] at h' ⊢
    have ho:=hr.obj l
    rw[b1] at ho
    obtain⟨r,k0,k1,k2,k3,k4,k5,k6,k7,k8,k9⟩:=ho
    exact pend df1 m H Hs hr (by simp only[xenter,k0,k9]) h'
end
end Go.Xe
