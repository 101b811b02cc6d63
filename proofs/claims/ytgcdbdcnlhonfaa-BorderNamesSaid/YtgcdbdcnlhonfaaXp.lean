/- An executable reading of the model's code over an abstract heap (part 16): code, and that what it comes to is what the model's machine comes to. Conditions: the program follows the mixed orders. -/
import Derived.Test.YtgcdbdcnlhonfaaXo
import Derived.LoopNIn
namespace Go.Xe
open Go
def xrangeCall (f : Value) (l : Nat) : Option (FuncId×Array Value):=
 match f with
 | .func (.func g) first cap=>some (g,first++#[.func (.yield l) #[] #[]]++cap)
 | _=>none
def xenter (rnd : Option Nat) (marks : List Nat) (H : Heap) : Option (Nat×List Nat×Heap):=
 match rnd with
 | none=>some (H.next,H.next::marks,H.alloc (.deferred true))
 | some l=>match H.get l with
  | some (.loop r)=>some (r.defers,marks,H)
  | _=>none
def exec (P : Program) [Gl P] [Orc P] : Nat→Option Nat→Code→AS→Option (XE×AS)
 | 0,_,_,_=>none
 | _+1,_,.skip,a=>some (.normal,a)
 | _+1,_,.label _,a=>some (.normal,a)
 | _+1,_,.exit id,a=>some (.exit id,a)
 | _+1,_,.ret,a=>some (.ret,a)
 | _+1,_,.goto _,_=>none
 | _+1,_,.refuse _,_=>none
 | n+1,rnd,.seq x y,a=>match exec P n rnd x a with
  | some (.normal,a1)=>exec P n rnd y a1
  | r=>r
 | n+1,rnd,.cond c x y,a=>match ev P a.tmps c with
  | .bool t=>exec P n rnd (if t then x else y) a
  | _=>none
 | n+1,rnd,.block id body,a=>match exec P n rnd body a with
  | some (.exit id',a1)=>if id'=id then some (.normal,a1) else some (.exit id',a1)
  | r=>r
 | n+1,rnd,.scope body,a=>exec P n rnd body a
 | n+1,rnd,.loop body,a=>match exec P n rnd body a with
  | some (.normal,a1)=>exec P n rnd (.loop body) a1
  | r=>r
 | n+1,_,.region _ ops draw,a=>
  if draw then
   match xdraw P (exec P n) ops a.tmps a.heap with
   | some (t,H)=>some (.normal,{ a with tmps:=t,heap:=H })
   | none=>none
  else match xrun P (exec P n) ops ops.toList a.tmps a.heap with
   | some (t,H)=>some (.normal,{ a with tmps:=t,heap:=H })
   | none=>none
 | n+1,rnd,.rangeFunc f ps assign body,a=>match xenter rnd a.marks a.heap with
  | some (d,marks,H1)=>
   match xrangeCall (ev P a.tmps f) H1.next with
   | some (g,args)=>
    match xcall P (exec P n) g args (H1.alloc (.loop { state:=.ready,pending:=none,fn:=0,tmps:=a.tmps,params:=ps,assign,body,defers:=d })) with
    | some (_,H2)=>match H2.get H1.next with
     | some (.loop r)=>
      if r.state=.busy then none
      else match r.pending with
       | none=>some (.normal,{ tmps:=a.tmps,marks,heap:=H2.set H1.next (.loop { r with state:=.exhausted }) })
       | some c=>exec P n rnd c { tmps:=a.tmps,marks,heap:=H2.set H1.next (.loop { r with state:=.exhausted }) }
     | _=>none
    | none=>none
   | none=>none
  | none=>none
section
variable {P : Program} [Gl P] [Orc P]
theorem wpIn_scope {P : Program} {F : Fence} {n : Nat} {Q : Exit→Act→World→Prop} {a : Act} {w : World} {c : Code}
  (h : c.wpIn F n P Q a w) (hg : ∀ l a w,¬ Q (.goto l) a w) : (Code.scope c).wpIn F n P Q a w:=by
 intro b k cs hro hb hr
 have h0 : (lone (b.atR a (.code (.scope c)::k)) cs w).fenced P F:=fenced_calm hb hr rfl
 have s0 : step P (lone (b.atR a (.code (.scope c)::k)) cs w)=.next (lone (b.atR a (.code c::.inScope c::k)) cs w):=step_lone_go (by simp[stepG,stepG.exec,Frame.atR])
 have sk : ∀ a w,step P (lone (b.atR a (.inScope c::k)) cs w)=.next (lone (b.atR a k) cs w):=fun a w=>step_lone_go (by simp[stepG,stepG.exec,Frame.atR])
 obtain⟨e,a₁,w₁,hq,harr⟩:=h b (.inScope c::k) cs hro hb hr
 cases e with
 | normal=>exact⟨.normal,a₁,w₁,hq,.head h0 s0 (StepsIn.trans harr (.one (fenced_calm hb hr rfl) (sk _ _)))⟩
 | exit id=>
  have hx : exitTo id (.inScope c::k)=exitTo id k:=by simp[exitTo]
  exact⟨.exit id,a₁,w₁,hq,fun k' hk=>.head h0 s0 (harr.1 k' (by rw[hx];exact hk)),
   fun hr' hk=>let ⟨k₁,h1,h2⟩:=harr.2 hr' (by rw[hx];exact hk);⟨k₁,h1,.head h0 s0 h2⟩⟩
 | goto l=>exact absurd hq (hg l _ _)
 | ret=>exact⟨_,a₁,w₁,hq,.of_steps (.one h0 s0) harr⟩
 | panic ch=>exact⟨_,a₁,w₁,hq,.of_steps (.one h0 s0) harr⟩
 | outgrown=>exact⟨_,a₁,w₁,hq,.of_steps (.one h0 s0) harr⟩
theorem rounds_mono {P : Program} {F : Fence} {n : Nat} {c : Code} {Q Q' : Exit→Act→World→Prop} (h : ∀ e a w,Q e a w→Q' e a w) : ∀ (m : Nat) (a : Act) (w : World),Code.roundsIn F n P c Q m a w→Code.roundsIn F n P c Q' m a w
 | 0,_,_,hr=>hr
 | m+1,a,w,hr=>wpIn_mono hr (fun e a w he=>by
   cases e with
   | normal=>exact rounds_mono h m a w he
   | exit id=>exact h _ _ _ he
   | goto l=>exact h _ _ _ he
   | ret=>exact h _ _ _ he
   | panic ch=>exact h _ _ _ he
   | outgrown=>exact h _ _ _ he)
theorem Post.trans {P : Program} {θ θ1 : Th} {w w1 : World} {e : XE} {a : AS} {e' : Exit} {b : Act} {w' : World} (hs : Stp θ w θ1 w1) (h : Post P θ1 w1 e a e' b w') : Post P θ w e a e' b w':=by
 obtain⟨h1,θ',h2,h3⟩:=h
 exact⟨h1,θ',hs.trans h2,h3⟩
theorem then_ok {P : Program} {θ : Th} {w : World} {e1 e : XE} {a1 a : AS} {c : Code} {r : Option Nat} {n : Nat} (h : e1=.normal→∀ θ1 w1 b1,Stp θ w θ1 w1→ASR P θ1 a1 b1 w1→c.wpIn (FW r) n P (Post P θ w e a) b1 w1) (h' : e1≠.normal→e=e1∧a=a1) :
  ∀ e' b' w',Post P θ w e1 a1 e' b' w'→Exit.then (c.wpIn (FW r) n P (Post P θ w e a)) (Post P θ w e a) e' b' w':=by
 rintro e' b' w' ⟨rfl,θ1,hs,ha⟩
 cases e1 with
 | normal=>exact h rfl θ1 w' b' hs ha
 | exit id=>obtain⟨rfl,rfl⟩:=h' (by simp);exact⟨rfl,θ1,hs,ha⟩
 | ret=>obtain⟨rfl,rfl⟩:=h' (by simp);exact⟨rfl,θ1,hs,ha⟩
theorem loop_ok : ∀ (N : Nat),(∀ M,M≤N→ExOk P (exec P M))→∀ rnd body a e a',exec P (N+1) rnd (.loop body) a=some (e,a')→∀ (θ : Th) (w : World) (b : Act) (r : Option Nat) (n : Nat),ASR P θ a b w→At P θ w→RndR θ rnd r →
  Code.roundsIn (FW r) n P body (Post P θ w e a') (N+1) b w:=by
 intro N
 induction N with
 | zero=>
  intro hex rnd body a e a' h
  simp[exec] at h
 | succ N ih=>
  intro hex rnd body a e a' h θ w b r n ha hat hrn
  rw[exec] at h
  split at h
  ·rename_i a1 h1
   have hb:=hex (N+1) (Nat.le_refl _) _ _ _ _ _ h1 θ w b r n ha hat hrn
   refine wpIn_mono hb ?_
   rintro e' b' w' ⟨rfl,θ1,hs,ha1⟩
   have:=ih (fun M hM=>hex M (by omega)) rnd body a1 e a' h θ1 w' b' r n ha1 (hat.stp hs) (hrn.ext hs.ext)
   exact rounds_mono (fun _ _ _ hp=>hp.trans hs) _ _ _ this
  ·rename_i r' hne
   obtain⟨e1,a1⟩ : XE×AS:=(e,a')
   have hb:=hex (N+1) (Nat.le_refl _) _ _ _ _ _ h θ w b r n ha hat hrn
   refine wpIn_mono hb ?_
   rintro e' b' w' ⟨rfl,θ1,hs,ha1⟩
   cases e with
   | normal=>exact absurd h (hne _)
   | exit id=>exact⟨rfl,θ1,hs,ha1⟩
   | ret=>exact⟨rfl,θ1,hs,ha1⟩
theorem cond_rel {θ : Th} {v v' : Value} (h : VR θ v v') {t : Bool} (hv : v=.bool t) : v'=.bool t:=by subst hv;cases h;rfl
theorem exec_ok (hmix : P.follows .mixedOrders=true) : ∀ (N : Nat),ExOk P (exec P N):=by
 intro N
 induction N using Nat.strongRecOn with
 | _ N ih=>
  cases N with
  | zero=>intro rnd c a e a' h;simp[exec] at h
  | succ N=>
   have hex : ExOk P (exec P N):=ih N (by omega)
   intro rnd c a e a' h θ w b r n ha hat hrn
   obtain⟨hrel,htm,hmk⟩:=ha
   have ha : ASR P θ a b w:=⟨hrel,htm,hmk⟩
   cases c with
   | skip=>rw[exec] at h;cases h;exact wpIn_skip ⟨rfl,θ,Stp.refl _ _,ha⟩
   | label l=>rw[exec] at h;cases h;exact wpIn_label ⟨rfl,θ,Stp.refl _ _,ha⟩
   | exit id=>rw[exec] at h;cases h;exact wpIn_exit ⟨rfl,θ,Stp.refl _ _,ha⟩
   | ret=>rw[exec] at h;cases h;exact wpIn_ret ⟨rfl,θ,Stp.refl _ _,ha⟩
   | goto l=>simp[exec] at h
   | refuse why=>simp[exec] at h
   | seq x y=>
    rw[exec] at h
    split at h
    ·rename_i a1 h1
     refine wpIn_seq (wpIn_mono (hex _ _ _ _ _ h1 θ w b r n ha hat hrn) (then_ok (fun _ θ1 w1 b1 hs ha1=>?_) (fun hn=>absurd rfl hn)))
     exact wpIn_mono (hex _ _ _ _ _ h θ1 w1 b1 r n ha1 (hat.stp hs) (hrn.ext hs.ext)) (fun _ _ _ hp=>hp.trans hs)
    ·rename_i hne
     refine wpIn_seq (wpIn_mono (hex _ _ _ _ _ h θ w b r n ha hat hrn) (then_ok (fun he=>?_) (fun _=>⟨rfl,rfl⟩)))
     subst he;exact absurd h (hne _)
   | cond c x y=>
    rw[exec] at h
    split at h
    ·rename_i t ht
     have:=cond_rel (ev_rel hat htm c) ht
     exact wpIn_cond this (hex _ _ _ _ _ h θ w b r n ha hat hrn)
    ·cases h
   | block id body=>
    rw[exec] at h
    split at h
    ·rename_i id' a1 h1
     refine wpIn_block (wpIn_mono (hex _ _ _ _ _ h1 θ w b r n ha hat hrn) ?_)
     rintro e' b' w' ⟨rfl,θ1,hs,ha1⟩
     show (if id'=id then _ else _)
     split at h
     ·rename_i hid
      cases h
      rw[if_pos hid];exact⟨rfl,θ1,hs,ha1⟩
     ·rename_i hid
      cases h
      rw[if_neg hid];exact⟨rfl,θ1,hs,ha1⟩
    ·rename_i hne
     refine wpIn_block (wpIn_mono (hex _ _ _ _ _ h θ w b r n ha hat hrn) ?_)
     rintro e' b' w' ⟨rfl,θ1,hs,ha1⟩
     cases e with
     | normal=>exact⟨rfl,θ1,hs,ha1⟩
     | exit id=>exact absurd h (hne _ _)
     | ret=>exact⟨rfl,θ1,hs,ha1⟩
   | scope body=>
    rw[exec] at h
    refine wpIn_scope (hex _ _ _ _ _ h θ w b r n ha hat hrn) ?_
    rintro l b' w' ⟨he,_⟩
    cases e<;>cases he
   | loop body=>exact wpIn_loop_rounds _ (loop_ok N (fun M hM=>ih M (by omega)) _ _ _ _ _ h θ w b r n ha hat hrn)
   | region id ops draw=>
    rw[exec] at h
    cases draw with
    | false=>
     simp only[Bool.false_eq_true,if_false] at h
     split at h
     ·rename_i t H hx
      cases h
      refine wpIn_region ?_
      have:=xrun_ok hex (Q:=Post P θ w .normal { a with tmps:=t,heap:=H }) r n ops.toList 0 _ _ _ _ θ w b (fun j=>by simp) hx hrel hat htm
       (fun θ' w' b' hs hr' ht' hd'=>⟨rfl,θ',hs,hr',ht',by rw[hd'];exact hmk.ext hs.ext⟩)
      rw[List.range_eq_range']
      simpa using this
     ·cases h
    | true=>
     simp only[if_true] at h
     split at h
     ·rename_i t H hx
      cases h
      obtain⟨pos,kind,sig,G,hp,hrun,hG0,hGn⟩:=xdraw_run hx
      refine region_draw_ok hex hmix hp hrun hat r n (by rw[hG0];exact hrel) htm (fun θ' b' w' hs hr' ht' hd'=>⟨rfl,θ',hs,by rw[← hGn];exact hr',ht',by rw[hd'];exact hmk.ext hs.ext⟩)
     ·cases h
   | rangeFunc f ps assign body=>
    rw[exec] at h
    split at h
    ·rename_i d marks H1 hent
     split at h
     ·rename_i g args hcall
      split at h
      ·rename_i v0 H2 hx
       split at h
       ·rename_i rec hg2
        split at h
        ·cases h
        ·rename_i hbusy
         refine wpIn_rangeFunc (fun fn _=>?_)
         -- the loop's block for deferred calls, the record
         have enter : ∃ (θ1 : Th) (w1 : World) (mark : List Deferred) (dd : Pl),Stp θ w θ1 w1∧Rel P θ1 H1 w1∧θ1 d=some dd∧MarksR θ1 marks (mark++b.defers) ∧
           (Instr.enterLoop fn b.tmps ps assign body r).run P w=.ok (w1.heap.size,mark) (w1.alloc (.loop { state:=.ready,pending:=none,fn,tmps:=b.tmps,params:=ps,assign,body,defers:=dd.blk })):=by
          cases hrn with
          | none=>
           simp only[xenter] at hent;cases hent
           obtain⟨q1,q2⟩:=hrel.alloc (.deferred true) (.deferred (some [])) { blk:=w.heap.size,base:=0,sz:=0,st:=0,rw:=true } rfl rfl ⟨alloc_at _ _,rfl⟩
           refine⟨_,_,[{ target:=.collected w.heap.size,args:=#[] }],_,q2,q1,Th.put_same _ _ _,.cons (p:={ blk:=w.heap.size,base:=0,sz:=0,st:=0,rw:=true }) (Th.put_same _ _ _) (hmk.ext q2.ext),?_⟩
           rw[run_enterLoop_outer]
           simp
          | some hl=>
           rename_i l p
           simp only[xenter] at hent
           split at hent
           ·rename_i r0 hr0
            cases hent
            obtain⟨p',hp',_,r',g1,g2,g3,g4,g5,g6,g7,pd,g8,g9⟩:=hrel.loopAt hr0
            rw[hl] at hp';cases hp'
            refine⟨θ,w,[],pd,Stp.refl _ _,hrel,g8,hmk,?_⟩
            simp only[Instr.enterLoop,Sem.run_bind,run_getLoop g1,Result.andThen_ok,Sem.run_pure,run_newObj_alloc,g9]
           ·cases hent
         obtain⟨θ1,w1,mark,dd,hs1,hr1,hdd,hmk1,hrun1⟩:=enter
         -- the record, laid
         have hle : Ext θ1 (θ1.put H1.next { blk:=w1.heap.size,base:=0,sz:=0,st:=0,rw:=true }):=Th.ext_put hr1.fresh
         obtain⟨hr2,hs2⟩:=hr1.alloc (.loop { state:=.ready,pending:=none,fn:=0,tmps:=a.tmps,params:=ps,assign,body,defers:=d })
          (.loop { state:=.ready,pending:=none,fn,tmps:=b.tmps,params:=ps,assign,body,defers:=dd.blk }) { blk:=w1.heap.size,base:=0,sz:=0,st:=0,rw:=true } rfl rfl
          ⟨_,alloc_at _ _,rfl,rfl,rfl,(htm.ext hs1.ext).ext hle,rfl,rfl,rfl,dd,hle _ _ hdd,rfl⟩
         have hs12:=hs1.trans hs2
         -- the function that is called
         have hfv:=(ev_rel hat htm f).ext hs12.ext
         unfold xrangeCall at hcall
         split at hcall
         ·rename_i g' first cap hf
          cases hcall
          rw[hf] at hfv
          generalize hbf : b.eval f=fv at hfv
          cases hfv with
          | func hfn a1 a2 a3 a4=>
           rename_i f' first' cap'
           cases hfn with
           | same _ hno=>
            have hy : AR (θ1.put H1.next { blk:=w1.heap.size,base:=0,sz:=0,st:=0,rw:=true }) #[.func (.yield H1.next) #[] #[]] #[.func (.yield w1.heap.size) #[] #[]]:=
             AR.one (.func (.yield (p:={ blk:=w1.heap.size,base:=0,sz:=0,st:=0,rw:=true }) (Th.put_same _ _ _)) rfl AR.nil.2 rfl AR.nil.2)
            have hargs:=(AR.append (AR.append ⟨a1,a2⟩ hy) ⟨a3,a4⟩)
            obtain⟨hc,fn',hfn',hbody',hname'⟩:=xcall_ok hex hx hr2 (hat.stp hs12) hargs r (n-1)
            obtain⟨cb,hcb⟩:=Option.isSome_iff_exists.1 hbody'
            have hname2 : ¬ fn'.name = "runtime.NumGoroutine" := by simpa using hname'
            refine⟨w1.heap.size,mark,w1.alloc (.loop { state:=.ready,pending:=none,fn,tmps:=b.tmps,params:=ps,assign,body,defers:=dd.blk }),{ target:=.fn (.func g) cap',args:=first'++#[.func (.yield w1.heap.size) #[] #[]] },
             w1.alloc (.loop { state:=.ready,pending:=none,fn,tmps:=b.tmps,params:=ps,assign,body,defers:=dd.blk }),g,first'++#[.func (.yield w1.heap.size) #[] #[]]++cap',
             w1.alloc (.loop { state:=.ready,pending:=none,fn,tmps:=b.tmps,params:=ps,assign,body,defers:=dd.blk }),hrun1,?_,fun _ _=>trivial,?_,FW_depth r n,?_⟩
            ·have hm1 : Array.map b.eval #[Operand.const (Value.func (Fn.yield w1.heap.size) #[] #[])]=#[Value.func (Fn.yield w1.heap.size) #[] #[]]:=by simp[Act.eval]
             simp only[resolve,hbf,Deferred.ofValue,hm1,Sem.run_pure]
            ·simp[invoke,callFunc,hfn',hname2,hcb]
            ·refine hc.mono ?_
             rintro e2 w3 ⟨v',θ3,rfl,hs3,hr3,hv3⟩
             obtain⟨p3,hp3,hrw3,rec3,k1,k2,k3,k4⟩:=hr3.loopAt hg2
             have hp3':=hs3.ext _ _ (Th.put_same θ1 H1.next { blk:=w1.heap.size,base:=0,sz:=0,st:=0,rw:=true })
             rw[hp3] at hp3';cases hp3'
             obtain⟨z1,z2⟩:=hr3.setLoop hg2 hp3 k1 .exhausted rec3.pending
             rw[show ({ rec with state:=LoopState.exhausted,pending:=rec3.pending } : Loop)={ rec with state:=.exhausted } by rw[k3]] at z1
             have hend:=run_endLoop (P:=P) k1 (by rw[k2];exact hbusy)
             have hW : ∃ W,W=w3.putObj w1.heap.size (.loop { rec3 with state:=.exhausted,pending:=rec3.pending }):=⟨_,rfl⟩
             obtain⟨W,hW⟩:=hW
             have hend : (Instr.endLoop w1.heap.size).run P w3=.ok rec3.pending W:=by rw[hW];exact hend
             have z1 : Rel P θ3 (H2.set H1.next (.loop { rec with state:=.exhausted })) W:=by rw[hW];exact z1
             have z2 : Stp θ3 w3 θ3 W:=by rw[hW];exact z2
             have hall:=hs12.trans (hs3.trans z2)
             have hasr : ASR P θ3 { tmps:=a.tmps,marks:=marks,heap:=H2.set H1.next (.loop { rec with state:=.exhausted }) } { tmps:=b.tmps,defers:=mark++b.defers } W:=
              ⟨z1,htm.ext hall.ext,hmk1.ext (hle.trans hs3.ext)⟩
             refine⟨_,_,hend,?_⟩
             rw[k3]
             split at h
             ·rename_i hpend
              cases h
              rw[hpend] at hasr ⊢
              exact⟨rfl,θ3,hall,hasr⟩
             ·rename_i c hpend
              rw[hpend]
              exact wpIn_mono (hex _ _ _ _ _ h θ3 _ _ r n hasr (hat.stp hall) (hrn.ext hall.ext)) (fun _ _ _ hp=>hp.trans hall)
         ·cases hcall
       ·cases h
      ·cases h
     ·cases h
    ·cases h
end
end Go.Xe
