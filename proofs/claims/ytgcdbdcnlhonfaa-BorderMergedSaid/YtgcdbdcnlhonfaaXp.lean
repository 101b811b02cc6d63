/- An executable reading of the model's code over an abstract heap (part 15): what the run in the plan's order says. Conditions: none. -/
import Derived.Test.YtgcdbdcnlhonfaaXn
import Derived.LoopNIn
namespace Go.Xe
open Go
section
variable {P : Program} [Gl P] [Orc P] {ex : Ex} {ops : Array Oper}
theorem xwanted_congr {t T : Array Value} {o : Oper} (h : ∀ g want,o.guard=some (g,want)→∀ (o' : Oper),ops[g]?=some o'→∀ d,o'.dst=some d→T[d]?=t[d]?) : xwanted ops T o=xwanted ops t o:=by
 unfold xwanted
 cases hg : o.guard with
 | none=>rfl
 | some gw=>
  obtain⟨g,want⟩:=gw
  simp only
  cases ho : ops[g]? with
  | none=>rfl
  | some o'=>
   simp only[Option.bind_some]
   cases hd : o'.dst with
   | none=>rfl
   | some d=>simp only[Option.bind_some,h g want hg o' ho d hd]
theorem xdraw_run {t T : Array Value} {H H' : Heap} (h : xdraw P ex ops t H=some (T,H')) :
  ∃ (pos kind sig : Nat→Nat) (G : Nat→Heap),PlanP ops pos kind sig∧RunP P ex ops pos kind sig t T G∧G 0=H∧G ops.size=H':=by
 unfold xdraw at h
 split at h
 ·rename_i hok
  generalize hpl : mkPlan ops=pl at h hok
  obtain⟨hp,hlen,hchk⟩:=planOk_p hok
  split at h
  ·rename_i T' Gs hs
   split at h
   ·rename_i hdyn
    cases h
    obtain⟨s1,s2,s3⟩:=xsteps_size hs
    have hG : ∀ j,j≤ops.size→∃ tj,xsteps P ex ops (pl.sig.drop j) tj (Gs.getD j H)=some (T,Gs.drop j)∧∀ d,(∀ k∈pl.sig.take j,∀ o,ops[k]?=some o→o.dst≠some d)→tj[d]?=t[d]?:=by
     intro j hj
     obtain⟨tj,Hj,h1,h2,h3⟩:=xsteps_at hs j (by omega)
     exact⟨tj,by rw[List.getD_eq_getElem?_getD,h2];exact h1,h3⟩
    have hsg : ∀ j,j<ops.size→pl.sig[j]?=some (pl.s j):=by
     intro j hj
     have : j<pl.sig.length:=by omega
     rw[List.getElem?_eq_getElem this,Plan.s,List.getD_eq_getElem?_getD,List.getElem?_eq_getElem this];rfl
    have hdrop : ∀ j,j<ops.size→pl.sig.drop j=pl.s j::pl.sig.drop (j+1):=by
     intro j hj
     have hlt : j<pl.sig.length:=by omega
     rw[List.drop_eq_getElem_cons hlt]
     congr 1
     have:=hsg j hj
     rw[List.getElem?_eq_getElem hlt] at this
     exact Option.some.inj this
    have hmem : ∀ j k,k∈pl.sig.drop j→∃ i,j≤i∧i<ops.size∧pl.s i=k:=by
     intro j k hk
     obtain⟨i,hi⟩:=List.getElem?_of_mem hk
     rw[List.getElem?_drop] at hi
     have hlt:=(List.getElem?_eq_some_iff.1 hi).1
     refine⟨j+i,by omega,by omega,?_⟩
     have:=hsg (j+i) (by omega)
     rw[hi] at this
     exact (Option.some.inj this).symm
    have hlt : ∀ {k : Nat} {o : Oper},ops[k]?=some o→k<ops.size:=fun h=>(Array.getElem?_eq_some_iff.1 h).1
    -- what no later step writes
    have hkeep : ∀ j d tj Hj,xsteps P ex ops (pl.sig.drop j) tj Hj=some (T,Gs.drop j)→(∀ k o,ops[k]?=some o→o.dst=some d→pl.p k<j)→T[d]?=tj[d]?:=by
     intro j d tj Hj hx hw
     refine xsteps_keep hx d (fun k hk o ho hd=>?_)
     obtain⟨i,h1,h2,h3⟩:=hmem j k hk
     have:=hw k o ho hd
     rw[← h3,(hp.ps i h2).2] at this
     omega
    have hrun : ∀ j,j<ops.size→∀ (o : Oper),ops[pl.s j]?=some o →
      (xwanted ops T o=some true∧∃ v,xopv P ex (evk P ops pl.p t T (pl.s j)) o.op (Gs.getD j H)=some (v,Gs.getD (j+1) H)∧∀ d,o.dst=some d→d<T.size→T[d]?=some v) ∨
      (xwanted ops T o=some false∧Gs.getD (j+1) H=Gs.getD j H∧∀ d,o.dst=some d→d<T.size→T[d]?=some undef):=by
     intro j hj o ho
     obtain⟨tj,hx,hpre0⟩:=hG j (by omega)
     have hpre : ∀ d,(∀ k o,ops[k]?=some o→o.dst=some d→j≤pl.p k)→tj[d]?=t[d]?:=by
      intro d hd
      refine hpre0 d (fun k hk ok hok hkd=>?_)
      obtain⟨i,hi⟩:=List.getElem?_of_mem hk
      rw[List.getElem?_take] at hi
      split at hi
      ·rename_i hij
       have hlt:=(List.getElem?_eq_some_iff.1 hi).1
       have:=hsg i (by omega)
       rw[hi] at this
       have e : k=pl.s i:=Option.some.inj this
       have:=hd k ok hok hkd
       rw[e,(hp.ps i (by omega)).2] at this
       omega
      ·cases hi
     have hx0:=hx
     rw[hdrop j hj] at hx
     have hks:=(hp.ps j hj).2
     have hsz : T.size=tj.size:=(xsteps_size hx0).1
     -- the operands and the guard are as at the end
     have hop : ∀ x∈o.op.operands,evk P ops pl.p t T (pl.s j) x=ev P tj x:=by
      intro x hx'
      cases x with
      | tmp t'=>
       have ht : t'∈opTmps o.op:=List.mem_filterMap.2 ⟨.tmp t',Array.mem_toList_iff.2 hx',rfl⟩
       show (if late ops pl.p (pl.s j) t' then t.getD t' undef else T.getD t' undef)=tj.getD t' undef
       by_cases hl : late ops pl.p (pl.s j) t'=true
       ·rw[if_pos hl]
        obtain⟨k,ok,hk,hkd,hkp⟩:=late_true hl
        have:=hpre t' (fun k2 ok2 hk2 hkd2=>by
         have e : k2=k:=hp.dst k2 k ok2 ok t' hk2 hk hkd2 hkd
         subst e;omega)
        simp only[Array.getD_eq_getD_getElem?,this]
       ·rw[if_neg hl]
        have:=hkeep j t' tj _ hx0 (fun k ok hk hd=>by
         rcases hp.opd _ o ho t' ht k ok hk hd with h1|⟨h1,_⟩
         ·have:=h1.2.1;omega
         ·exact absurd (late_of hk hd h1) hl)
        simp only[Array.getD_eq_getD_getElem?,this]
      | _=>rfl
     have hw : xwanted ops T o=xwanted ops tj o:=xwanted_congr (fun g want hg o' ho' d hd=>hkeep j d tj _ hx0 (fun k ok hk hkd=>by
      have e : k=g:=hp.dst k g ok o' d hk ho' hkd hd
      subst e
      have:=(hp.gd _ o k want ho hg o' ho').2.1;omega))
     have hput : ∀ v tj1 H1,xsteps P ex ops (pl.sig.drop (j+1)) tj1 H1=some (T,Gs.drop (j+1))→tj1=put tj o.dst v→∀ d,o.dst=some d→d<T.size→T[d]?=some v:=by
      intro v tj1 H1 h1 h2 d hd hlt'
      rw[hkeep (j+1) d tj1 H1 h1 (fun k ok hk hkd=>by
       have e : k=pl.s j:=hp.dst k _ ok o d hk ho hkd hd
       rw[e,hks];omega),h2]
      simp only[hd,put]
      rw[Array.getElem?_setIfInBounds_self_of_lt (by rw[← hsz];exact hlt')]
     have hGd : ∀ {H1 : Heap} {Gs1 : List Heap} {tj1 : Array Value},xsteps P ex ops (pl.sig.drop (j+1)) tj1 H1=some (T,Gs1)→Gs.drop j=Gs.getD j H::Gs1→Gs1=Gs.drop (j+1)∧Gs.getD (j+1) H=H1:=by
      intro H1 Gs1 tj1 h1 h2
      have e : Gs1=Gs.drop (j+1):=by
       have:=congrArg (List.drop 1) h2
       simp only[List.drop_drop,List.drop_succ_cons,List.drop_zero] at this
       rw[← this,Nat.add_comm]
      refine⟨e,?_⟩
      have:=(xsteps_size h1).2.2
      rw[e,List.getElem?_drop] at this
      rw[List.getD_eq_getElem?_getD,show j+1=j+1+0 from rfl,this];rfl
     simp only[xsteps,ho] at hx
     split at hx
     ·rename_i hwt
      split at hx
      ·rename_i v H1 hv
       split at hx
       ·rename_i T1 Gs1 hs1
        simp only[Option.some.injEq,Prod.mk.injEq] at hx
        obtain⟨rfl,hx2⟩:=hx
        obtain⟨e1,e2⟩:=hGd hs1 hx2.symm
        subst e1
        refine .inl ⟨hw.trans hwt,v,?_,hput v _ _ hs1 rfl⟩
        rw[xopv_congr hop,e2];exact hv
       ·cases hx
      ·cases hx
     ·rename_i hwt
      split at hx
      ·rename_i T1 Gs1 hs1
       simp only[Option.some.injEq,Prod.mk.injEq] at hx
       obtain⟨rfl,hx2⟩:=hx
       obtain⟨e1,e2⟩:=hGd hs1 hx2.symm
       subst e1
       exact .inr ⟨hw.trans hwt,e2,hput undef _ _ hs1 rfl⟩
      ·cases hx
     ·cases hx
    have dyn : ∀ {k : Nat} {o : Oper},ops[k]?=some o→_:=fun {k o} ho=>by
     have:=allB_at hdyn (hlt ho)
     rw[ho] at this
     have hpk:=(hp.sp k (hlt ho)).1
     have l1 : Gs[pl.p k]?=some (Gs.getD (pl.p k) H):=by
      rw[List.getD_eq_getElem?_getD,List.getElem?_eq_getElem (by omega)];rfl
     have l2 : Gs[pl.p k+1]?=some (Gs.getD (pl.p k+1) H):=by
      rw[List.getD_eq_getElem?_getD,List.getElem?_eq_getElem (by omega)];rfl
     rw[l1,l2] at this
     simp only[Bool.and_eq_true] at this
     exact this
    have hclean : ∀ j,j<ops.size→pl.k (pl.s j)=0→Gs.getD (j+1) H=Gs.getD j H:=by
     intro j hj hk
     have hsj:=(hp.ps j hj).1
     have ho : ops[pl.s j]?=some ops[pl.s j]:=Array.getElem?_eq_getElem hsj
     rcases hrun j hj _ ho with⟨hw,v,hx,_⟩|⟨_,hG',_⟩
     ·have hlight:=hp.k0 _ _ ho hk
      unfold xopv at hx
      split at hx
      ·rename_i heq;rw[heq] at hlight;simp[lightOp] at hlight
      ·exact light_heap hlight hx
     ·exact hG'
    have hstill : ∀ k q,k<ops.size→still pl.p pl.k pl.s k q=true→Gs.getD (pl.p k) H=Gs.getD q H:=by
     intro k q hk hst
     simp only[still,Bool.and_eq_true,decide_eq_true_eq,List.all_eq_true,List.mem_range,beq_iff_eq] at hst
     obtain⟨h1,h2⟩:=hst
     have hpk:=(hp.sp k hk).1
     have : ∀ d,d≤pl.p k-q→Gs.getD (q+d) H=Gs.getD q H:=by
      intro d
      induction d with
      | zero=>intro _;rfl
      | succ d ih=>
       intro hd
       rw[show q+(d+1)=q+d+1 by omega,hclean (q+d) (by omega) (h2 d (by omega))]
       exact ih (by omega)
     have:=this (pl.p k-q) (Nat.le_refl _)
     rw[show q+(pl.p k-q)=pl.p k by omega] at this
     exact this
    refine⟨pl.p,pl.k,pl.s,fun j=>Gs.getD j H,hp,⟨s1,hrun,?_,?_,?_,?_,?_⟩,?_,rfl⟩
    ·intro t' hno
     exact xsteps_keep hs t' (fun k _ o ho=>hno k o ho)
    ·intro j hj
     have hsj:=(hp.ps j hj).1
     have ho : ops[pl.s j]?=some ops[pl.s j]:=Array.getElem?_eq_getElem hsj
     have:=(dyn ho).1
     rw[(hp.ps j hj).2] at this
     simpa using this
    ·intro k o ho hk hw q hq hst hal1 hal2
     have hkn:=hlt ho
     have hpk:=(hp.sp k hkn)
     have hval : ∃ v,xop P (Gs.getD (pl.p k) H) (evk P ops pl.p t T k) o.op=some (v,Gs.getD (pl.p k) H)∧∀ d,o.dst=some d→d<T.size→T[d]?=some v:=by
      rcases hrun (pl.p k) hpk.1 o (by rw[hpk.2];exact ho) with⟨_,v,hx,hd⟩|⟨hw',_,_⟩
      ·have hlight:=hp.k0 _ _ ho hk
       rw[hpk.2] at hx
       have hx' : xop P (Gs.getD (pl.p k) H) (evk P ops pl.p t T k) o.op=some (v,Gs.getD (pl.p k+1) H):=by
        unfold xopv at hx
        split at hx
        ·rename_i heq;rw[heq] at hlight;simp[lightOp] at hlight
        ·exact hx
       rw[light_heap hlight hx'] at hx'
       exact⟨v,hx',hd⟩
      ·rw[hw] at hw';cases hw'
     obtain⟨v,hx,hd⟩:=hval
     rcases hchk k o ho hk with hf|hall
     ·exact⟨v,free_heap hf hx,hd⟩
     ·have hqs : q∈stopsOf ops pl.p pl.k:=by
       unfold stopsOf
       rcases hst with rfl|⟨b,h1,h2,rfl⟩
       ·simp
       ·refine List.mem_cons_of_mem _ (List.mem_map.2 ⟨b,List.mem_filter.2 ⟨List.mem_range.2 h1,by simp[h2]⟩,rfl⟩)
      have hal : allowed ops pl.p pl.k k q=true:=by
       unfold allowed allB
       rw[List.all_eq_true]
       intro j hj
       have hj':=List.mem_range.1 hj
       by_cases hk2 : pl.k j=2
       ·have a1:=hal1 j hj' hk2
        have a2:=hal2 j hj' hk2
        cases hr1 : reach ops ops.size k j with
        | false=>
         by_cases hlt2 : pl.p j<q
         ·simp[hk2,hlt2,a2 hlt2]
         ·simp[hk2,hlt2]
        | true=>
         have hlt2:=a1 hr1
         simp[hk2,hlt2,a2 hlt2]
       ·simp[hk2]
      rcases hall q hqs hal with hsl|hc
      ·exact⟨v,by rw[← hstill k q hkn hsl];exact hx,hd⟩
      ·have hmem' : q∈pl.chk.getD k []:=by simpa using hc
       have:=(dyn ho).2
       rw[hk] at this
       simp only at this
       have:=List.all_eq_true.1 this q hmem'
       have l1 : Gs[q]?=some (Gs.getD q H):=by
        rw[List.getD_eq_getElem?_getD,List.getElem?_eq_getElem (by omega)];rfl
       rw[hw,l1] at this
       simp only[checkRead] at this
       split at this
       ·rename_i v2 H2 hx2
        have hlight:=hp.k0 _ _ ho hk
        have e:=light_heap hlight hx2
        rw[e] at hx2
        refine⟨v2,hx2,fun d hdd hdl=>?_⟩
        rw[hdd] at this
        simp only at this
        have hv2:=vEq_eq this
        rw[← hv2]
        rw[Array.getD_eq_getD_getElem?,Array.getElem?_eq_getElem hdl];rfl
       ·cases this
    ·intro k o ho hk hw d v hd hv
     have:=(dyn ho).2
     rw[hk] at this
     simp only[hw,hd,Bool.and_eq_true] at this
     have:=this.1
     rw[Array.getD_eq_getD_getElem?,hv] at this
     exact this
    ·intro k o c el ho hk hw hn hG'
     have:=(dyn ho).2
     rw[hk] at this
     simp only[hw,hn,Bool.not_true,Bool.false_or,Bool.and_eq_true] at this
     have:=this.2
     rw[hG'] at this
     have hc : ((Gs.getD (pl.p k) H).alloc (.cells c el true)).cellsAt (Gs.getD (pl.p k) H).next=some (c,el,true):=by
      unfold Heap.cellsAt
      rw[Heap.get_alloc];simp
     rw[hc] at this
     exact this
    ·show Gs.getD 0 H=H
     rw[List.getD_eq_getElem?_getD,s3];rfl
   ·cases h
  ·cases h
 ·cases h
end
end Go.Xe
/- An executable reading of the model's code over an abstract heap (part 16): code, and that what it comes to is what the model's machine comes to. Conditions: the program follows the mixed orders. -/
namespace Go.Xe
open Go
def xrangeCall (f : Value) (l : Nat) : Option (FuncId×Array Value):=
 match f with
 | .func (.func g) first cap=>some (g,first++#[.func (.yield l) #[] #[]]++cap)
 | _=>none
def xenter (rnd : Option Nat) (marks : List Nat) (H : Heap) : Option (Nat×List Nat×Heap):=
 match rnd with
 | none=>some (H.next,H.next::marks,H.alloc (.deferred true))
 | some l=>match H.get l with
  | some (.loop r)=>some (r.defers,marks,H)
  | _=>none
def exec (P : Program) [Gl P] [Orc P] : Nat→Option Nat→Code→AS→Option (XE×AS)
 | 0,_,_,_=>none
 | _+1,_,.skip,a=>some (.normal,a)
 | _+1,_,.label _,a=>some (.normal,a)
 | _+1,_,.exit id,a=>some (.exit id,a)
 | _+1,_,.ret,a=>some (.ret,a)
 | _+1,_,.goto _,_=>none
 | _+1,_,.refuse _,_=>none
 | n+1,rnd,.seq x y,a=>match exec P n rnd x a with
  | some (.normal,a1)=>exec P n rnd y a1
  | r=>r
 | n+1,rnd,.cond c x y,a=>match ev P a.tmps c with
  | .bool t=>exec P n rnd (if t then x else y) a
  | _=>none
 | n+1,rnd,.block id body,a=>match exec P n rnd body a with
  | some (.exit id',a1)=>if id'=id then some (.normal,a1) else some (.exit id',a1)
  | r=>r
 | n+1,rnd,.scope body,a=>exec P n rnd body a
 | n+1,rnd,.loop body,a=>match exec P n rnd body a with
  | some (.normal,a1)=>exec P n rnd (.loop body) a1
  | r=>r
 | n+1,_,.region _ ops draw,a=>
  if draw then
   match xdraw P (exec P n) ops a.tmps a.heap with
   | some (t,H)=>some (.normal,{ a with tmps:=t,heap:=H })
   | none=>none
  else match xrun P (exec P n) ops ops.toList a.tmps a.heap with
   | some (t,H)=>some (.normal,{ a with tmps:=t,heap:=H })
   | none=>none
 | n+1,rnd,.rangeFunc f ps assign body,a=>match xenter rnd a.marks a.heap with
  | some (d,marks,H1)=>
   match xrangeCall (ev P a.tmps f) H1.next with
   | some (g,args)=>
    match xcall P (exec P n) g args (H1.alloc (.loop { state:=.ready,pending:=none,fn:=0,tmps:=a.tmps,params:=ps,assign,body,defers:=d })) with
    | some (_,H2)=>match H2.get H1.next with
     | some (.loop r)=>
      if r.state=.busy then none
      else match r.pending with
       | none=>some (.normal,{ tmps:=a.tmps,marks,heap:=H2.set H1.next (.loop { r with state:=.exhausted }) })
       | some c=>exec P n rnd c { tmps:=a.tmps,marks,heap:=H2.set H1.next (.loop { r with state:=.exhausted }) }
     | _=>none
    | none=>none
   | none=>none
  | none=>none
section
variable {P : Program} [Gl P] [Orc P]
theorem wpIn_scope {P : Program} {F : Fence} {n : Nat} {Q : Exit→Act→World→Prop} {a : Act} {w : World} {c : Code}
  (h : c.wpIn F n P Q a w) (hg : ∀ l a w,¬ Q (.goto l) a w) : (Code.scope c).wpIn F n P Q a w:=by
 intro b k cs hro hb hr
 have h0 : (lone (b.atR a (.code (.scope c)::k)) cs w).fenced P F:=fenced_calm hb hr rfl
 have s0 : step P (lone (b.atR a (.code (.scope c)::k)) cs w)=.next (lone (b.atR a (.code c::.inScope c::k)) cs w):=step_lone_go (by simp[stepG,stepG.exec,Frame.atR])
 have sk : ∀ a w,step P (lone (b.atR a (.inScope c::k)) cs w)=.next (lone (b.atR a k) cs w):=fun a w=>step_lone_go (by simp[stepG,stepG.exec,Frame.atR])
 obtain⟨e,a₁,w₁,hq,harr⟩:=h b (.inScope c::k) cs hro hb hr
 cases e with
 | normal=>exact⟨.normal,a₁,w₁,hq,.head h0 s0 (StepsIn.trans harr (.one (fenced_calm hb hr rfl) (sk _ _)))⟩
 | exit id=>
  have hx : exitTo id (.inScope c::k)=exitTo id k:=by simp[exitTo]
  exact⟨.exit id,a₁,w₁,hq,fun k' hk=>.head h0 s0 (harr.1 k' (by rw[hx];exact hk)),
   fun hr' hk=>let ⟨k₁,h1,h2⟩:=harr.2 hr' (by rw[hx];exact hk);⟨k₁,h1,.head h0 s0 h2⟩⟩
 | goto l=>exact absurd hq (hg l _ _)
 | ret=>exact⟨_,a₁,w₁,hq,.of_steps (.one h0 s0) harr⟩
 | panic ch=>exact⟨_,a₁,w₁,hq,.of_steps (.one h0 s0) harr⟩
 | outgrown=>exact⟨_,a₁,w₁,hq,.of_steps (.one h0 s0) harr⟩
theorem rounds_mono {P : Program} {F : Fence} {n : Nat} {c : Code} {Q Q' : Exit→Act→World→Prop} (h : ∀ e a w,Q e a w→Q' e a w) : ∀ (m : Nat) (a : Act) (w : World),Code.roundsIn F n P c Q m a w→Code.roundsIn F n P c Q' m a w
 | 0,_,_,hr=>hr
 | m+1,a,w,hr=>wpIn_mono hr (fun e a w he=>by
   cases e with
   | normal=>exact rounds_mono h m a w he
   | exit id=>exact h _ _ _ he
   | goto l=>exact h _ _ _ he
   | ret=>exact h _ _ _ he
   | panic ch=>exact h _ _ _ he
   | outgrown=>exact h _ _ _ he)
theorem Post.trans {P : Program} {θ θ1 : Th} {w w1 : World} {e : XE} {a : AS} {e' : Exit} {b : Act} {w' : World} (hs : Stp θ w θ1 w1) (h : Post P θ1 w1 e a e' b w') : Post P θ w e a e' b w':=by
 obtain⟨h1,θ',h2,h3⟩:=h
 exact⟨h1,θ',hs.trans h2,h3⟩
theorem then_ok {P : Program} {θ : Th} {w : World} {e1 e : XE} {a1 a : AS} {c : Code} {r : Option Nat} {n : Nat} (h : e1=.normal→∀ θ1 w1 b1,Stp θ w θ1 w1→ASR P θ1 a1 b1 w1→c.wpIn (FW r) n P (Post P θ w e a) b1 w1) (h' : e1≠.normal→e=e1∧a=a1) :
  ∀ e' b' w',Post P θ w e1 a1 e' b' w'→Exit.then (c.wpIn (FW r) n P (Post P θ w e a)) (Post P θ w e a) e' b' w':=by
 rintro e' b' w' ⟨rfl,θ1,hs,ha⟩
 cases e1 with
 | normal=>exact h rfl θ1 w' b' hs ha
 | exit id=>obtain⟨rfl,rfl⟩:=h' (by simp);exact⟨rfl,θ1,hs,ha⟩
 | ret=>obtain⟨rfl,rfl⟩:=h' (by simp);exact⟨rfl,θ1,hs,ha⟩
theorem loop_ok : ∀ (N : Nat),(∀ M,M≤N→ExOk P (exec P M))→∀ rnd body a e a',exec P (N+1) rnd (.loop body) a=some (e,a')→∀ (θ : Th) (w : World) (b : Act) (r : Option Nat) (n : Nat),ASR P θ a b w→At P θ w→RndR θ rnd r →
  Code.roundsIn (FW r) n P body (Post P θ w e a') (N+1) b w:=by
 intro N
 induction N with
 | zero=>
  intro hex rnd body a e a' h
  simp[exec] at h
 | succ N ih=>
  intro hex rnd body a e a' h θ w b r n ha hat hrn
  rw[exec] at h
  split at h
  ·rename_i a1 h1
   have hb:=hex (N+1) (Nat.le_refl _) _ _ _ _ _ h1 θ w b r n ha hat hrn
   refine wpIn_mono hb ?_
   rintro e' b' w' ⟨rfl,θ1,hs,ha1⟩
   have:=ih (fun M hM=>hex M (by omega)) rnd body a1 e a' h θ1 w' b' r n ha1 (hat.stp hs) (hrn.ext hs.ext)
   exact rounds_mono (fun _ _ _ hp=>hp.trans hs) _ _ _ this
  ·rename_i r' hne
   obtain⟨e1,a1⟩ : XE×AS:=(e,a')
   have hb:=hex (N+1) (Nat.le_refl _) _ _ _ _ _ h θ w b r n ha hat hrn
   refine wpIn_mono hb ?_
   rintro e' b' w' ⟨rfl,θ1,hs,ha1⟩
   cases e with
   | normal=>exact absurd h (hne _)
   | exit id=>exact⟨rfl,θ1,hs,ha1⟩
   | ret=>exact⟨rfl,θ1,hs,ha1⟩
theorem cond_rel {θ : Th} {v v' : Value} (h : VR θ v v') {t : Bool} (hv : v=.bool t) : v'=.bool t:=by subst hv;cases h;rfl
theorem exec_ok (hmix : P.follows .mixedOrders=true) : ∀ (N : Nat),ExOk P (exec P N):=by
 intro N
 induction N using Nat.strongRecOn with
 | _ N ih=>
  cases N with
  | zero=>intro rnd c a e a' h;simp[exec] at h
  | succ N=>
   have hex : ExOk P (exec P N):=ih N (by omega)
   intro rnd c a e a' h θ w b r n ha hat hrn
   obtain⟨hrel,htm,hmk⟩:=ha
   have ha : ASR P θ a b w:=⟨hrel,htm,hmk⟩
   cases c with
   | skip=>rw[exec] at h;cases h;exact wpIn_skip ⟨rfl,θ,Stp.refl _ _,ha⟩
   | label l=>rw[exec] at h;cases h;exact wpIn_label ⟨rfl,θ,Stp.refl _ _,ha⟩
   | exit id=>rw[exec] at h;cases h;exact wpIn_exit ⟨rfl,θ,Stp.refl _ _,ha⟩
   | ret=>rw[exec] at h;cases h;exact wpIn_ret ⟨rfl,θ,Stp.refl _ _,ha⟩
   | goto l=>simp[exec] at h
   | refuse why=>simp[exec] at h
   | seq x y=>
    rw[exec] at h
    split at h
    ·rename_i a1 h1
     refine wpIn_seq (wpIn_mono (hex _ _ _ _ _ h1 θ w b r n ha hat hrn) (then_ok (fun _ θ1 w1 b1 hs ha1=>?_) (fun hn=>absurd rfl hn)))
     exact wpIn_mono (hex _ _ _ _ _ h θ1 w1 b1 r n ha1 (hat.stp hs) (hrn.ext hs.ext)) (fun _ _ _ hp=>hp.trans hs)
    ·rename_i hne
     refine wpIn_seq (wpIn_mono (hex _ _ _ _ _ h θ w b r n ha hat hrn) (then_ok (fun he=>?_) (fun _=>⟨rfl,rfl⟩)))
     subst he;exact absurd h (hne _)
   | cond c x y=>
    rw[exec] at h
    split at h
    ·rename_i t ht
     have:=cond_rel (ev_rel hat htm c) ht
     exact wpIn_cond this (hex _ _ _ _ _ h θ w b r n ha hat hrn)
    ·cases h
   | block id body=>
    rw[exec] at h
    split at h
    ·rename_i id' a1 h1
     refine wpIn_block (wpIn_mono (hex _ _ _ _ _ h1 θ w b r n ha hat hrn) ?_)
     rintro e' b' w' ⟨rfl,θ1,hs,ha1⟩
     show (if id'=id then _ else _)
     split at h
     ·rename_i hid
      cases h
      rw[if_pos hid];exact⟨rfl,θ1,hs,ha1⟩
     ·rename_i hid
      cases h
      rw[if_neg hid];exact⟨rfl,θ1,hs,ha1⟩
    ·rename_i hne
     refine wpIn_block (wpIn_mono (hex _ _ _ _ _ h θ w b r n ha hat hrn) ?_)
     rintro e' b' w' ⟨rfl,θ1,hs,ha1⟩
     cases e with
     | normal=>exact⟨rfl,θ1,hs,ha1⟩
     | exit id=>exact absurd h (hne _ _)
     | ret=>exact⟨rfl,θ1,hs,ha1⟩
   | scope body=>
    rw[exec] at h
    refine wpIn_scope (hex _ _ _ _ _ h θ w b r n ha hat hrn) ?_
    rintro l b' w' ⟨he,_⟩
    cases e<;>cases he
   | loop body=>exact wpIn_loop_rounds _ (loop_ok N (fun M hM=>ih M (by omega)) _ _ _ _ _ h θ w b r n ha hat hrn)
   | region id ops draw=>
    rw[exec] at h
    cases draw with
    | false=>
     simp only[Bool.false_eq_true,if_false] at h
     split at h
     ·rename_i t H hx
      cases h
      refine wpIn_region ?_
      have:=xrun_ok hex (Q:=Post P θ w .normal { a with tmps:=t,heap:=H }) r n ops.toList 0 _ _ _ _ θ w b (fun j=>by simp) hx hrel hat htm
       (fun θ' w' b' hs hr' ht' hd'=>⟨rfl,θ',hs,hr',ht',by rw[hd'];exact hmk.ext hs.ext⟩)
      rw[List.range_eq_range']
      simpa using this
     ·cases h
    | true=>
     simp only[if_true] at h
     split at h
     ·rename_i t H hx
      cases h
      obtain⟨pos,kind,sig,G,hp,hrun,hG0,hGn⟩:=xdraw_run hx
      refine region_draw_ok hex hmix hp hrun hat r n (by rw[hG0];exact hrel) htm (fun θ' b' w' hs hr' ht' hd'=>⟨rfl,θ',hs,by rw[← hGn];exact hr',ht',by rw[hd'];exact hmk.ext hs.ext⟩)
     ·cases h
   | rangeFunc f ps assign body=>
    rw[exec] at h
    split at h
    ·rename_i d marks H1 hent
     split at h
     ·rename_i g args hcall
      split at h
      ·rename_i v0 H2 hx
       split at h
       ·rename_i rec hg2
        split at h
        ·cases h
        ·rename_i hbusy
         refine wpIn_rangeFunc (fun fn _=>?_)
         -- the loop's block for deferred calls, the record
         have enter : ∃ (θ1 : Th) (w1 : World) (mark : List Deferred) (dd : Pl),Stp θ w θ1 w1∧Rel P θ1 H1 w1∧θ1 d=some dd∧MarksR θ1 marks (mark++b.defers) ∧
           (Instr.enterLoop fn b.tmps ps assign body r).run P w=.ok (w1.heap.size,mark) (w1.alloc (.loop { state:=.ready,pending:=none,fn,tmps:=b.tmps,params:=ps,assign,body,defers:=dd.blk })):=by
          cases hrn with
          | none=>
           simp only[xenter] at hent;cases hent
           obtain⟨q1,q2⟩:=hrel.alloc (.deferred true) (.deferred (some [])) { blk:=w.heap.size,base:=0,sz:=0,st:=0,rw:=true } rfl rfl ⟨alloc_at _ _,rfl⟩
           refine⟨_,_,[{ target:=.collected w.heap.size,args:=#[] }],_,q2,q1,Th.put_same _ _ _,.cons (p:={ blk:=w.heap.size,base:=0,sz:=0,st:=0,rw:=true }) (Th.put_same _ _ _) (hmk.ext q2.ext),?_⟩
           rw[run_enterLoop_outer]
           simp
          | some hl=>
           rename_i l p
           simp only[xenter] at hent
           split at hent
           ·rename_i r0 hr0
            cases hent
            obtain⟨p',hp',_,r',g1,g2,g3,g4,g5,g6,g7,pd,g8,g9⟩:=hrel.loopAt hr0
            rw[hl] at hp';cases hp'
            refine⟨θ,w,[],pd,Stp.refl _ _,hrel,g8,hmk,?_⟩
            simp only[Instr.enterLoop,Sem.run_bind,run_getLoop g1,Result.andThen_ok,Sem.run_pure,run_newObj_alloc,g9]
           ·cases hent
         obtain⟨θ1,w1,mark,dd,hs1,hr1,hdd,hmk1,hrun1⟩:=enter
         -- the record, laid
         have hle : Ext θ1 (θ1.put H1.next { blk:=w1.heap.size,base:=0,sz:=0,st:=0,rw:=true }):=Th.ext_put hr1.fresh
         obtain⟨hr2,hs2⟩:=hr1.alloc (.loop { state:=.ready,pending:=none,fn:=0,tmps:=a.tmps,params:=ps,assign,body,defers:=d })
          (.loop { state:=.ready,pending:=none,fn,tmps:=b.tmps,params:=ps,assign,body,defers:=dd.blk }) { blk:=w1.heap.size,base:=0,sz:=0,st:=0,rw:=true } rfl rfl
          ⟨_,alloc_at _ _,rfl,rfl,rfl,(htm.ext hs1.ext).ext hle,rfl,rfl,rfl,dd,hle _ _ hdd,rfl⟩
         have hs12:=hs1.trans hs2
         -- the function that is called
         have hfv:=(ev_rel hat htm f).ext hs12.ext
         unfold xrangeCall at hcall
         split at hcall
         ·rename_i g' first cap hf
          cases hcall
          rw[hf] at hfv
          generalize hbf : b.eval f=fv at hfv
          cases hfv with
          | func hfn a1 a2 a3 a4=>
           rename_i f' first' cap'
           cases hfn with
           | same _ hno=>
            have hy : AR (θ1.put H1.next { blk:=w1.heap.size,base:=0,sz:=0,st:=0,rw:=true }) #[.func (.yield H1.next) #[] #[]] #[.func (.yield w1.heap.size) #[] #[]]:=
             AR.one (.func (.yield (p:={ blk:=w1.heap.size,base:=0,sz:=0,st:=0,rw:=true }) (Th.put_same _ _ _)) rfl AR.nil.2 rfl AR.nil.2)
            have hargs:=(AR.append (AR.append ⟨a1,a2⟩ hy) ⟨a3,a4⟩)
            obtain⟨hc,fn',hfn',hbody',hname'⟩:=xcall_ok hex hx hr2 (hat.stp hs12) hargs r (n-1)
            obtain⟨cb,hcb⟩:=Option.isSome_iff_exists.1 hbody'
            have hname2 : ¬ fn'.name = "runtime.NumGoroutine" := by simpa using hname'
            refine⟨w1.heap.size,mark,w1.alloc (.loop { state:=.ready,pending:=none,fn,tmps:=b.tmps,params:=ps,assign,body,defers:=dd.blk }),{ target:=.fn (.func g) cap',args:=first'++#[.func (.yield w1.heap.size) #[] #[]] },
             w1.alloc (.loop { state:=.ready,pending:=none,fn,tmps:=b.tmps,params:=ps,assign,body,defers:=dd.blk }),g,first'++#[.func (.yield w1.heap.size) #[] #[]]++cap',
             w1.alloc (.loop { state:=.ready,pending:=none,fn,tmps:=b.tmps,params:=ps,assign,body,defers:=dd.blk }),hrun1,?_,fun _ _=>trivial,?_,FW_depth r n,?_⟩
            ·have hm1 : Array.map b.eval #[Operand.const (Value.func (Fn.yield w1.heap.size) #[] #[])]=#[Value.func (Fn.yield w1.heap.size) #[] #[]]:=by simp[Act.eval]
             simp only[resolve,hbf,Deferred.ofValue,hm1,Sem.run_pure]
            ·simp[invoke,callFunc,hfn',hname2,hcb]
            ·refine hc.mono ?_
             rintro e2 w3 ⟨v',θ3,rfl,hs3,hr3,hv3⟩
             obtain⟨p3,hp3,hrw3,rec3,k1,k2,k3,k4⟩:=hr3.loopAt hg2
             have hp3':=hs3.ext _ _ (Th.put_same θ1 H1.next { blk:=w1.heap.size,base:=0,sz:=0,st:=0,rw:=true })
             rw[hp3] at hp3';cases hp3'
             obtain⟨z1,z2⟩:=hr3.setLoop hg2 hp3 k1 .exhausted rec3.pending
             rw[show ({ rec with state:=LoopState.exhausted,pending:=rec3.pending } : Loop)={ rec with state:=.exhausted } by rw[k3]] at z1
             have hend:=run_endLoop (P:=P) k1 (by rw[k2];exact hbusy)
             have hW : ∃ W,W=w3.putObj w1.heap.size (.loop { rec3 with state:=.exhausted,pending:=rec3.pending }):=⟨_,rfl⟩
             obtain⟨W,hW⟩:=hW
             have hend : (Instr.endLoop w1.heap.size).run P w3=.ok rec3.pending W:=by rw[hW];exact hend
             have z1 : Rel P θ3 (H2.set H1.next (.loop { rec with state:=.exhausted })) W:=by rw[hW];exact z1
             have z2 : Stp θ3 w3 θ3 W:=by rw[hW];exact z2
             have hall:=hs12.trans (hs3.trans z2)
             have hasr : ASR P θ3 { tmps:=a.tmps,marks:=marks,heap:=H2.set H1.next (.loop { rec with state:=.exhausted }) } { tmps:=b.tmps,defers:=mark++b.defers } W:=
              ⟨z1,htm.ext hall.ext,hmk1.ext (hle.trans hs3.ext)⟩
             refine⟨_,_,hend,?_⟩
             rw[k3]
             split at h
             ·rename_i hpend
              cases h
              rw[hpend] at hasr ⊢
              exact⟨rfl,θ3,hall,hasr⟩
             ·rename_i c hpend
              rw[hpend]
              exact wpIn_mono (hex _ _ _ _ _ h θ3 _ _ r n hasr (hat.stp hall) (hrn.ext hall.ext)) (fun _ _ _ hp=>hp.trans hall)
         ·cases hcall
       ·cases h
      ·cases h
     ·cases h
    ·cases h
end
end Go.Xe
