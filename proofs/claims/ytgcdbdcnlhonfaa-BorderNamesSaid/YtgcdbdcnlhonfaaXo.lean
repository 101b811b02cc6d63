/- An executable reading of the model's code over an abstract heap (part 15): what the run in the plan's order says. Conditions: none. -/
import Derived.Test.YtgcdbdcnlhonfaaXn
namespace Go.Xe
open Go
section
variable {P : Program} [Gl P] [Orc P] {ex : Ex} {ops : Array Oper}
theorem xwanted_congr {t T : Array Value} {o : Oper} (h : ∀ g want,o.guard=some (g,want)→∀ (o' : Oper),ops[g]?=some o'→∀ d,o'.dst=some d→T[d]?=t[d]?) : xwanted ops T o=xwanted ops t o:=by
 unfold xwanted
 cases hg : o.guard with
 | none=>rfl
 | some gw=>
  obtain⟨g,want⟩:=gw
  simp only
  cases ho : ops[g]? with
  | none=>rfl
  | some o'=>
   simp only[Option.bind_some]
   cases hd : o'.dst with
   | none=>rfl
   | some d=>simp only[Option.bind_some,h g want hg o' ho d hd]
theorem xdraw_run {t T : Array Value} {H H' : Heap} (h : xdraw P ex ops t H=some (T,H')) :
  ∃ (pos kind sig : Nat→Nat) (G : Nat→Heap),PlanP ops pos kind sig∧RunP P ex ops pos kind sig t T G∧G 0=H∧G ops.size=H':=by
 unfold xdraw at h
 split at h
 ·rename_i hok
  generalize hpl : mkPlan ops=pl at h hok
  obtain⟨hp,hlen,hchk⟩:=planOk_p hok
  split at h
  ·rename_i T' Gs hs
   split at h
   ·rename_i hdyn
    cases h
    obtain⟨s1,s2,s3⟩:=xsteps_size hs
    have hG : ∀ j,j≤ops.size→∃ tj,xsteps P ex ops (pl.sig.drop j) tj (Gs.getD j H)=some (T,Gs.drop j)∧∀ d,(∀ k∈pl.sig.take j,∀ o,ops[k]?=some o→o.dst≠some d)→tj[d]?=t[d]?:=by
     intro j hj
     obtain⟨tj,Hj,h1,h2,h3⟩:=xsteps_at hs j (by omega)
     exact⟨tj,by rw[List.getD_eq_getElem?_getD,h2];exact h1,h3⟩
    have hsg : ∀ j,j<ops.size→pl.sig[j]?=some (pl.s j):=by
     intro j hj
     have : j<pl.sig.length:=by omega
     rw[List.getElem?_eq_getElem this,Plan.s,List.getD_eq_getElem?_getD,List.getElem?_eq_getElem this];rfl
    have hdrop : ∀ j,j<ops.size→pl.sig.drop j=pl.s j::pl.sig.drop (j+1):=by
     intro j hj
     have hlt : j<pl.sig.length:=by omega
     rw[List.drop_eq_getElem_cons hlt]
     congr 1
     have:=hsg j hj
     rw[List.getElem?_eq_getElem hlt] at this
     exact Option.some.inj this
    have hmem : ∀ j k,k∈pl.sig.drop j→∃ i,j≤i∧i<ops.size∧pl.s i=k:=by
     intro j k hk
     obtain⟨i,hi⟩:=List.getElem?_of_mem hk
     rw[List.getElem?_drop] at hi
     have hlt:=(List.getElem?_eq_some_iff.1 hi).1
     refine⟨j+i,by omega,by omega,?_⟩
     have:=hsg (j+i) (by omega)
     rw[hi] at this
     exact (Option.some.inj this).symm
    have hlt : ∀ {k : Nat} {o : Oper},ops[k]?=some o→k<ops.size:=fun h=>(Array.getElem?_eq_some_iff.1 h).1
    -- what no later step writes
    have hkeep : ∀ j d tj Hj,xsteps P ex ops (pl.sig.drop j) tj Hj=some (T,Gs.drop j)→(∀ k o,ops[k]?=some o→o.dst=some d→pl.p k<j)→T[d]?=tj[d]?:=by
     intro j d tj Hj hx hw
     refine xsteps_keep hx d (fun k hk o ho hd=>?_)
     obtain⟨i,h1,h2,h3⟩:=hmem j k hk
     have:=hw k o ho hd
     rw[← h3,(hp.ps i h2).2] at this
     omega
    have hrun : ∀ j,j<ops.size→∀ (o : Oper),ops[pl.s j]?=some o →
      (xwanted ops T o=some true∧∃ v,xopv P ex (evk P ops pl.p t T (pl.s j)) o.op (Gs.getD j H)=some (v,Gs.getD (j+1) H)∧∀ d,o.dst=some d→d<T.size→T[d]?=some v) ∨
      (xwanted ops T o=some false∧Gs.getD (j+1) H=Gs.getD j H∧∀ d,o.dst=some d→d<T.size→T[d]?=some undef):=by
     intro j hj o ho
     obtain⟨tj,hx,hpre0⟩:=hG j (by omega)
     have hpre : ∀ d,(∀ k o,ops[k]?=some o→o.dst=some d→j≤pl.p k)→tj[d]?=t[d]?:=by
      intro d hd
      refine hpre0 d (fun k hk ok hok hkd=>?_)
      obtain⟨i,hi⟩:=List.getElem?_of_mem hk
      rw[List.getElem?_take] at hi
      split at hi
      ·rename_i hij
       have hlt:=(List.getElem?_eq_some_iff.1 hi).1
       have:=hsg i (by omega)
       rw[hi] at this
       have e : k=pl.s i:=Option.some.inj this
       have:=hd k ok hok hkd
       rw[e,(hp.ps i (by omega)).2] at this
       omega
      ·cases hi
     have hx0:=hx
     rw[hdrop j hj] at hx
     have hks:=(hp.ps j hj).2
     have hsz : T.size=tj.size:=(xsteps_size hx0).1
     -- the operands and the guard are as at the end
     have hop : ∀ x∈o.op.operands,evk P ops pl.p t T (pl.s j) x=ev P tj x:=by
      intro x hx'
      cases x with
      | tmp t'=>
       have ht : t'∈opTmps o.op:=List.mem_filterMap.2 ⟨.tmp t',Array.mem_toList_iff.2 hx',rfl⟩
       show (if late ops pl.p (pl.s j) t' then t.getD t' undef else T.getD t' undef)=tj.getD t' undef
       by_cases hl : late ops pl.p (pl.s j) t'=true
       ·rw[if_pos hl]
        obtain⟨k,ok,hk,hkd,hkp⟩:=late_true hl
        have:=hpre t' (fun k2 ok2 hk2 hkd2=>by
         have e : k2=k:=hp.dst k2 k ok2 ok t' hk2 hk hkd2 hkd
         subst e;omega)
        simp only[Array.getD_eq_getD_getElem?,this]
       ·rw[if_neg hl]
        have:=hkeep j t' tj _ hx0 (fun k ok hk hd=>by
         rcases hp.opd _ o ho t' ht k ok hk hd with h1|⟨h1,_⟩
         ·have:=h1.2.1;omega
         ·exact absurd (late_of hk hd h1) hl)
        simp only[Array.getD_eq_getD_getElem?,this]
      | _=>rfl
     have hw : xwanted ops T o=xwanted ops tj o:=xwanted_congr (fun g want hg o' ho' d hd=>hkeep j d tj _ hx0 (fun k ok hk hkd=>by
      have e : k=g:=hp.dst k g ok o' d hk ho' hkd hd
      subst e
      have:=(hp.gd _ o k want ho hg o' ho').2.1;omega))
     have hput : ∀ v tj1 H1,xsteps P ex ops (pl.sig.drop (j+1)) tj1 H1=some (T,Gs.drop (j+1))→tj1=put tj o.dst v→∀ d,o.dst=some d→d<T.size→T[d]?=some v:=by
      intro v tj1 H1 h1 h2 d hd hlt'
      rw[hkeep (j+1) d tj1 H1 h1 (fun k ok hk hkd=>by
       have e : k=pl.s j:=hp.dst k _ ok o d hk ho hkd hd
       rw[e,hks];omega),h2]
      simp only[hd,put]
      rw[Array.getElem?_setIfInBounds_self_of_lt (by rw[← hsz];exact hlt')]
     have hGd : ∀ {H1 : Heap} {Gs1 : List Heap} {tj1 : Array Value},xsteps P ex ops (pl.sig.drop (j+1)) tj1 H1=some (T,Gs1)→Gs.drop j=Gs.getD j H::Gs1→Gs1=Gs.drop (j+1)∧Gs.getD (j+1) H=H1:=by
      intro H1 Gs1 tj1 h1 h2
      have e : Gs1=Gs.drop (j+1):=by
       have:=congrArg (List.drop 1) h2
       simp only[List.drop_drop,List.drop_succ_cons,List.drop_zero] at this
       rw[← this,Nat.add_comm]
      refine⟨e,?_⟩
      have:=(xsteps_size h1).2.2
      rw[e,List.getElem?_drop] at this
      rw[List.getD_eq_getElem?_getD,show j+1=j+1+0 from rfl,this];rfl
     simp only[xsteps,ho] at hx
     split at hx
     ·rename_i hwt
      split at hx
      ·rename_i v H1 hv
       split at hx
       ·rename_i T1 Gs1 hs1
        simp only[Option.some.injEq,Prod.mk.injEq] at hx
        obtain⟨rfl,hx2⟩:=hx
        obtain⟨e1,e2⟩:=hGd hs1 hx2.symm
        subst e1
        refine .inl ⟨hw.trans hwt,v,?_,hput v _ _ hs1 rfl⟩
        rw[xopv_congr hop,e2];exact hv
       ·cases hx
      ·cases hx
     ·rename_i hwt
      split at hx
      ·rename_i T1 Gs1 hs1
       simp only[Option.some.injEq,Prod.mk.injEq] at hx
       obtain⟨rfl,hx2⟩:=hx
       obtain⟨e1,e2⟩:=hGd hs1 hx2.symm
       subst e1
       exact .inr ⟨hw.trans hwt,e2,hput undef _ _ hs1 rfl⟩
      ·cases hx
     ·cases hx
    have dyn : ∀ {k : Nat} {o : Oper},ops[k]?=some o→_:=fun {k o} ho=>by
     have:=allB_at hdyn (hlt ho)
     rw[ho] at this
     have hpk:=(hp.sp k (hlt ho)).1
     have l1 : Gs[pl.p k]?=some (Gs.getD (pl.p k) H):=by
      rw[List.getD_eq_getElem?_getD,List.getElem?_eq_getElem (by omega)];rfl
     have l2 : Gs[pl.p k+1]?=some (Gs.getD (pl.p k+1) H):=by
      rw[List.getD_eq_getElem?_getD,List.getElem?_eq_getElem (by omega)];rfl
     rw[l1,l2] at this
     simp only[Bool.and_eq_true] at this
     exact this
    have hclean : ∀ j,j<ops.size→pl.k (pl.s j)=0→Gs.getD (j+1) H=Gs.getD j H:=by
     intro j hj hk
     have hsj:=(hp.ps j hj).1
     have ho : ops[pl.s j]?=some ops[pl.s j]:=Array.getElem?_eq_getElem hsj
     rcases hrun j hj _ ho with⟨hw,v,hx,_⟩|⟨_,hG',_⟩
     ·have hlight:=hp.k0 _ _ ho hk
      unfold xopv at hx
      split at hx
      ·rename_i heq;rw[heq] at hlight;simp[lightOp] at hlight
      ·exact light_heap hlight hx
     ·exact hG'
    have hstill : ∀ k q,k<ops.size→still pl.p pl.k pl.s k q=true→Gs.getD (pl.p k) H=Gs.getD q H:=by
     intro k q hk hst
     simp only[still,Bool.and_eq_true,decide_eq_true_eq,List.all_eq_true,List.mem_range,beq_iff_eq] at hst
     obtain⟨h1,h2⟩:=hst
     have hpk:=(hp.sp k hk).1
     have : ∀ d,d≤pl.p k-q→Gs.getD (q+d) H=Gs.getD q H:=by
      intro d
      induction d with
      | zero=>intro _;rfl
      | succ d ih=>
       intro hd
       rw[show q+(d+1)=q+d+1 by omega,hclean (q+d) (by omega) (h2 d (by omega))]
       exact ih (by omega)
     have:=this (pl.p k-q) (Nat.le_refl _)
     rw[show q+(pl.p k-q)=pl.p k by omega] at this
     exact this
    refine⟨pl.p,pl.k,pl.s,fun j=>Gs.getD j H,hp,⟨s1,hrun,?_,?_,?_,?_,?_⟩,?_,rfl⟩
    ·intro t' hno
     exact xsteps_keep hs t' (fun k _ o ho=>hno k o ho)
    ·intro j hj
     have hsj:=(hp.ps j hj).1
     have ho : ops[pl.s j]?=some ops[pl.s j]:=Array.getElem?_eq_getElem hsj
     have:=(dyn ho).1
     rw[(hp.ps j hj).2] at this
     simpa using this
    ·intro k o ho hk hw q hq hst hal1 hal2
     have hkn:=hlt ho
     have hpk:=(hp.sp k hkn)
     have hval : ∃ v,xop P (Gs.getD (pl.p k) H) (evk P ops pl.p t T k) o.op=some (v,Gs.getD (pl.p k) H)∧∀ d,o.dst=some d→d<T.size→T[d]?=some v:=by
      rcases hrun (pl.p k) hpk.1 o (by rw[hpk.2];exact ho) with⟨_,v,hx,hd⟩|⟨hw',_,_⟩
      ·have hlight:=hp.k0 _ _ ho hk
       rw[hpk.2] at hx
       have hx' : xop P (Gs.getD (pl.p k) H) (evk P ops pl.p t T k) o.op=some (v,Gs.getD (pl.p k+1) H):=by
        unfold xopv at hx
        split at hx
        ·rename_i heq;rw[heq] at hlight;simp[lightOp] at hlight
        ·exact hx
       rw[light_heap hlight hx'] at hx'
       exact⟨v,hx',hd⟩
      ·rw[hw] at hw';cases hw'
     obtain⟨v,hx,hd⟩:=hval
     rcases hchk k o ho hk with hf|hall
     ·exact⟨v,free_heap hf hx,hd⟩
     ·have hqs : q∈stopsOf ops pl.p pl.k:=by
       unfold stopsOf
       rcases hst with rfl|⟨b,h1,h2,rfl⟩
       ·simp
       ·refine List.mem_cons_of_mem _ (List.mem_map.2 ⟨b,List.mem_filter.2 ⟨List.mem_range.2 h1,by simp[h2]⟩,rfl⟩)
      have hal : allowed ops pl.p pl.k k q=true:=by
       unfold allowed allB
       rw[List.all_eq_true]
       intro j hj
       have hj':=List.mem_range.1 hj
       by_cases hk2 : pl.k j=2
       ·have a1:=hal1 j hj' hk2
        have a2:=hal2 j hj' hk2
        cases hr1 : reach ops ops.size k j with
        | false=>
         by_cases hlt2 : pl.p j<q
         ·simp[hk2,hlt2,a2 hlt2]
         ·simp[hk2,hlt2]
        | true=>
         have hlt2:=a1 hr1
         simp[hk2,hlt2,a2 hlt2]
       ·simp[hk2]
      rcases hall q hqs hal with hsl|hc
      ·exact⟨v,by rw[← hstill k q hkn hsl];exact hx,hd⟩
      ·have hmem' : q∈pl.chk.getD k []:=by simpa using hc
       have:=(dyn ho).2
       rw[hk] at this
       simp only at this
       have:=List.all_eq_true.1 this q hmem'
       have l1 : Gs[q]?=some (Gs.getD q H):=by
        rw[List.getD_eq_getElem?_getD,List.getElem?_eq_getElem (by omega)];rfl
       rw[hw,l1] at this
       simp only[checkRead] at this
       split at this
       ·rename_i v2 H2 hx2
        have hlight:=hp.k0 _ _ ho hk
        have e:=light_heap hlight hx2
        rw[e] at hx2
        refine⟨v2,hx2,fun d hdd hdl=>?_⟩
        rw[hdd] at this
        simp only at this
        have hv2:=vEq_eq this
        rw[← hv2]
        rw[Array.getD_eq_getD_getElem?,Array.getElem?_eq_getElem hdl];rfl
       ·cases this
    ·intro k o ho hk hw d v hd hv
     have:=(dyn ho).2
     rw[hk] at this
     simp only[hw,hd,Bool.and_eq_true] at this
     have:=this.1
     rw[Array.getD_eq_getD_getElem?,hv] at this
     exact this
    ·intro k o c el ho hk hw hn hG'
     have:=(dyn ho).2
     rw[hk] at this
     simp only[hw,hn,Bool.not_true,Bool.false_or,Bool.and_eq_true] at this
     have:=this.2
     rw[hG'] at this
     have hc : ((Gs.getD (pl.p k) H).alloc (.cells c el true)).cellsAt (Gs.getD (pl.p k) H).next=some (c,el,true):=by
      unfold Heap.cellsAt
      rw[Heap.get_alloc];simp
     rw[hc] at this
     exact this
    ·show Gs.getD 0 H=H
     rw[List.getD_eq_getElem?_getD,s3];rfl
   ·cases h
  ·cases h
 ·cases h
end
end Go.Xe
