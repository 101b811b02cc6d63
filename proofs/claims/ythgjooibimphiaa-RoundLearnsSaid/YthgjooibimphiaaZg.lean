/- Rules of reasoning over the executable reading of the model's code (part Z7): regions that draw their order. Conditions: none; for every program. -/
import Derived.Test.YthgjooibimphiaaZf
namespace Go.Xe
open Go
def wantD (t : TT) : Option (Pth×Bool)→Bool
 | none=>true
 | some (p,w)=>match gt p t with
  | .bool b=>b == w
  | _=>false
def dcOk (P : Program) (t : TT) (Gs : List Heap) : FC→Prop
 | .ok=>True
 | .rd g o d qs=>wantD t g=true→∀ q∈qs,∃ Hq v H',Gs[q]?=some Hq∧dop P o t Hq=some (v,H')∧∀ p,d=some p→vEq 3 (gt p t) v=true
 | .nw g d p new=>wantD t g=true→∃ A B pp,Gs[p]?=some A∧Gs[p+1]?=some B∧d=some pp∧inBound B.next 3 (gt pp t)=true∧(new=true→∃ c el rw,B.cellsAt A.next=some (c,el,rw)∧c.toList.all (inBound A.next 2)=true)
def dcAll (P : Program) (t : TT) (Gs : List Heap) : List FC→Prop
 | []=>True
 | c::cs=>dcOk P t Gs c∧dcAll P t Gs cs
def monoG : List Heap→Prop
 | A::B::l=>A.next≤B.next∧monoG (B::l)
 | _=>True
theorem monoG_at : ∀ {l : List Heap},monoG l→∀ {i : Nat} {A B : Heap},l[i]?=some A→l[i+1]?=some B→A.next≤B.next
 | [],_,i,A,B,h,_=>by simp at h
 | [_],_,i,A,B,_,h=>by simp at h
 | X::Y::l,hm,0,A,B,h1,h2=>by simp at h1 h2;subst h1;subst h2;exact hm.1
 | X::Y::l,hm,i+1,A,B,h1,h2=>monoG_at hm.2 (i:=i) (by simpa using h1) (by simpa using h2)
section
variable {P : Program} [Gl P]
theorem wantD_of {ops : Array Oper} {o : Oper} {t : TT} {T : Array Value} (ht : TR t T) (hg : guardOk ops o=true) (h : xwanted ops T o=some true) : wantD t (compG ops o)=true:=by
 unfold compG
 unfold guardOk at hg
 unfold xwanted at h
 cases hgo : o.guard with
 | none=>rfl
 | some x=>
  obtain⟨j,w⟩:=x
  rw[hgo] at hg h
  simp only at hg h ⊢
  cases hj : (ops[j]?).bind (·.dst) with
  | none=>rw[hj] at hg;cases hg
  | some g=>
   rw[hj] at h
   simp only[Option.bind_some] at h ⊢
   cases hx : T[g]? with
   | none=>rw[hx] at h;simp at h
   | some y=>
    rw[hx] at h
    have hv : gt (pth g) t=y:=by rw[ht.gt,Array.getD_eq_getD_getElem?,hx];rfl
    cases y with
    | bool b=>simp only[wantD,hv];simpa using h
    | chan c=>cases c<;>simp at h
    | _=>simp at h
theorem dcOk_dyn {ops : Array Oper} {pl : Plan} {t : TT} {t0 T : Array Value} (ht : TR t T) {Gs : List Heap} {k : Nat} {o : Oper} {A B : Heap} (ho : ops[k]?=some o) (hA : Gs[pl.p k]?=some A) (hB : Gs[pl.p k+1]?=some B)
  (h : dcOk P t Gs (chkOf P ops pl k)) : dynK P ops pl t0 T Gs k o A B=true:=by
 have bad : ∀ {p : Prop},dcOk P t Gs (.rd none badOp none [0])→p:=by
  intro p hb
  obtain⟨Hq,v,H',_,h2,_⟩:=hb rfl 0 (by simp)
  simp[badOp,dop] at h2
 unfold chkOf at h
 rw[ho] at h
 simp only[] at h
 split at h
 ·rename_i hk
  split at h
  ·rename_i hq;simp only[dynK,hk,hq,List.all_nil]
  ·rename_i q qs hq
   split at h
   ·rename_i hc
    obtain⟨hc1,hc2,hc3⟩:=hc
    have hρ : ∀ y∈o.op.operands,evk P ops pl.p t0 T k y=ev P T y:=by
     intro y hy
     have:=List.all_eq_true.1 hc3 y (by simpa using hy)
     cases y with
     | tmp i=>
      have hl : late ops pl.p k i=false:=by simpa using this
      simp only[evk,hl,Bool.false_eq_true,if_false];rfl
     | _=>rfl
    simp only[dynK,hk,hq,List.all_eq_true]
    intro q' hq'
    cases hw : xwanted ops T o with
    | none=>rfl
    | some b=>
     cases b with
     | false=>rfl
     | true=>
      obtain⟨Hq,v,H',g1,g2,g3⟩:=h (wantD_of ht hc1 hw) q' hq'
      simp only[g1]
      have:=dop_ok o.op t T Hq H' v ht g2
      unfold checkRead
      rw[xop_congr hρ,this]
      simp only
      cases hd : o.dst with
      | none=>rfl
      | some d=>
       have:=g3 (pth d) (by rw[hd];rfl)
       rw[ht.gt] at this
       exact this
   ·exact bad h
 ·rename_i hk
  split at h
  ·rename_i hc1
   simp only[dynK,hk]
   cases hw : xwanted ops T o with
   | none=>rfl
   | some b=>
    cases b with
    | false=>rfl
    | true=>
     obtain⟨A',B',pp,g1,g2,g3,g4,g5⟩:=h (wantD_of ht hc1 hw)
     rw[hA] at g1;cases g1
     rw[hB] at g2;cases g2
     simp only[Bool.and_eq_true]
     refine⟨?_,?_⟩
     ·cases hd : o.dst with
      | none=>rfl
      | some d=>
       rw[hd] at g3
       have e : pth d=pp:=by simpa using g3
       rw[← e,ht.gt] at g4
       exact g4
     ·cases hn : newC o.op with
      | false=>rfl
      | true=>
       obtain⟨c,el,rw',k1,k2⟩:=g5 hn
       simp only[k1,k2,Bool.not_true,Bool.false_or]
  ·exact bad h
 ·rename_i hk0 hk1
  unfold dynK
  split
  ·rename_i hk;exact absurd hk hk0
  ·rename_i hk;exact absurd hk hk1
  ·rfl
theorem comp_draw {c : Code} {n : Nat} {is : List FI} {cs : List FC} (h : comp P c=.draw n is cs) : ∃ i ops,c=.region i ops true∧planOk ops (mkPlan ops)=true∧ops.size=n∧(mkPlan ops).sig.map (compAt P ops)=is∧(List.range ops.size).map (chkOf P ops (mkPlan ops))=cs:=by
 cases c<;>(try simp only[comp] at h)<;>first|(cases h;done)|skip
 rename_i i ops d
 cases d<;>(try simp only[comp] at h)
 ·cases h
 ·split at h
  ·rename_i hp;cases h;exact⟨_,_,rfl,hp,rfl,rfl,rfl⟩
  ·cases h
theorem compFI_go {ops : Array Oper} {k : Nat} {f : FOp} {d : Pth} (h : compAt P ops k=.go f d) : ∃ o,ops[k]?=some o∧o.guard=none∧∃ i,o.dst=some i∧pth i=d∧compOp P o.op=f:=by
 unfold compAt at h
 split at h
 ·rename_i o ho
  refine⟨o,ho,?_⟩
  unfold compFI compFIG at h
  split at h
  ·rename_i hg
   split at h
   ·rename_i i hd;cases h;exact⟨hg,i,hd,rfl,rfl⟩
   ·cases h
  ·split at h
   ·split at h<;>cases h
   ·cases h
 ·cases h
theorem compFI_gd {ops : Array Oper} {k : Nat} {f : FOp} {p d : Pth} {w : Bool} (h : compAt P ops k=.gd p w f d) : ∃ o,ops[k]?=some o∧∃ j g i,o.guard=some (j,w)∧(ops[j]?).bind (·.dst)=some g∧pth g=p∧o.dst=some i∧pth i=d∧compOp P o.op=f:=by
 unfold compAt at h
 split at h
 ·rename_i o ho
  refine⟨o,ho,?_⟩
  unfold compFI compFIG at h
  split at h
  ·split at h<;>cases h
  ·rename_i j w' hg
   split at h
   ·rename_i g hj
    split at h
    ·rename_i i hd;cases h;exact⟨j,g,i,hg,hj,rfl,hd,rfl,rfl⟩
    ·cases h
   ·cases h
 ·cases h
theorem compFI_un {ops : Array Oper} {k : Nat} {f : FOp} (h : compAt P ops k=.un f) (hb : f≠badOp) : ∃ o,ops[k]?=some o∧o.guard=none∧o.dst=none∧compOp P o.op=f:=by
 unfold compAt at h
 split at h
 ·rename_i o ho
  refine⟨o,ho,?_⟩
  unfold compFI compFIG at h
  split at h
  ·rename_i hg
   split at h
   ·cases h
   ·rename_i hd;cases h;exact⟨hg,hd,rfl⟩
  ·split at h
   ·split at h<;>cases h
   ·cases h;exact absurd rfl hb
 ·cases h;exact absurd rfl hb
theorem compOp_S {op : Op} {f : FOp} (h : compOp P op=f) (hb : f≠badOp) : compOpS P op=f:=by
 unfold compOpS
 split
 ·rename_i s d x
  split
  ·rename_i e h1 h2
   exfalso
   simp only[compOp,h1,h2] at h
   exact hb h.symm
  ·rename_i e h1 h2
   exfalso
   simp only[compOp,h1,h2] at h
   exact hb h.symm
  ·exact h
 ·exact h
end
section
variable (P : Program) [Gl P] [Orc P]
def VD (is : List FI) (t : TT) (H : Heap) (pre : List Heap) (R : TT→List Heap→Prop) : Prop:=∀ (ops : Array Oper) (l : List Nat) (tm : Array Value),l.map (compAt P ops)=is→TR t tm→∃ T Gs t',EvS P ops l tm H T Gs∧TR t' T∧R t' (pre++Gs)
def DoesD (f : FOp) (t : TT) (H : Heap) (v : Value) (H1 : Heap) : Prop:=f≠badOp∧∀ op tm,compOp P op=f→TR t tm→∃ N0,∀ N,N0≤N→xopv P (exec P N) (ev P tm) op H=some (v,H1)
end
section
variable {P : Program} [Gl P] [Orc P] {rnd : Option Nat} {Q : FQ} {K : List FFr} {t : TT} {m : List Nat} {H : Heap}
variable {is : List FI} {d p : Pth} {w : Bool} {v : Value} {H1 : Heap} {fa : FA} {args : List FA} {f : FOp} {pre : List Heap} {R : TT→List Heap→Prop}
theorem dopV_ok {op : Op} {tm : Array Value} {H' : Heap} (ht : TR t tm) (h : dop P (compOp P op) t H=some (v,H')) (ex : Ex) : xopv P ex (ev P tm) op H=some (v,H'):=by
 have h1:=dop_ok op t tm H H' v ht h
 unfold xopv
 split
 ·rename_i f args ts
  simp[compOp,dop] at h
 ·exact h1
theorem DoesD.of (h : dop P f t H=some (v,H1)) : DoesD P f t H v H1:=by
 refine⟨fun e=>?_,fun op tm ho ht=>?_⟩
 ·subst e;simp[badOp,dop] at h
 ·subst ho
  exact⟨0,fun N _=>dopV_ok ht h _⟩
theorem DoesD.call {g : FuncId} {a b : Array Value} (hf : dA t fa=.func (.func g) a b) (h : EvF P g (a++⟨args.map (dA t)⟩++b) H v H1) : DoesD P (.call fa args) t H v H1:=by
 have hb : FOp.call fa args≠badOp:=by
  intro e
  unfold badOp at e
  cases e
  cases hf
 refine⟨hb,fun op tm ho ht=>?_⟩
 rcases comp_call (compOp_S ho hb) with⟨f,as,ts,rfl,rfl,rfl⟩|rfl
 ·obtain⟨n,h⟩:=h
  refine⟨n,fun N hN=>?_⟩
  rw[dA_comp ht] at hf
  rw[parts_eq ht] at h
  have e : (⟨as.toList.map (ev P tm)⟩ : Array Value)=as.map (ev P tm):=by apply Array.toList_inj.1;simp
  rw[e] at h
  simp only[xopv,hf,h N hN]
 ·cases hf
theorem VD.nil (h : R t (pre++[H])) : VD P [] t H pre R:=by
 intro ops l tm hl ht
 cases l with
 | nil=>exact⟨tm,[H],t,⟨0,fun N _=>rfl⟩,ht,h⟩
 | cons=>cases hl
theorem VD.does (h : DoesD P f t H v H1) (k : VD P is (st v d t) H1 (pre++[H]) R) : VD P (.go f d::is) t H pre R:=by
 intro ops l tm hl ht
 obtain⟨j,l',rfl,hj,hl'⟩:=list_cons hl
 obtain⟨o,ho,hg,i,hd,rfl,hf⟩:=compFI_go hj
 obtain⟨n0,h0⟩:=h.2 _ _ hf ht
 obtain⟨T,Gs,t',⟨n1,k1⟩,k2,k3⟩:=k ops l' (put tm o.dst v) hl' (by rw[hd];exact ht.st v i)
 refine⟨T,H::Gs,t',⟨n0+n1,fun N hN=>?_⟩,k2,by simpa using k3⟩
 have hw : xwanted ops tm o=some true:=by unfold xwanted;rw[hg]
 simp only[xsteps,ho,hw,h0 N (by omega),k1 N (by omega)]
theorem VD.doesU (h : DoesD P f t H v H1) (k : VD P is t H1 (pre++[H]) R) : VD P (.un f::is) t H pre R:=by
 intro ops l tm hl ht
 obtain⟨j,l',rfl,hj,hl'⟩:=list_cons hl
 obtain⟨o,ho,hg,hd,hf⟩:=compFI_un hj h.1
 obtain⟨n0,h0⟩:=h.2 _ _ hf ht
 obtain⟨T,Gs,t',⟨n1,k1⟩,k2,k3⟩:=k ops l' (put tm o.dst v) hl' (by rw[hd];exact ht)
 refine⟨T,H::Gs,t',⟨n0+n1,fun N hN=>?_⟩,k2,by simpa using k3⟩
 have hw : xwanted ops tm o=some true:=by unfold xwanted;rw[hg]
 simp only[xsteps,ho,hw,h0 N (by omega),k1 N (by omega)]
theorem VD.gdT (hp : gt p t=.bool w) (h : DoesD P f t H v H1) (k : VD P is (st v d t) H1 (pre++[H]) R) : VD P (.gd p w f d::is) t H pre R:=by
 intro ops l tm hl ht
 obtain⟨j,l',rfl,hj,hl'⟩:=list_cons hl
 obtain⟨o,ho,j0,g,i,hg,hjg,rfl,hd,rfl,hf⟩:=compFI_gd hj
 obtain⟨n0,h0⟩:=h.2 _ _ hf ht
 obtain⟨T,Gs,t',⟨n1,k1⟩,k2,k3⟩:=k ops l' (put tm o.dst v) hl' (by rw[hd];exact ht.st v i)
 refine⟨T,H::Gs,t',⟨n0+n1,fun N hN=>?_⟩,k2,by simpa using k3⟩
 have hw : xwanted ops tm o=some true:=by rw[want_eq ht hg hjg hp];simp
 simp only[xsteps,ho,hw,h0 N (by omega),k1 N (by omega)]
theorem VD.gdF (hp : gt p t=.bool (!w)) (k : VD P is (st undef d t) H (pre++[H]) R) : VD P (.gd p w f d::is) t H pre R:=by
 intro ops l tm hl ht
 obtain⟨j,l',rfl,hj,hl'⟩:=list_cons hl
 obtain⟨o,ho,j0,g,i,hg,hjg,rfl,hd,rfl,hf⟩:=compFI_gd hj
 obtain⟨T,Gs,t',⟨n1,k1⟩,k2,k3⟩:=k ops l' (put tm o.dst undef) hl' (by rw[hd];exact ht.st undef i)
 refine⟨T,H::Gs,t',⟨n1,fun N hN=>?_⟩,k2,by simpa using k3⟩
 have hw : xwanted ops tm o=some false:=by rw[want_eq ht hg hjg hp];simp
 simp only[xsteps,ho,hw,k1 N (by omega)]
theorem VD.call {g : FuncId} {a b : Array Value} (hf : dA t fa=.func (.func g) a b) (k : F P g (a++⟨args.map (dA t)⟩++b) H (fun v H1=>VD P is (st v d t) H1 (pre++[H]) R)) : VD P (.go (.call fa args) d::is) t H pre R:=by
 obtain⟨v,H1,h1,h2⟩:=k
 exact .does (.call hf h1) h2
theorem VD.callT {g : FuncId} {a b : Array Value} (hp : gt p t=.bool w) (hf : dA t fa=.func (.func g) a b) (k : F P g (a++⟨args.map (dA t)⟩++b) H (fun v H1=>VD P is (st v d t) H1 (pre++[H]) R)) : VD P (.gd p w (.call fa args) d::is) t H pre R:=by
 obtain⟨v,H1,h1,h2⟩:=k
 exact .gdT hp (.call hf h1) h2
theorem VD.go (h : dop P f t H=some (v,H1)) (k : VD P is (st v d t) H1 (pre++[H]) R) : VD P (.go f d::is) t H pre R:=.does (.of h) k
theorem VD.un (h : dop P f t H=some (v,H1)) (k : VD P is t H1 (pre++[H]) R) : VD P (.un f::is) t H pre R:=.doesU (.of h) k
def DEnd (P : Program) [Gl P] [Orc P] (rnd : Option Nat) (Q : FQ) (K : List FFr) (m : List Nat) (n : Nat) (cs : List FC) (t : TT) (Gs : List Heap) : Prop:=monoG Gs∧dcAll P t Gs cs∧∃ H',Gs[n]?=some H'∧V P rnd Q K .normal t m H'
theorem dcAll_at {P : Program} {t : TT} {Gs : List Heap} {g : Nat→FC} : ∀ {l : List Nat},dcAll P t Gs (l.map g)→∀ k∈l,dcOk P t Gs (g k)
 | [],_,k,hk=>by cases hk
 | j::l,h,k,hk=>by
  rcases List.mem_cons.1 hk with rfl|hk
  ·exact h.1
  ·exact dcAll_at h.2 k hk
theorem V.draw {n : Nat} {cs : List FC} (h : VD P is t H [] (DEnd P rnd Q K m n cs)) : V P rnd Q (.seq (.draw n is cs)::K) .normal t m H:=by
 intro c tm hc ht
 obtain⟨i,ops,rfl,hp,rfl,rfl,rfl⟩:=comp_draw hc
 obtain⟨T,Gs,t',⟨n0,k1⟩,k2,k3,k4,H',k5,k6⟩:=h ops (mkPlan ops).sig tm rfl ht
 simp only[List.nil_append] at k3 k4 k5
 refine⟨.normal,T,m,H',t',⟨n0+1,fun N hN=>?_⟩,k2,k6⟩
 obtain⟨N,rfl⟩ : ∃ M,N=M+1:=⟨N-1,by omega⟩
 have hx:=k1 N (by omega)
 have hp':=planOk_reach hp
 simp only[planOkG,Bool.and_eq_true] at hp'
 have hsz : (mkPlan ops).sig.length=ops.size:=by simpa using hp'.1.1.1.1.1
 have hpos:=hp'.1.1.1.1.2
 have e4 : Gs.length=(mkPlan ops).sig.length+1:=(xsteps_size hx).2.1
 have hdyn : dynOk P ops (mkPlan ops) tm T Gs=true:=by
  rw[dynOk_eq]
  refine List.all_eq_true.2 ?_
  intro k hk
  have hk':=List.mem_range.1 hk
  have hq:=allB_at hpos hk'
  simp only[Bool.and_eq_true,decide_eq_true_eq] at hq
  have l1 : (mkPlan ops).p k<Gs.length:=by omega
  have l2 : (mkPlan ops).p k+1<Gs.length:=by omega
  have g0 : ops[k]?=some ops[k]:=by simp[hk']
  have g1 : Gs[(mkPlan ops).p k]?=some Gs[(mkPlan ops).p k]:=by simp[l1]
  have g2 : Gs[(mkPlan ops).p k+1]?=some Gs[(mkPlan ops).p k+1]:=by simp[l2]
  simp only[g0,g1,g2,Bool.and_eq_true,decide_eq_true_eq]
  exact⟨monoG_at k3 g1 g2,dcOk_dyn k2 g0 g1 g2 (dcAll_at k4 k hk)⟩
 have e5 : Gs.getD ops.size H=H':=by rw[List.getD_eq_getElem?_getD,k5];rfl
 simp only[exec,if_true,xdraw,hp,hx,hdyn,e5]
end
end Go.Xe
