/- Rules of reasoning over the executable reading of the model's code (part Z6): calls, and a function's body. Conditions: none; for every program. -/
import Derived.Test.YtgcdbdcnlhonfaaZe
namespace Go.Xe
open Go
section
variable {P : Program} [Gl P]
theorem comp_call {op : Op} {fa : FA} {as : List FA} (h : compOpS P op=.call fa as) : (∃ f args ts,op=.call { callee:=.value f,args:=args,argTypes:=ts }∧compA P f=fa∧args.toList.map (compA P)=as)∨fa=.con (.chan none):=by
 have bad : ∀ {p : Prop},badOp=FOp.call fa as→p∨fa=.con (.chan none):=by
  intro p h
  unfold badOp at h
  cases h
  exact .inr rfl
 cases op with
 | call c=>
  obtain⟨callee,args,ts⟩:=c
  cases callee with
  | value f=>simp only[compOpS,compOp] at h;cases h;exact .inl ⟨_,_,_,rfl,rfl,rfl⟩
  | builtin b=>
   cases b<;>simp only[compOpS,compOp] at h<;>first|exact bad h|skip
   all_goals (try (cases h;done))
   all_goals (split at h<;>first|exact bad h|skip)
   all_goals (simp only[compLen,compCap,compAppend,compClear,compCopy] at h)
   all_goals (repeat' split at h)
   all_goals first|exact bad h|(cases h;done)
  | _=>exact bad h
 | makeFunc fn a b=>cases fn<;>simp only[compOpS,compOp] at h<;>first|exact bad h|(cases h;done)
 | makeMap ty r=>
  cases r with
  | none=>simp only[compOpS,compOp] at h;split at h<;>first|exact bad h|(cases h;done)
  | some c=>
   cases c with
   | const v=>cases v<;>simp only[compOpS,compOp] at h<;>first|exact bad h|(split at h<;>first|exact bad h|(cases h;done))
   | _=>exact bad h
 | slice ty x lo hi mx=>
  cases mx with
  | some _=>
   simp only[compOpS] at h
   cases hi<;>simp only[compOp] at h
   ·exact bad h
   ·(repeat' split at h)<;>first|exact bad h|(cases h;done)
  | none=>
   simp only[compOpS,compOp] at h
   (repeat' split at h)<;>first|exact bad h|(cases h;done)
 | _=>
  simp only[compOpS,compOp,compParted] at h
  (repeat' split at h)<;>first|exact bad h|(cases h;done)
end
section
variable {P : Program} [Gl P] [Orc P] {rnd : Option Nat} {Q : FQ} {K : List FFr} {t : TT} {m : List Nat} {H : Heap}
variable {is : List FI} {d p : Pth} {w : Bool} {v : Value} {H1 : Heap} {fa : FA} {args : List FA}
theorem Does.call {g : FuncId} {a b : Array Value} (hf : dA t fa=.func (.func g) a b) (h : EvF P g (a++⟨args.map (dA t)⟩++b) H v H1) : Does P (.call fa args) t H v H1:=by
 intro op tm ho ht
 rcases comp_call ho with⟨f,as,ts,rfl,rfl,rfl⟩|rfl
 ·obtain⟨n,h⟩:=h
  refine⟨n,fun N hN=>?_⟩
  rw[dA_comp ht] at hf
  rw[parts_eq ht] at h
  have e : (⟨as.toList.map (ev P tm)⟩ : Array Value)=as.map (ev P tm):=by apply Array.toList_inj.1;simp
  rw[e] at h
  unfold xopvS
  simp only[xopv,hf,h N hN]
 ·cases hf
theorem Does.yield {l : Nat} {a b : Array Value} (hf : dA t fa=.func (.yield l) a b) (h : EvY P l (a++⟨args.map (dA t)⟩) H v H1) : Does P (.call fa args) t H v H1:=by
 intro op tm ho ht
 rcases comp_call ho with⟨f,as,ts,rfl,rfl,rfl⟩|rfl
 ·obtain⟨n,h⟩:=h
  refine⟨n,fun N hN=>?_⟩
  rw[dA_comp ht] at hf
  rw[parts_eq ht] at h
  have e : (⟨as.toList.map (ev P tm)⟩ : Array Value)=as.map (ev P tm):=by apply Array.toList_inj.1;simp
  rw[e] at h
  unfold xopvS
  simp only[xopv,hf,h N hN]
 ·cases hf
theorem VI.go {f : FOp} (h : dop P f t H=some (v,H1)) (k : VI P rnd Q K m is (st v d t) H1) : VI P rnd Q K m (.go f d::is) t H:=.does (.of h) k
theorem VI.un {f : FOp} (h : dop P f t H=some (v,H1)) (hb : f≠badOp) (k : VI P rnd Q K m is t H1) : VI P rnd Q K m (.un f::is) t H:=.doesU (.of h) hb k
theorem VI.call {g : FuncId} {a b : Array Value} (hf : dA t fa=.func (.func g) a b) (k : F P g (a++⟨args.map (dA t)⟩++b) H (fun v H1=>VI P rnd Q K m is (st v d t) H1)) : VI P rnd Q K m (.go (.call fa args) d::is) t H:=by
 obtain⟨v,H1,h1,h2⟩:=k
 exact .does (.call hf h1) h2
theorem VI.callT {g : FuncId} {a b : Array Value} (hp : gt p t=.bool w) (hf : dA t fa=.func (.func g) a b) (k : F P g (a++⟨args.map (dA t)⟩++b) H (fun v H1=>VI P rnd Q K m is (st v d t) H1)) : VI P rnd Q K m (.gd p w (.call fa args) d::is) t H:=by
 obtain⟨v,H1,h1,h2⟩:=k
 exact .gdT hp (.call hf h1) h2
def sets : List Value→List Pth→TT→TT
 | v::vs,p::ps,t=>sets vs ps (st v p t)
 | _,_,t=>t
theorem sets_TR : ∀ {vs : List Value} {is : List Nat} {t : TT} {a : Array Value},TR t a→TR (sets vs (is.map pth) t) (setAll vs is a)
 | [],_,t,a,h=>by simpa [sets,setAll] using h
 | _::_,[],t,a,h=>by simpa [sets,setAll] using h
 | v::vs,i::is,t,a,h=>by simpa [sets,setAll] using sets_TR (h.st v i)
def yres1 (t : TT) (H : Heap) : FRes→Option Value
 | .tmp p=>some (gt p t)
 | .one p=>yload1 H (gt p t)
 | .many p n=>yloadN n H (gt p t)
def yresL (t : TT) (H : Heap) : List FRes→Option (List Value)
 | []=>some []
 | r::rs=>match yres1 t H r,yresL t H rs with
  | some v,some vs=>some (v::vs)
  | _,_=>none
def yres (t : TT) (H : Heap) (rs : List FRes) : Option Value:=match rs with
 | [r]=>yres1 t H r
 | rs=>(yresL t H rs).map fun vs=>.tuple ⟨vs⟩
omit [Gl P] [Orc P] in
theorem yres1_ok {tm : Array Value} (ht : TR t tm) {r : ResultVar} (h : yres1 t H (compR P r)=some v) : xresult P H tm r=some v:=by
 cases r with
 | tmp i=>simp only[compR,yres1,ht.gt] at h;exact h
 | cell a ty=>
  simp only[compR] at h
  have many : ∀ {n : Nat},yloadN n H (tm.getD a undef)=some v→(∀ i o,xload P H ty (.pointer (some ⟨i,o,none⟩))=match H.cellsAt i with
    | some (c,_,_)=>if o+n≤c.size∧n≠0 then some (.agg (c.extract o (o+n))) else none
    | none=>none)→xresult P H tm (.cell a ty)=some v:=by
   intro n h hx
   simp only[xresult]
   unfold yloadN at h
   split at h
   ·rename_i i o hp
    rw[hp,hx];exact h
   ·cases h
  split at h
  ·rename_i f i h1 h2
   simp only[yres1,ht.gt] at h
   exact many h (fun b o=>by simp only[xload,h1,h2];cases H.cellsAt b<;>rfl)
  ·rename_i n e i h1 h2
   simp only[yres1,ht.gt] at h
   exact many h (fun b o=>by simp only[xload,h1,h2];cases H.cellsAt b<;>rfl)
  ·rename_i dd i hs ha h1 h2
   simp only[yres1,ht.gt] at h
   simp only[xresult]
   unfold yload1 at h
   split at h
   ·rename_i b o hp
    rw[hp]
    simp only[xload]
    split at h
    ·rename_i c el rw' hc
     rw[hc]
     cases dd<;>simp only[h1,h2]<;>first|exact h|exact absurd rfl (hs _)|exact absurd rfl (ha _ _)|skip
    ·cases h
   ·cases h
  ·simp only[yres1,ht.gt] at h
   exfalso
   unfold yloadN at h
   split at h
   ·split at h
    ·simp at h
    ·cases h
   ·cases h
omit [Gl P] [Orc P] in
theorem yresL_ok {tm : Array Value} (ht : TR t tm) : ∀ {rs : List ResultVar} {vs : List Value},yresL t H (rs.map (compR P))=some vs→rs.mapM (xresult P H tm)=some vs
 | [],vs,h=>by simp only[List.map_nil,yresL] at h;cases h;rfl
 | r::rs,vs,h=>by
  simp only[List.map_cons,yresL] at h
  split at h
  ·rename_i v vs' h1 h2
   cases h
   simp[List.mapM_cons,yres1_ok ht h1,yresL_ok ht h2]
  ·cases h
omit [Gl P] [Orc P] in
theorem yres_ok {tm : Array Value} {fn : Func} (ht : TR t tm) (h : yres t H (fn.results.toList.map (compR P))=some v) : xresults P H fn tm=some v:=by
 unfold xresults
 cases hl : fn.results.toList with
 | nil=>
  rw[hl] at h
  simp only[List.map_nil,yres,yresL,Option.map_some] at h
  cases h
  simp
 | cons r rs=>
  cases rs with
  | nil=>rw[hl] at h;exact yres1_ok ht h
  | cons r2 rs=>
   rw[hl] at h
   simp only[List.map_cons,yres] at h
   obtain⟨vs,h1,h2⟩:=map_some h
   have:=yresL_ok (rs:=r::r2::rs) ht h1
   simp only[this]
   rw[← h2]
def Lv (rs : List FRes) (R : Value→Heap→Prop) : FQ:=fun e t m H=>(∀ id,e≠.exit id)∧∃ H1 v,xunmark m H=some H1∧yres t H1 rs=some v∧R v H1
theorem Lv.ret {rs : List FRes} {R : Value→Heap→Prop} (h : yres t H rs=some v) (k : R v H) : Lv rs R .ret t [] H:=⟨fun id=>by simp,H,v,rfl,h,k⟩
theorem Lv.normal {rs : List FRes} {R : Value→Heap→Prop} (h : yres t H rs=some v) (k : R v H) : Lv rs R .normal t [] H:=⟨fun id=>by simp,H,v,rfl,h,k⟩
theorem F.entry {f : FuncId} {fn : Func} {k : Nat} {x : FCode} {tp : TT} {as : List Pth} {rs : List FRes} {args : Array Value} {R : Value→Heap→Prop} (h0 : Orc.O P f=none) (h1 : P.funcs[f]?=some fn) (ho : okF P fn=true) (he : compF P fn k=.mk x tp as rs)
  (hk : args.size=k) (hn : k≤fn.ntmps) (h : V P none (Lv rs R) [.seq x] .normal (sets args.toList as tp) [] H) : F P f args H R:=by
 unfold compF at he
 split at he
 ·rename_i c hb
  cases he
  have hno : (fn.name == "runtime.NumGoroutine") = false := by
   unfold okF at ho
   simp only[Bool.and_eq_true,Bool.not_eq_true'] at ho
   exact ho.1
  have hlen : args.toList.length=args.size:=by simp
  have ht : TR (sets args.toList ((List.range' 0 k).map pth) (mkTT fn.ntmps)) (args++Array.replicate (fn.ntmps-args.size) undef):=by
   have:=sets_TR (vs:=args.toList) (is:=List.range' 0 args.toList.length) (mkTT_TR fn.ntmps)
   rw[args_ok (by rw[hlen,hk];exact hn)] at this
   rw[hlen] at this
   rw[← hk]
   exact this
  obtain⟨e,tm',m',H',t',⟨n,hx⟩,ht',hne,H1,v,hu,hv,hr⟩:=h c _ rfl ht
  refine⟨v,H1,⟨n,fun N hN=>?_⟩,hr⟩
  have hv':=yres_ok ht' hv
  unfold xcall
  simp only[h0,h1,hb,hno,if_true,hx N hN]
  cases e with
  | exit id=>exact absurd rfl (hne id)
  | normal=>simp only[hu,hv']
  | ret=>simp only[hu,hv']
 ·cases he
end
end Go.Xe
/- Rules of reasoning over the executable reading of the model's code (part Z7): regions that draw their order. Conditions: none; for every program. -/
namespace Go.Xe
open Go
def wantD (t : TT) : Option (Pth×Bool)→Bool
 | none=>true
 | some (p,w)=>match gt p t with
  | .bool b=>b == w
  | _=>false
def dcOk (P : Program) (t : TT) (Gs : List Heap) : FC→Prop
 | .ok=>True
 | .rd g o d qs=>wantD t g=true→∀ q∈qs,∃ Hq v H',Gs[q]?=some Hq∧dop P o t Hq=some (v,H')∧∀ p,d=some p→vEq 3 (gt p t) v=true
 | .nw g d p new=>wantD t g=true→∃ A B pp,Gs[p]?=some A∧Gs[p+1]?=some B∧d=some pp∧inBound B.next 3 (gt pp t)=true∧(new=true→∃ c el rw,B.cellsAt A.next=some (c,el,rw)∧c.toList.all (inBound A.next 2)=true)
def dcAll (P : Program) (t : TT) (Gs : List Heap) : List FC→Prop
 | []=>True
 | c::cs=>dcOk P t Gs c∧dcAll P t Gs cs
def monoG : List Heap→Prop
 | A::B::l=>A.next≤B.next∧monoG (B::l)
 | _=>True
theorem monoG_at : ∀ {l : List Heap},monoG l→∀ {i : Nat} {A B : Heap},l[i]?=some A→l[i+1]?=some B→A.next≤B.next
 | [],_,i,A,B,h,_=>by simp at h
 | [_],_,i,A,B,_,h=>by simp at h
 | X::Y::l,hm,0,A,B,h1,h2=>by simp at h1 h2;subst h1;subst h2;exact hm.1
 | X::Y::l,hm,i+1,A,B,h1,h2=>monoG_at hm.2 (i:=i) (by simpa using h1) (by simpa using h2)
section
variable {P : Program} [Gl P]
theorem wantD_of {ops : Array Oper} {o : Oper} {t : TT} {T : Array Value} (ht : TR t T) (hg : guardOk ops o=true) (h : xwanted ops T o=some true) : wantD t (compG ops o)=true:=by
 unfold compG
 unfold guardOk at hg
 unfold xwanted at h
 cases hgo : o.guard with
 | none=>rfl
 | some x=>
  obtain⟨j,w⟩:=x
  rw[hgo] at hg h
  simp only at hg h ⊢
  cases hj : (ops[j]?).bind (·.dst) with
  | none=>rw[hj] at hg;cases hg
  | some g=>
   rw[hj] at h
   simp only[Option.bind_some] at h ⊢
   cases hx : T[g]? with
   | none=>rw[hx] at h;simp at h
   | some y=>
    rw[hx] at h
    have hv : gt (pth g) t=y:=by rw[ht.gt,Array.getD_eq_getD_getElem?,hx];rfl
    cases y with
    | bool b=>simp only[wantD,hv];simpa using h
    | chan c=>cases c<;>simp at h
    | _=>simp at h
theorem dcOk_dyn {ops : Array Oper} {pl : Plan} {t : TT} {t0 T : Array Value} (ht : TR t T) {Gs : List Heap} {k : Nat} {o : Oper} {A B : Heap} (ho : ops[k]?=some o) (hA : Gs[pl.p k]?=some A) (hB : Gs[pl.p k+1]?=some B)
  (h : dcOk P t Gs (chkOf P ops pl k)) : dynK P ops pl t0 T Gs k o A B=true:=by
 have bad : ∀ {p : Prop},dcOk P t Gs (.rd none badOp none [0])→p:=by
  intro p hb
  obtain⟨Hq,v,H',_,h2,_⟩:=hb rfl 0 (by simp)
  simp[badOp,dop] at h2
 unfold chkOf at h
 rw[ho] at h
 simp only[] at h
 split at h
 ·rename_i hk
  split at h
  ·rename_i hq;simp only[dynK,hk,hq,List.all_nil]
  ·rename_i q qs hq
   split at h
   ·rename_i hc
    obtain⟨hc1,hc2,hc3⟩:=hc
    have hρ : ∀ y∈o.op.operands,evk P ops pl.p t0 T k y=ev P T y:=by
     intro y hy
     have:=List.all_eq_true.1 hc3 y (by simpa using hy)
     cases y with
     | tmp i=>
      have hl : late ops pl.p k i=false:=by simpa using this
      simp only[evk,hl,Bool.false_eq_true,if_false];rfl
     | _=>rfl
    simp only[dynK,hk,hq,List.all_eq_true]
    intro q' hq'
    cases hw : xwanted ops T o with
    | none=>rfl
    | some b=>
     cases b with
     | false=>rfl
     | true=>
      obtain⟨Hq,v,H',g1,g2,g3⟩:=h (wantD_of ht hc1 hw) q' hq'
      simp only[g1]
      have:=dop_ok o.op t T Hq H' v ht g2
      unfold checkRead
      rw[xop_congr hρ,this]
      simp only
      cases hd : o.dst with
      | none=>rfl
      | some d=>
       have:=g3 (pth d) (by rw[hd];rfl)
       rw[ht.gt] at this
       exact this
   ·exact bad h
 ·rename_i hk
  split at h
  ·rename_i hc1
   simp only[dynK,hk]
   cases hw : xwanted ops T o with
   | none=>rfl
   | some b=>
    cases b with
    | false=>rfl
    | true=>
     obtain⟨A',B',pp,g1,g2,g3,g4,g5⟩:=h (wantD_of ht hc1 hw)
     rw[hA] at g1;cases g1
     rw[hB] at g2;cases g2
     simp only[Bool.and_eq_true]
     refine⟨?_,?_⟩
     ·cases hd : o.dst with
      | none=>rfl
      | some d=>
       rw[hd] at g3
       have e : pth d=pp:=by simpa using g3
       rw[← e,ht.gt] at g4
       exact g4
     ·cases hn : newC o.op with
      | false=>rfl
      | true=>
       obtain⟨c,el,rw',k1,k2⟩:=g5 hn
       simp only[k1,k2,Bool.not_true,Bool.false_or]
  ·exact bad h
 ·rename_i hk0 hk1
  unfold dynK
  split
  ·rename_i hk;exact absurd hk hk0
  ·rename_i hk;exact absurd hk hk1
  ·rfl
theorem comp_draw {c : Code} {n : Nat} {is : List FI} {cs : List FC} (h : comp P c=.draw n is cs) : ∃ i ops,c=.region i ops true∧planOk ops (mkPlan ops)=true∧ops.size=n∧(mkPlan ops).sig.map (compAt P ops)=is∧(List.range ops.size).map (chkOf P ops (mkPlan ops))=cs:=by
 cases c<;>(try simp only[comp] at h)<;>first|(cases h;done)|skip
 rename_i i ops d
 cases d<;>(try simp only[comp] at h)
 ·cases h
 ·split at h
  ·rename_i hp;cases h;exact⟨_,_,rfl,hp,rfl,rfl,rfl⟩
  ·cases h
theorem compFI_go {ops : Array Oper} {k : Nat} {f : FOp} {d : Pth} (h : compAt P ops k=.go f d) : ∃ o,ops[k]?=some o∧o.guard=none∧∃ i,o.dst=some i∧pth i=d∧compOp P o.op=f:=by
 unfold compAt at h
 split at h
 ·rename_i o ho
  refine⟨o,ho,?_⟩
  unfold compFI compFIG at h
  split at h
  ·rename_i hg
   split at h
   ·rename_i i hd;cases h;exact⟨hg,i,hd,rfl,rfl⟩
   ·cases h
  ·split at h
   ·split at h<;>cases h
   ·cases h
 ·cases h
theorem compFI_gd {ops : Array Oper} {k : Nat} {f : FOp} {p d : Pth} {w : Bool} (h : compAt P ops k=.gd p w f d) : ∃ o,ops[k]?=some o∧∃ j g i,o.guard=some (j,w)∧(ops[j]?).bind (·.dst)=some g∧pth g=p∧o.dst=some i∧pth i=d∧compOp P o.op=f:=by
 unfold compAt at h
 split at h
 ·rename_i o ho
  refine⟨o,ho,?_⟩
  unfold compFI compFIG at h
  split at h
  ·split at h<;>cases h
  ·rename_i j w' hg
   split at h
   ·rename_i g hj
    split at h
    ·rename_i i hd;cases h;exact⟨j,g,i,hg,hj,rfl,hd,rfl,rfl⟩
    ·cases h
   ·cases h
 ·cases h
theorem compFI_un {ops : Array Oper} {k : Nat} {f : FOp} (h : compAt P ops k=.un f) (hb : f≠badOp) : ∃ o,ops[k]?=some o∧o.guard=none∧o.dst=none∧compOp P o.op=f:=by
 unfold compAt at h
 split at h
 ·rename_i o ho
  refine⟨o,ho,?_⟩
  unfold compFI compFIG at h
  split at h
  ·rename_i hg
   split at h
   ·cases h
   ·rename_i hd;cases h;exact⟨hg,hd,rfl⟩
  ·split at h
   ·split at h<;>cases h
   ·cases h;exact absurd rfl hb
 ·cases h;exact absurd rfl hb
theorem compOp_S {op : Op} {f : FOp} (h : compOp P op=f) (hb : f≠badOp) : compOpS P op=f:=by
 unfold compOpS
 split
 ·rename_i s d x
  split
  ·rename_i e h1 h2
   exfalso
   simp only[compOp,h1,h2] at h
   exact hb h.symm
  ·rename_i e h1 h2
   exfalso
   simp only[compOp,h1,h2] at h
   exact hb h.symm
  ·exact h
 ·exact h
end
section
variable (P : Program) [Gl P] [Orc P]
def VD (is : List FI) (t : TT) (H : Heap) (pre : List Heap) (R : TT→List Heap→Prop) : Prop:=∀ (ops : Array Oper) (l : List Nat) (tm : Array Value),l.map (compAt P ops)=is→TR t tm→∃ T Gs t',EvS P ops l tm H T Gs∧TR t' T∧R t' (pre++Gs)
def DoesD (f : FOp) (t : TT) (H : Heap) (v : Value) (H1 : Heap) : Prop:=f≠badOp∧∀ op tm,compOp P op=f→TR t tm→∃ N0,∀ N,N0≤N→xopv P (exec P N) (ev P tm) op H=some (v,H1)
end
section
variable {P : Program} [Gl P] [Orc P] {rnd : Option Nat} {Q : FQ} {K : List FFr} {t : TT} {m : List Nat} {H : Heap}
variable {is : List FI} {d p : Pth} {w : Bool} {v : Value} {H1 : Heap} {fa : FA} {args : List FA} {f : FOp} {pre : List Heap} {R : TT→List Heap→Prop}
theorem dopV_ok {op : Op} {tm : Array Value} {H' : Heap} (ht : TR t tm) (h : dop P (compOp P op) t H=some (v,H')) (ex : Ex) : xopv P ex (ev P tm) op H=some (v,H'):=by
 have h1:=dop_ok op t tm H H' v ht h
 unfold xopv
 split
 ·rename_i f args ts
  simp[compOp,dop] at h
 ·exact h1
theorem DoesD.of (h : dop P f t H=some (v,H1)) : DoesD P f t H v H1:=by
 refine⟨fun e=>?_,fun op tm ho ht=>?_⟩
 ·subst e;simp[badOp,dop] at h
 ·subst ho
  exact⟨0,fun N _=>dopV_ok ht h _⟩
theorem DoesD.call {g : FuncId} {a b : Array Value} (hf : dA t fa=.func (.func g) a b) (h : EvF P g (a++⟨args.map (dA t)⟩++b) H v H1) : DoesD P (.call fa args) t H v H1:=by
 have hb : FOp.call fa args≠badOp:=by
  intro e
  unfold badOp at e
  cases e
  cases hf
 refine⟨hb,fun op tm ho ht=>?_⟩
 rcases comp_call (compOp_S ho hb) with⟨f,as,ts,rfl,rfl,rfl⟩|rfl
 ·obtain⟨n,h⟩:=h
  refine⟨n,fun N hN=>?_⟩
  rw[dA_comp ht] at hf
  rw[parts_eq ht] at h
  have e : (⟨as.toList.map (ev P tm)⟩ : Array Value)=as.map (ev P tm):=by apply Array.toList_inj.1;simp
  rw[e] at h
  simp only[xopv,hf,h N hN]
 ·cases hf
theorem VD.nil (h : R t (pre++[H])) : VD P [] t H pre R:=by
 intro ops l tm hl ht
 cases l with
 | nil=>exact⟨tm,[H],t,⟨0,fun N _=>rfl⟩,ht,h⟩
 | cons=>cases hl
theorem VD.does (h : DoesD P f t H v H1) (k : VD P is (st v d t) H1 (pre++[H]) R) : VD P (.go f d::is) t H pre R:=by
 intro ops l tm hl ht
 obtain⟨j,l',rfl,hj,hl'⟩:=list_cons hl
 obtain⟨o,ho,hg,i,hd,rfl,hf⟩:=compFI_go hj
 obtain⟨n0,h0⟩:=h.2 _ _ hf ht
 obtain⟨T,Gs,t',⟨n1,k1⟩,k2,k3⟩:=k ops l' (put tm o.dst v) hl' (by rw[hd];exact ht.st v i)
 refine⟨T,H::Gs,t',⟨n0+n1,fun N hN=>?_⟩,k2,by simpa using k3⟩
 have hw : xwanted ops tm o=some true:=by unfold xwanted;rw[hg]
 simp only[xsteps,ho,hw,h0 N (by omega),k1 N (by omega)]
theorem VD.doesU (h : DoesD P f t H v H1) (k : VD P is t H1 (pre++[H]) R) : VD P (.un f::is) t H pre R:=by
 intro ops l tm hl ht
 obtain⟨j,l',rfl,hj,hl'⟩:=list_cons hl
 obtain⟨o,ho,hg,hd,hf⟩:=compFI_un hj h.1
 obtain⟨n0,h0⟩:=h.2 _ _ hf ht
 obtain⟨T,Gs,t',⟨n1,k1⟩,k2,k3⟩:=k ops l' (put tm o.dst v) hl' (by rw[hd];exact ht)
 refine⟨T,H::Gs,t',⟨n0+n1,fun N hN=>?_⟩,k2,by simpa using k3⟩
 have hw : xwanted ops tm o=some true:=by unfold xwanted;rw[hg]
 simp only[xsteps,ho,hw,h0 N (by omega),k1 N (by omega)]
theorem VD.gdT (hp : gt p t=.bool w) (h : DoesD P f t H v H1) (k : VD P is (st v d t) H1 (pre++[H]) R) : VD P (.gd p w f d::is) t H pre R:=by
 intro ops l tm hl ht
 obtain⟨j,l',rfl,hj,hl'⟩:=list_cons hl
 obtain⟨o,ho,j0,g,i,hg,hjg,rfl,hd,rfl,hf⟩:=compFI_gd hj
 obtain⟨n0,h0⟩:=h.2 _ _ hf ht
 obtain⟨T,Gs,t',⟨n1,k1⟩,k2,k3⟩:=k ops l' (put tm o.dst v) hl' (by rw[hd];exact ht.st v i)
 refine⟨T,H::Gs,t',⟨n0+n1,fun N hN=>?_⟩,k2,by simpa using k3⟩
 have hw : xwanted ops tm o=some true:=by rw[want_eq ht hg hjg hp];simp
 simp only[xsteps,ho,hw,h0 N (by omega),k1 N (by omega)]
theorem VD.gdF (hp : gt p t=.bool (!w)) (k : VD P is (st undef d t) H (pre++[H]) R) : VD P (.gd p w f d::is) t H pre R:=by
 intro ops l tm hl ht
 obtain⟨j,l',rfl,hj,hl'⟩:=list_cons hl
 obtain⟨o,ho,j0,g,i,hg,hjg,rfl,hd,rfl,hf⟩:=compFI_gd hj
 obtain⟨T,Gs,t',⟨n1,k1⟩,k2,k3⟩:=k ops l' (put tm o.dst undef) hl' (by rw[hd];exact ht.st undef i)
 refine⟨T,H::Gs,t',⟨n1,fun N hN=>?_⟩,k2,by simpa using k3⟩
 have hw : xwanted ops tm o=some false:=by rw[want_eq ht hg hjg hp];simp
 simp only[xsteps,ho,hw,k1 N (by omega)]
theorem VD.call {g : FuncId} {a b : Array Value} (hf : dA t fa=.func (.func g) a b) (k : F P g (a++⟨args.map (dA t)⟩++b) H (fun v H1=>VD P is (st v d t) H1 (pre++[H]) R)) : VD P (.go (.call fa args) d::is) t H pre R:=by
 obtain⟨v,H1,h1,h2⟩:=k
 exact .does (.call hf h1) h2
theorem VD.callT {g : FuncId} {a b : Array Value} (hp : gt p t=.bool w) (hf : dA t fa=.func (.func g) a b) (k : F P g (a++⟨args.map (dA t)⟩++b) H (fun v H1=>VD P is (st v d t) H1 (pre++[H]) R)) : VD P (.gd p w (.call fa args) d::is) t H pre R:=by
 obtain⟨v,H1,h1,h2⟩:=k
 exact .gdT hp (.call hf h1) h2
theorem VD.go (h : dop P f t H=some (v,H1)) (k : VD P is (st v d t) H1 (pre++[H]) R) : VD P (.go f d::is) t H pre R:=.does (.of h) k
theorem VD.un (h : dop P f t H=some (v,H1)) (k : VD P is t H1 (pre++[H]) R) : VD P (.un f::is) t H pre R:=.doesU (.of h) k
def DEnd (P : Program) [Gl P] [Orc P] (rnd : Option Nat) (Q : FQ) (K : List FFr) (m : List Nat) (n : Nat) (cs : List FC) (t : TT) (Gs : List Heap) : Prop:=monoG Gs∧dcAll P t Gs cs∧∃ H',Gs[n]?=some H'∧V P rnd Q K .normal t m H'
theorem dcAll_at {P : Program} {t : TT} {Gs : List Heap} {g : Nat→FC} : ∀ {l : List Nat},dcAll P t Gs (l.map g)→∀ k∈l,dcOk P t Gs (g k)
 | [],_,k,hk=>by cases hk
 | j::l,h,k,hk=>by
  rcases List.mem_cons.1 hk with rfl|hk
  ·exact h.1
  ·exact dcAll_at h.2 k hk
theorem V.draw {n : Nat} {cs : List FC} (h : VD P is t H [] (DEnd P rnd Q K m n cs)) : V P rnd Q (.seq (.draw n is cs)::K) .normal t m H:=by
 intro c tm hc ht
 obtain⟨i,ops,rfl,hp,rfl,rfl,rfl⟩:=comp_draw hc
 obtain⟨T,Gs,t',⟨n0,k1⟩,k2,k3,k4,H',k5,k6⟩:=h ops (mkPlan ops).sig tm rfl ht
 simp only[List.nil_append] at k3 k4 k5
 refine⟨.normal,T,m,H',t',⟨n0+1,fun N hN=>?_⟩,k2,k6⟩
 obtain⟨N,rfl⟩ : ∃ M,N=M+1:=⟨N-1,by omega⟩
 have hx:=k1 N (by omega)
 have hp':=planOk_reach hp
 simp only[planOkG,Bool.and_eq_true] at hp'
 have hsz : (mkPlan ops).sig.length=ops.size:=by simpa using hp'.1.1.1.1.1
 have hpos:=hp'.1.1.1.1.2
 have e4 : Gs.length=(mkPlan ops).sig.length+1:=(xsteps_size hx).2.1
 have hdyn : dynOk P ops (mkPlan ops) tm T Gs=true:=by
  rw[dynOk_eq]
  refine List.all_eq_true.2 ?_
  intro k hk
  have hk':=List.mem_range.1 hk
  have hq:=allB_at hpos hk'
  simp only[Bool.and_eq_true,decide_eq_true_eq] at hq
  have l1 : (mkPlan ops).p k<Gs.length:=by omega
  have l2 : (mkPlan ops).p k+1<Gs.length:=by omega
  have g0 : ops[k]?=some ops[k]:=by simp[hk']
  have g1 : Gs[(mkPlan ops).p k]?=some Gs[(mkPlan ops).p k]:=by simp[l1]
  have g2 : Gs[(mkPlan ops).p k+1]?=some Gs[(mkPlan ops).p k+1]:=by simp[l2]
  simp only[g0,g1,g2,Bool.and_eq_true,decide_eq_true_eq]
  exact⟨monoG_at k3 g1 g2,dcOk_dyn k2 g0 g1 g2 (dcAll_at k4 k hk)⟩
 have e5 : Gs.getD ops.size H=H':=by rw[List.getD_eq_getElem?_getD,k5];rfl
 simp only[exec,if_true,xdraw,hp,hx,hdyn,e5]
end
end Go.Xe
