/- Rules of reasoning over the executable reading of the model's code (part Z4): the operations in the direct style are the reading's, all of them. Conditions: none. -/
import Derived.Test.YtgcdbdcnlhonfaaZc
namespace Go.Xe
open Go
section
variable {P : Program} [Gl P]
theorem map_some {α β : Type} {x : Option α} {f : α→β} {y : β} (h : x.map f=some y) : ∃ a,x=some a∧f a=y:=Option.map_eq_some_iff.1 h
theorem dok_len (x : Operand) (ts : Array TypeId) : DOk P (compOp P (.call { callee:=.builtin .len,args:=⟨[x]⟩,argTypes:=ts })) (.call { callee:=.builtin .len,args:=⟨[x]⟩,argTypes:=ts }):=by
 have key : ∀ {ty : TypeId} {t : TT} {tm : Array Value} {H : Heap} {v : Value},ts.toList=[ty]→TR t tm→xlen P H ty (ev P tm x)=some v→xop P H (ev P tm) (.call { callee:=.builtin .len,args:=⟨[x]⟩,argTypes:=ts })=some (v,H):=by
  intro ty t tm H v hts ht h
  have e : (Array.map (ev P tm) (⟨[x]⟩ : Array Operand)).toList=[ev P tm x]:=by simp
  simp only[xop,hts,e,xbuiltin,h,Option.map_some]
 have kd : ∀ {k : Nat} {ty : TypeId} {t : TT} {tm : Array Value} {H H' : Heap} {v : Value},ts.toList=[ty]→TR t tm→(∀ v,ylen k H (ev P tm x)=some v→xlen P H ty (ev P tm x)=some v)→dop P (.len k (compA P x)) t H=some (v,H') →
   xop P H (ev P tm) (.call { callee:=.builtin .len,args:=⟨[x]⟩,argTypes:=ts })=some (v,H'):=by
  intro k ty t tm H H' v hts ht hk h
  simp only[dop,dA_comp ht] at h
  obtain⟨y,hy,hv⟩:=map_some h
  cases hv
  exact key hts ht (hk _ hy)
 simp only[compOp,compLen]
 split
 ·rename_i ty hts
  split
  ·rename_i e h1
   intro t tm H H' v ht h
   refine kd hts ht (fun w hw=>?_) h
   unfold ylen at hw
   split at hw<;>first|(rename_i hx hk;cases hk;done)|skip
   all_goals first|(cases hw;done)|skip
   all_goals (rename_i hx;first|(rename_i hk;cases hk;done)|skip)
   all_goals (simp only[xlen,h1,hx];exact hw)
  ·rename_i h1
   intro t tm H H' v ht h
   refine kd hts ht (fun w hw=>?_) h
   generalize ev P tm x=y at hw
   cases y<;>simp[ylen] at hw
   simp only[xlen,h1,hw]
  ·rename_i k e h1
   intro t tm H H' v ht h
   refine kd hts ht (fun w hw=>?_) h
   generalize ev P tm x=y at hw
   cases y with
   | map m=>cases m<;>simp only[xlen,h1]<;>exact hw
   | _=>simp[ylen] at hw
  ·rename_i n e h1
   intro t tm H H' v ht h
   simp only[dop] at h
   cases h
   refine key hts ht ?_
   simp only[xlen,h1]
   rfl
  ·exact .bad
 ·exact .bad
theorem dok_cap (x : Operand) (ts : Array TypeId) : DOk P (compOp P (.call { callee:=.builtin .cap,args:=⟨[x]⟩,argTypes:=ts })) (.call { callee:=.builtin .cap,args:=⟨[x]⟩,argTypes:=ts }):=by
 simp only[compOp,compCap]
 split
 ·rename_i ty hts
  split
  ·rename_i e h1
   intro t tm H H' v ht h
   simp only[dop,dA_comp ht] at h
   obtain⟨y,hy,hv⟩:=map_some h
   cases hv
   have e : (Array.map (ev P tm) (⟨[x]⟩ : Array Operand)).toList=[ev P tm x]:=by simp
   simp only[xop,hts,e,xbuiltin]
   generalize ev P tm x=z at hy
   unfold ycap at hy
   split at hy
   ·simp only[xcap,h1];cases hy;rfl
   ·cases hy
  ·exact .bad
 ·exact .bad
theorem dok_append (s x : Operand) (ts : Array TypeId) : DOk P (compOp P (.call { callee:=.builtin .append,args:=⟨[s,x]⟩,argTypes:=ts })) (.call { callee:=.builtin .append,args:=⟨[s,x]⟩,argTypes:=ts }):=by
 simp only[compOp,compAppend]
 split
 ·rename_i ty uy hts
  split
  ·rename_i e e' h1 h1'
   split
   ·rename_i ie h2
    split
    ·rename_i z h3
     split
     ·rename_i h4
      obtain⟨a1,a2,a3⟩:=h4
      intro t tm H H' v ht h
      simp only[dop,dA_comp ht] at h
      have e : (Array.map (ev P tm) (⟨[s,x]⟩ : Array Operand)).toList=[ev P tm s,ev P tm x]:=by simp
      simp only[xop,hts,e,xbuiltin,h1']
      unfold yappend at h
      split at h
      ·rename_i a n c b m c' hs hx
       simp only[xappend,h1,h1',hs,hx,h2,h3]
       by_cases hm : m=0
       ·rw[if_pos hm] at h ⊢;exact h
       ·rw[if_neg hm] at h ⊢
        cases hso : xsource H ie.size m b with
        | none=>rw[hso] at h;cases h
        | some new=>
         rw[hso] at h
         simp only[a1,true_and]
         exact h
      ·cases h
     ·exact .bad
    ·exact .bad
   ·exact .bad
  ·split
   ·split
    ·split
     ·intro t tm H H' v ht h
      simp[dop] at h
     ·exact .bad
    ·exact .bad
   ·exact .bad
  ·exact .bad
 ·exact .bad
theorem dok_clear (x : Operand) (ts : Array TypeId) : DOk P (compOp P (.call { callee:=.builtin .clear,args:=⟨[x]⟩,argTypes:=ts })) (.call { callee:=.builtin .clear,args:=⟨[x]⟩,argTypes:=ts }):=by
 simp only[compOp,compClear]
 split
 ·rename_i ty hts
  split
  ·rename_i e h1
   split
   ·rename_i ie h2
    split
    ·rename_i z h3
     split
     ·rename_i h4
      obtain⟨a1,a2,a3⟩:=h4
      intro t tm H H' v ht h
      simp only[dop,dA_comp ht] at h
      obtain⟨H1,h5,h6⟩:=map_some h
      cases h6
      have e : (Array.map (ev P tm) (⟨[x]⟩ : Array Operand)).toList=[ev P tm x]:=by simp
      simp only[xop,hts,e,xbuiltin]
      unfold yclear at h5
      have ez : (⟨z.cells.toList⟩ : Array Value)=z.cells:=rfl
      split at h5
      ·rename_i hx;cases h5;simp only[xclear,h1,hx];rfl
      ·rename_i i o n c hx
       simp only[xclear,h1,hx,h2,h3]
       split at h5
       ·rename_i hn;cases h5;rw[if_pos hn];rfl
       ·rename_i hn
        rw[if_neg hn]
        split at h5
        ·rename_i cd el hc
         simp only[hc]
         split at h5
         ·rename_i hb;cases h5;rw[if_pos ⟨a3,a1,a2,hb⟩];rfl
         ·cases h5
        ·cases h5
      ·rename_i hx;cases h5;simp only[xclear,h1,hx];rfl
      ·cases h5
     ·exact .bad
    ·exact .bad
   ·exact .bad
  ·exact .bad
 ·exact .bad
theorem dok_copy (d s : Operand) (ts : Array TypeId) : DOk P (compOp P (.call { callee:=.builtin .copy,args:=⟨[d,s]⟩,argTypes:=ts })) (.call { callee:=.builtin .copy,args:=⟨[d,s]⟩,argTypes:=ts }):=by
 simp only[compOp,compCopy]
 split
 ·rename_i ty uy hts
  split
  ·rename_i e h1
   split
   ·rename_i ie h2
    split
    ·rename_i h4
     intro t tm H H' v ht h
     simp only[dop,dA_comp ht] at h
     have e : (Array.map (ev P tm) (⟨[d,s]⟩ : Array Operand)).toList=[ev P tm d,ev P tm s]:=by simp
     simp only[xop,hts,e,xbuiltin]
     unfold ycopy at h
     split at h
     ·rename_i db dn dc sb m sc hd hs
      simp only[xcopy,h1,hd,hs,h2]
      split at h
      ·rename_i h0;rw[if_pos h0];exact h
      ·rename_i h0
       rw[if_neg h0]
       split at h
       ·rename_i new i o hso
        simp only[hso]
        split at h
        ·rename_i cd el hc
         simp only[hc]
         split at h
         ·rename_i hb;rw[if_pos ⟨hb.1,h4,hb.2⟩];exact h
         ·cases h
        ·cases h
       ·cases h
     ·cases h
    ·exact .bad
   ·exact .bad
  ·exact .bad
 ·exact .bad
theorem dop_ok (op : Op) : DOk P (compOp P op) op:=by
 cases op with
 | move x=>intro t tm H H' v ht h;simp only[compOp,dop,dA_comp ht] at h;exact h
 | assign x=>intro t tm H H' v ht h;simp only[compOp,dop,dA_comp ht] at h;exact h
 | pick c a b=>
  intro t tm H H' v ht h
  simp only[compOp,dop,dA_comp ht] at h
  unfold ypick at h
  split at h
  ·rename_i b hb
   simp only[xop,hb];exact h
  ·cases h
 | alloc e=>exact dok_alloc e
 | box e x=>intro t tm H H' v ht h;simp only[compOp,dop,dA_comp ht] at h;exact h
 | build ty ps=>exact dok_build ty ps
 | buildSlice ty n ps=>exact dok_buildSlice ty n ps
 | load ty a=>exact dok_load ty a
 | store ty a x=>exact dok_store ty a x
 | nilCheck x=>intro t tm H H' v ht h;simp only[compOp,dop,dA_comp ht] at h;exact h
 | binOp op ty x y r=>intro t tm H H' v ht h;simp only[compOp,dop,dA_comp ht] at h;exact h
 | unOp op ty x=>intro t tm H H' v ht h;simp only[compOp,dop,dA_comp ht] at h;exact h
 | convert s d x=>exact dok_convert s d x
 | makeFunc fn a b=>
  cases fn with
  | func f=>
   intro t tm H H' v ht h
   simp only[compOp,dop,parts_eq ht] at h
   simp only[xop,xmkFunc,Option.map_some]
   rw[← h]
   congr 3<;>(apply Array.toList_inj.1;simp)
  | _=>exact .bad
 | makeMap ty r=>
  have key : ∀ {kt et : TypeId},P.underlying ty=some (.map kt et)→okHint (r.map (ev P #[]))=true→(∀ tm,r.map (ev P tm)=r.map (ev P #[]))→DOk P (.makeMap kt) (.makeMap ty r):=by
   intro kt et h1 hr hc t tm H H' v ht h
   simp only[dop] at h
   simp only[xop,xmakeMap,h1,hc tm,hr,if_true]
   exact h
  cases r with
  | none=>
   simp only[compOp]
   split
   ·rename_i kt et h1;exact key h1 rfl (fun _=>rfl)
   ·exact .bad
  | some c=>
   cases c with
   | const v=>
    cases v with
    | int k n=>
     simp only[compOp]
     split
     ·rename_i kt et h1;exact key h1 rfl (fun _=>rfl)
     ·exact .bad
    | _=>exact .bad
   | _=>exact .bad
 | makeSlice ty l c=>exact dok_makeSlice ty l c
 | slice ty x lo hi mx=>exact dok_slice ty x lo hi mx
 | fieldAddr ty x f=>exact dok_fieldAddr ty x f
 | field ty x f=>exact dok_field ty x f
 | indexAddr ty x i=>exact dok_indexAddr ty x i
 | index ty x i=>exact dok_index ty x i
 | lookup ty x k ok=>exact dok_lookup ty x k ok
 | mapUpdate ty m k x=>exact dok_mapUpdate ty m k x
 | insert ty m k x=>exact dok_mapUpdate ty m k x
 | extract x i=>intro t tm H H' v ht h;simp only[compOp,dop,dA_comp ht] at h;exact h
 | call c=>
  obtain⟨callee,args,ts⟩:=c
  cases callee with
  | builtin b=>
   cases b with
   | len=>
    obtain⟨l⟩:=args
    match l with
    | [x]=>exact dok_len x ts
    | []=>exact .bad
    | _::_::_=>exact .bad
   | cap=>
    obtain⟨l⟩:=args
    match l with
    | [x]=>exact dok_cap x ts
    | []=>exact .bad
    | _::_::_=>exact .bad
   | append=>
    obtain⟨l⟩:=args
    match l with
    | [s,x]=>exact dok_append s x ts
    | []=>exact .bad
    | [_]=>exact .bad
    | _::_::_::_=>exact .bad
   | clear=>
    obtain⟨l⟩:=args
    match l with
    | [x]=>exact dok_clear x ts
    | []=>exact .bad
    | _::_::_=>exact .bad
   | copy=>
    obtain⟨l⟩:=args
    match l with
    | [d,s]=>exact dok_copy d s ts
    | []=>exact .bad
    | [_]=>exact .bad
    | _::_::_::_=>exact .bad
   | min=>
    intro t tm H H' v ht h
    simp only[compOp,dop,parts_eq ht] at h
    simp only[xop,xbuiltin,Array.toList_map];exact h
   | max=>
    intro t tm H H' v ht h
    simp only[compOp,dop,parts_eq ht] at h
    simp only[xop,xbuiltin,Array.toList_map];exact h
   | _=>exact .bad
  | value f=>
   intro t tm H H' v ht h
   simp[compOp,dop] at h
  | _=>exact .bad
 | _=>exact .bad
end
end Go.Xe
/- Rules of reasoning over the executable reading of the model's code (part Z5): code whose types are resolved, step by step. Conditions: none; for every program. -/
namespace Go.Xe
open Go
inductive FFr where
 | seq (x : FCode)
 | block (id : Nat)
section
variable (P : Program) [Gl P] [Orc P]
abbrev FQ:=XE→TT→List Nat→Heap→Prop
def V (rnd : Option Nat) (Q : FQ) : List FFr→XE→TT→List Nat→Heap→Prop
 | [],e,t,m,H=>Q e t m H
 | .seq x::K,.normal,t,m,H=>∀ c tm,comp P c=x→TR t tm→∃ e tm' m' H' t',EvC P rnd c ⟨tm,m,H⟩ e ⟨tm',m',H'⟩∧TR t' tm'∧V rnd Q K e t' m' H'
 | .seq _::K,.exit id,t,m,H=>V rnd Q K (.exit id) t m H
 | .seq _::K,.ret,t,m,H=>V rnd Q K .ret t m H
 | .block id::K,.exit id',t,m,H=>if id'=id then V rnd Q K .normal t m H else V rnd Q K (.exit id') t m H
 | .block _::K,.normal,t,m,H=>V rnd Q K .normal t m H
 | .block _::K,.ret,t,m,H=>V rnd Q K .ret t m H
def VI (rnd : Option Nat) (Q : FQ) (K : List FFr) (m : List Nat) (is : List FI) (t : TT) (H : Heap) : Prop:=∀ (ops : Array Oper) (l : List Oper) (tm : Array Value),l.map (compFIS P ops)=is→TR t tm →
 ∃ tm' H' t',EvO P ops l tm H tm' H'∧TR t' tm'∧V P rnd Q K .normal t' m H'
end
section
variable {P : Program} [Gl P] {id : Nat} {x y : FCode}
theorem comp_skip {c : Code} (h : comp P c=.skip) : c=.skip∨∃ l,c=.label l:=by
 cases c<;>(try simp only[comp] at h)<;>first|(cases h;done)|exact .inl rfl|exact .inr ⟨_,rfl⟩|skip
 rename_i i ops d
 cases d<;>(try simp only[comp] at h)
 ·cases h
 ·split at h<;>cases h
theorem comp_exit {c : Code} (h : comp P c=.exit id) : c=.exit id:=by
 cases c<;>(try simp only[comp] at h)<;>first|(cases h;done)|(cases h;rfl)|skip
 rename_i i ops d
 cases d<;>(try simp only[comp] at h)
 ·cases h
 ·split at h<;>cases h
theorem comp_ret {c : Code} (h : comp P c=.ret) : c=.ret:=by
 cases c<;>(try simp only[comp] at h)<;>first|(cases h;done)|rfl|skip
 rename_i i ops d
 cases d<;>(try simp only[comp] at h)
 ·cases h
 ·split at h<;>cases h
theorem comp_seq {c : Code} (h : comp P c=.seq x y) : ∃ a b,c=.seq a b∧comp P a=x∧comp P b=y:=by
 cases c<;>(try simp only[comp] at h)<;>first|(cases h;done)|(cases h;exact⟨_,_,rfl,rfl,rfl⟩)|skip
 rename_i i ops d
 cases d<;>(try simp only[comp] at h)
 ·cases h
 ·split at h<;>cases h
theorem comp_cond {c : Code} {q : FA} (h : comp P c=.cond q x y) : ∃ o a b,c=.cond o a b∧compA P o=q∧comp P a=x∧comp P b=y:=by
 cases c<;>(try simp only[comp] at h)<;>first|(cases h;done)|(cases h;exact⟨_,_,_,rfl,rfl,rfl,rfl⟩)|skip
 rename_i i ops d
 cases d<;>(try simp only[comp] at h)
 ·cases h
 ·split at h<;>cases h
theorem comp_block {c : Code} (h : comp P c=.block id x) : ∃ a,c=.block id a∧comp P a=x:=by
 cases c<;>(try simp only[comp] at h)<;>first|(cases h;done)|(cases h;exact⟨_,rfl,rfl⟩)|skip
 rename_i i ops d
 cases d<;>(try simp only[comp] at h)
 ·cases h
 ·split at h<;>cases h
theorem comp_scope {c : Code} (h : comp P c=.scope x) : ∃ a,c=.scope a∧comp P a=x:=by
 cases c<;>(try simp only[comp] at h)<;>first|(cases h;done)|(cases h;exact⟨_,rfl,rfl⟩)|skip
 rename_i i ops d
 cases d<;>(try simp only[comp] at h)
 ·cases h
 ·split at h<;>cases h
theorem comp_loop {c : Code} (h : comp P c=.loop x) : ∃ a,c=.loop a∧comp P a=x:=by
 cases c<;>(try simp only[comp] at h)<;>first|(cases h;done)|(cases h;exact⟨_,rfl,rfl⟩)|skip
 rename_i i ops d
 cases d<;>(try simp only[comp] at h)
 ·cases h
 ·split at h<;>cases h
theorem comp_run {c : Code} {is : List FI} (h : comp P c=.run is) : ∃ i ops,c=.region i ops false∧ops.toList.map (compFIS P ops)=is:=by
 cases c<;>(try simp only[comp] at h)<;>first|(cases h;done)|skip
 rename_i i ops d
 cases d<;>(try simp only[comp] at h)
 ·cases h;exact⟨_,_,rfl,rfl⟩
 ·split at h<;>cases h
theorem list_cons {α β : Type} {f : α→β} {l : List α} {b : β} {r : List β} (h : l.map f=b::r) : ∃ a l',l=a::l'∧f a=b∧l'.map f=r:=by
 cases l with
 | nil=>cases h
 | cons a l'=>simp only[List.map_cons,List.cons.injEq] at h;exact⟨a,l',rfl,h.1,h.2⟩
theorem compFIS_go {ops : Array Oper} {o : Oper} {f : FOp} {d : Pth} (h : compFIS P ops o=.go f d) : o.guard=none∧∃ i,o.dst=some i∧pth i=d∧compOpS P o.op=f:=by
 unfold compFIS compFIG at h
 split at h
 ·rename_i hg
  split at h
  ·rename_i i hd;cases h;exact⟨hg,i,hd,rfl,rfl⟩
  ·cases h
 ·split at h
  ·split at h<;>cases h
  ·cases h
theorem compFIS_un {ops : Array Oper} {o : Oper} {f : FOp} (h : compFIS P ops o=.un f) : (o.guard=none∧o.dst=none∧compOpS P o.op=f)∨f=badOp:=by
 unfold compFIS compFIG at h
 split at h
 ·rename_i hg
  split at h
  ·cases h
  ·rename_i hd;cases h;exact .inl ⟨hg,hd,rfl⟩
 ·split at h
  ·split at h<;>cases h
  ·cases h;exact .inr rfl
theorem compFIS_gd {ops : Array Oper} {o : Oper} {f : FOp} {p d : Pth} {w : Bool} (h : compFIS P ops o=.gd p w f d) : ∃ j g i,o.guard=some (j,w)∧(ops[j]?).bind (·.dst)=some g∧pth g=p∧o.dst=some i∧pth i=d∧compOpS P o.op=f:=by
 unfold compFIS compFIG at h
 split at h
 ·split at h<;>cases h
 ·rename_i j w' hg
  split at h
  ·rename_i g hj
   split at h
   ·rename_i i hd;cases h;exact⟨j,g,i,hg,hj,rfl,hd,rfl,rfl⟩
   ·cases h
  ·cases h
end
section
variable {P : Program} [Gl P] [Orc P] {rnd : Option Nat} {Q : FQ} {K : List FFr} {t : TT} {m : List Nat} {H : Heap} {id id' : Nat} {x y : FCode}
theorem V.seq (h : V P rnd Q (.seq x::.seq y::K) .normal t m H) : V P rnd Q (.seq (.seq x y)::K) .normal t m H:=by
 intro c tm hc ht
 obtain⟨a,b,rfl,rfl,rfl⟩:=comp_seq hc
 obtain⟨e,tm1,m1,H1,t1,h1,h2,h3⟩:=h a tm rfl ht
 cases e with
 | normal=>obtain⟨e2,tm2,m2,H2,t2,k1,k2,k3⟩:=h3 b tm1 rfl h2;exact⟨e2,tm2,m2,H2,t2,h1.seq k1,k2,k3⟩
 | exit id=>exact⟨_,tm1,m1,H1,t1,h1.seq' (by simp),h2,h3⟩
 | ret=>exact⟨_,tm1,m1,H1,t1,h1.seq' (by simp),h2,h3⟩
theorem V.skip (h : V P rnd Q K .normal t m H) : V P rnd Q (.seq .skip::K) .normal t m H:=by
 intro c tm hc ht
 rcases comp_skip hc with rfl|⟨l,rfl⟩<;>exact⟨_,tm,m,H,t,⟨1,fun N hN=>by obtain⟨N,rfl⟩ : ∃ M,N=M+1:=⟨N-1,by omega⟩;simp only[exec]⟩,ht,h⟩
theorem V.exit (h : V P rnd Q K (.exit id) t m H) : V P rnd Q (.seq (.exit id)::K) .normal t m H:=by
 intro c tm hc ht
 obtain rfl:=comp_exit hc
 exact⟨_,tm,m,H,t,⟨1,fun N hN=>by obtain⟨N,rfl⟩ : ∃ M,N=M+1:=⟨N-1,by omega⟩;simp only[exec]⟩,ht,h⟩
theorem V.ret (h : V P rnd Q K .ret t m H) : V P rnd Q (.seq .ret::K) .normal t m H:=by
 intro c tm hc ht
 obtain rfl:=comp_ret hc
 exact⟨_,tm,m,H,t,⟨1,fun N hN=>by obtain⟨N,rfl⟩ : ∃ M,N=M+1:=⟨N-1,by omega⟩;simp only[exec]⟩,ht,h⟩
theorem V.condB {q : FA} {b : Bool} (hb : dA t q=.bool b) (h1 : b=true→V P rnd Q (.seq x::K) .normal t m H) (h2 : b=false→V P rnd Q (.seq y::K) .normal t m H) : V P rnd Q (.seq (.cond q x y)::K) .normal t m H:=by
 intro c tm hc ht
 obtain⟨o,a1,a2,rfl,rfl,rfl,rfl⟩:=comp_cond hc
 rw[dA_comp ht] at hb
 have key : ∀ a,(if b then a1 else a2)=a→V P rnd Q (.seq (comp P a)::K) .normal t m H→∃ e tm' m' H' t',EvC P rnd (.cond o a1 a2) ⟨tm,m,H⟩ e ⟨tm',m',H'⟩∧TR t' tm'∧V P rnd Q K e t' m' H':=by
  intro a ha h
  obtain⟨e,tm1,m1,H1,t1,⟨n,k1⟩,k2,k3⟩:=h a tm rfl ht
  refine⟨e,tm1,m1,H1,t1,⟨n+1,fun N hN=>?_⟩,k2,k3⟩
  obtain⟨N,rfl⟩ : ∃ M,N=M+1:=⟨N-1,by omega⟩
  simp only[exec,hb,ha]
  exact k1 N (by omega)
 cases b
 ·exact key a2 rfl (h2 rfl)
 ·exact key a1 rfl (h1 rfl)
theorem V.condP {q : FA} {p : Prop} [Decidable p] (hb : dA t q=.bool (decide p)) (h1 : p→V P rnd Q (.seq x::K) .normal t m H) (h2 : ¬ p→V P rnd Q (.seq y::K) .normal t m H) : V P rnd Q (.seq (.cond q x y)::K) .normal t m H:=
 V.condB hb (fun h=>h1 (of_decide_eq_true h)) (fun h=>h2 (of_decide_eq_false h))
theorem V.condT {q : FA} (hb : dA t q=.bool true) (h : V P rnd Q (.seq x::K) .normal t m H) : V P rnd Q (.seq (.cond q x y)::K) .normal t m H:=V.condB hb (fun _=>h) (fun h=>by cases h)
theorem V.condF {q : FA} (hb : dA t q=.bool false) (h : V P rnd Q (.seq y::K) .normal t m H) : V P rnd Q (.seq (.cond q x y)::K) .normal t m H:=V.condB hb (fun h=>by cases h) (fun _=>h)
theorem V.block (h : V P rnd Q (.seq x::.block id::K) .normal t m H) : V P rnd Q (.seq (.block id x)::K) .normal t m H:=by
 intro c tm hc ht
 obtain⟨a,rfl,rfl⟩:=comp_block hc
 obtain⟨e,tm1,m1,H1,t1,⟨n,h1⟩,h2,h3⟩:=h a tm rfl ht
 cases e with
 | normal=>
  refine⟨.normal,tm1,m1,H1,t1,⟨n+1,fun N hN=>?_⟩,h2,h3⟩
  obtain⟨N,rfl⟩ : ∃ M,N=M+1:=⟨N-1,by omega⟩
  simp only[exec,h1 N (by omega)]
 | ret=>
  refine⟨.ret,tm1,m1,H1,t1,⟨n+1,fun N hN=>?_⟩,h2,h3⟩
  obtain⟨N,rfl⟩ : ∃ M,N=M+1:=⟨N-1,by omega⟩
  simp only[exec,h1 N (by omega)]
 | exit id'=>
  simp only[V] at h3
  split at h3
  ·rename_i hid
   refine⟨.normal,tm1,m1,H1,t1,⟨n+1,fun N hN=>?_⟩,h2,h3⟩
   obtain⟨N,rfl⟩ : ∃ M,N=M+1:=⟨N-1,by omega⟩
   simp only[exec,h1 N (by omega),hid,if_true]
  ·rename_i hid
   refine⟨.exit id',tm1,m1,H1,t1,⟨n+1,fun N hN=>?_⟩,h2,h3⟩
   obtain⟨N,rfl⟩ : ∃ M,N=M+1:=⟨N-1,by omega⟩
   simp only[exec,h1 N (by omega),hid,if_false]
theorem V.scope (h : V P rnd Q (.seq x::K) .normal t m H) : V P rnd Q (.seq (.scope x)::K) .normal t m H:=by
 intro c tm hc ht
 obtain⟨a,rfl,rfl⟩:=comp_scope hc
 obtain⟨e,tm1,m1,H1,t1,⟨n,h1⟩,h2,h3⟩:=h a tm rfl ht
 refine⟨e,tm1,m1,H1,t1,⟨n+1,fun N hN=>?_⟩,h2,h3⟩
 obtain⟨N,rfl⟩ : ∃ M,N=M+1:=⟨N-1,by omega⟩
 simp only[exec];exact h1 N (by omega)
theorem V.out (hid : id'≠id) (h : V P rnd Q K (.exit id') t m H) : V P rnd Q (.block id::K) (.exit id') t m H:=by simp only[V];rw[if_neg hid];exact h
theorem V.here (h : V P rnd Q K .normal t m H) : V P rnd Q (.block id::K) (.exit id) t m H:=by simp only[V,if_true];exact h
theorem V.pass (h : V P rnd Q K (.exit id) t m H) : V P rnd Q (.seq x::K) (.exit id) t m H:=h
theorem V.close (h : V P rnd Q K .normal t m H) : V P rnd Q (.block id::K) .normal t m H:=h
theorem V.nil {e : XE} (h : Q e t m H) : V P rnd Q [] e t m H:=h
theorem V.loop (I : Nat→TT→List Nat→Heap→Prop) (n : Nat) (h0 : I n t m H)
  (hs : ∀ n t m H,I n t m H→V P rnd (fun e t m H=>(e=.normal∧∃ n',n'<n∧I n' t m H)∨(e≠.normal∧V P rnd Q K e t m H)) [.seq x] .normal t m H) : V P rnd Q (.seq (.loop x)::K) .normal t m H:=by
 intro c tm hc ht
 obtain⟨a,rfl,rfl⟩:=comp_loop hc
 induction n using Nat.strongRecOn generalizing t m H tm with
 | _ n ih=>
  obtain⟨e,tm1,m1,H1,t1,h1,h2,h3⟩:=hs n t m H h0 a tm rfl ht
  rcases h3 with⟨rfl,n',hn,hi⟩|⟨hn,hq⟩
  ·obtain⟨e2,tm2,m2,H2,t2,k1,k2,k3⟩:=ih n' hn hi tm1 h2
   exact⟨e2,tm2,m2,H2,t2,h1.loop_round k1,k2,k3⟩
  ·exact⟨e,tm1,m1,H1,t1,h1.loop_end hn,h2,hq⟩
theorem V.run {is : List FI} (h : VI P rnd Q K m is t H) : V P rnd Q (.seq (.run is)::K) .normal t m H:=by
 intro c tm hc ht
 obtain⟨i,ops,rfl,hi⟩:=comp_run hc
 obtain⟨tm1,H1,t1,⟨n,h1⟩,h2,h3⟩:=h ops ops.toList tm hi ht
 refine⟨_,tm1,m,H1,t1,⟨n+1,fun N hN=>?_⟩,h2,h3⟩
 obtain⟨N,rfl⟩ : ∃ M,N=M+1:=⟨N-1,by omega⟩
 simp only[exec,Bool.false_eq_true,if_false,h1 N (by omega)]
theorem VI.done (h : V P rnd Q K .normal t m H) : VI P rnd Q K m [] t H:=by
 intro ops l tm hl ht
 cases l with
 | nil=>exact⟨tm,H,t,⟨0,fun N _=>rfl⟩,ht,h⟩
 | cons=>cases hl
theorem dopS_ok {op : Op} {tm : Array Value} {v : Value} {H' : Heap} (ht : TR t tm) (h : dop P (compOpS P op) t H=some (v,H')) (ex : Ex) : xopvS P ex (ev P tm) op H=some (v,H'):=by
 have base : ∀ op,dop P (compOp P op) t H=some (v,H')→xopv P ex (ev P tm) op H=some (v,H'):=by
  intro op h
  have h1:=dop_ok op t tm H H' v ht h
  unfold xopv
  split
  ·rename_i f args ts
   simp[compOp,dop] at h
  ·exact h1
 have up : xopv P ex (ev P tm) op H=some (v,H')→xopvS P ex (ev P tm) op H=some (v,H'):=by
  intro h;unfold xopvS;rw[h]
 unfold compOpS at h
 split at h
 ·rename_i src dst x
  split at h
  ·rename_i e h1 h2
   split at h
   ·rename_i h3
    simp only[dop,dA_comp ht] at h
    have hn : xopv P ex (ev P tm) (.convert src dst x) H=none:=by
     unfold ytoStr at h
     split at h
     ·rename_i hx;simp[xopv,xop,hx,xconv]
     ·cases h
    unfold xopvS
    rw[hn]
    simp only
    unfold ytoStr at h
    split at h
    ·rename_i a n c hx
     simp only[xconvS,hx,h1,h2,h3,if_true]
     exact h
    ·cases h
   ·simp[badOp,dop] at h
  ·rename_i e h1 h2
   split at h
   ·rename_i h3
    simp only[dop,dA_comp ht] at h
    unfold ytoBytes at h
    split at h
    ·rename_i s hx
     have hn : xopv P ex (ev P tm) (.convert src dst x) H=none:=by simp[xopv,xop,hx,xconv]
     unfold xopvS
     rw[hn]
     simp only[xconvS,hx,h1,h2,h3,if_true]
     exact h
    ·cases h
   ·simp[badOp,dop] at h
  ·exact up (base _ h)
 ·exact up (base _ h)
theorem EvO.cons {ops : Array Oper} {o : Oper} {l : List Oper} {tm tm1 : Array Value} {v : Value} {H1 H2 : Heap} (hw : xwanted ops tm o=some true) (h : ∃ N0,∀ N,N0≤N→xopvS P (exec P N) (ev P tm) o.op H=some (v,H1)) (k : EvO P ops l (put tm o.dst v) H1 tm1 H2) :
  EvO P ops (o::l) tm H tm1 H2:=by
 obtain⟨n,h⟩:=h;obtain⟨n1,k⟩:=k
 exact⟨n+n1,fun N hN=>by simp only[xrun,hw,h N (by omega),k N (by omega)]⟩
theorem EvO.not {ops : Array Oper} {o : Oper} {l : List Oper} {tm tm1 : Array Value} {H2 : Heap} (hw : xwanted ops tm o=some false) (k : EvO P ops l (put tm o.dst undef) H tm1 H2) : EvO P ops (o::l) tm H tm1 H2:=by
 obtain⟨n1,k⟩:=k
 exact⟨n1,fun N hN=>by simp only[xrun,hw,k N hN]⟩
variable {is : List FI} {f : FOp} {d p : Pth} {w : Bool} {v : Value} {H1 : Heap}
def Does (P : Program) [Gl P] [Orc P] (f : FOp) (t : TT) (H : Heap) (v : Value) (H1 : Heap) : Prop:=∀ op tm,compOpS P op=f→TR t tm→∃ N0,∀ N,N0≤N→xopvS P (exec P N) (ev P tm) op H=some (v,H1)
theorem Does.of (h : dop P f t H=some (v,H1)) : Does P f t H v H1:=by
 intro op tm ho ht
 subst ho
 exact⟨0,fun N _=>dopS_ok ht h _⟩
theorem VI.does (h : Does P f t H v H1) (k : VI P rnd Q K m is (st v d t) H1) : VI P rnd Q K m (.go f d::is) t H:=by
 intro ops l tm hl ht
 obtain⟨o,l',rfl,ho,hl'⟩:=list_cons hl
 obtain⟨hg,i,hd,rfl,hf⟩:=compFIS_go ho
 obtain⟨tm1,H2,t1,k1,k2,k3⟩:=k ops l' (put tm o.dst v) hl' (by rw[hd];exact ht.st v i)
 exact⟨tm1,H2,t1,.cons (by unfold xwanted;rw[hg]) (h _ _ hf ht) k1,k2,k3⟩
theorem VI.doesU (h : Does P f t H v H1) (hb : f≠badOp) (k : VI P rnd Q K m is t H1) : VI P rnd Q K m (.un f::is) t H:=by
 intro ops l tm hl ht
 obtain⟨o,l',rfl,ho,hl'⟩:=list_cons hl
 rcases compFIS_un ho with⟨hg,hd,hf⟩|hf
 ·obtain⟨tm1,H2,t1,k1,k2,k3⟩:=k ops l' (put tm o.dst v) hl' (by rw[hd];exact ht)
  exact⟨tm1,H2,t1,.cons (by unfold xwanted;rw[hg]) (h _ _ hf ht) k1,k2,k3⟩
 ·exact absurd hf hb
theorem want_eq {ops : Array Oper} {o : Oper} {tm : Array Value} {j g : Nat} {b : Bool} (ht : TR t tm) (hg : o.guard=some (j,w)) (hj : (ops[j]?).bind (·.dst)=some g) (hv : gt (pth g) t=.bool b) : xwanted ops tm o=some (b == w):=by
 have : tm[g]?=some (.bool b):=by
  rw[ht.gt,Array.getD_eq_getD_getElem?] at hv
  cases hx : tm[g]? with
  | none=>rw[hx] at hv;cases hv
  | some y=>rw[hx] at hv;exact congrArg some hv
 unfold xwanted
 rw[hg]
 simp only[hj,Option.bind_some,this]
theorem VI.gdT (hp : gt p t=.bool w) (h : Does P f t H v H1) (k : VI P rnd Q K m is (st v d t) H1) : VI P rnd Q K m (.gd p w f d::is) t H:=by
 intro ops l tm hl ht
 obtain⟨o,l',rfl,ho,hl'⟩:=list_cons hl
 obtain⟨j,g,i,hg,hj,rfl,hd,rfl,hf⟩:=compFIS_gd ho
 obtain⟨tm1,H2,t1,k1,k2,k3⟩:=k ops l' (put tm o.dst v) hl' (by rw[hd];exact ht.st v i)
 refine⟨tm1,H2,t1,.cons ?_ (h _ _ hf ht) k1,k2,k3⟩
 rw[want_eq ht hg hj hp]
 simp
theorem VI.gdF (hp : gt p t=.bool (!w)) (k : VI P rnd Q K m is (st undef d t) H) : VI P rnd Q K m (.gd p w f d::is) t H:=by
 intro ops l tm hl ht
 obtain⟨o,l',rfl,ho,hl'⟩:=list_cons hl
 obtain⟨j,g,i,hg,hj,rfl,hd,rfl,hf⟩:=compFIS_gd ho
 obtain⟨tm1,H2,t1,k1,k2,k3⟩:=k ops l' (put tm o.dst undef) hl' (by rw[hd];exact ht.st undef i)
 refine⟨tm1,H2,t1,.not ?_ k1,k2,k3⟩
 rw[want_eq ht hg hj hp]
 simp
theorem VI.gdN (hp : gt p t=undef) (k : VI P rnd Q K m is (st undef d t) H) : VI P rnd Q K m (.gd p w f d::is) t H:=by
 intro ops l tm hl ht
 obtain⟨o,l',rfl,ho,hl'⟩:=list_cons hl
 obtain⟨j,g,i,hg,hj,rfl,hd,rfl,hf⟩:=compFIS_gd ho
 obtain⟨tm1,H2,t1,k1,k2,k3⟩:=k ops l' (put tm o.dst undef) hl' (by rw[hd];exact ht.st undef i)
 refine⟨tm1,H2,t1,.not ?_ k1,k2,k3⟩
 unfold xwanted
 rw[hg]
 simp only[hj,Option.bind_some]
 cases hx : tm[g]? with
 | none=>rfl
 | some y=>
  rw[ht.gt,Array.getD_eq_getD_getElem?,hx] at hp
  have : y=undef:=hp
  subst this
  rfl
end
end Go.Xe
