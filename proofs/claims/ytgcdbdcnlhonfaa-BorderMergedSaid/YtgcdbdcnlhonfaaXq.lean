/- Rules of reasoning over the executable reading of the model's code (part Z1): what a code comes to, in big steps; functions; regions, operation by operation. Conditions: none; for every program. -/
import Derived.Test.YtgcdbdcnlhonfaaXp
namespace Go.Xe
open Go
section
variable (P : Program) [Gl P] [Orc P]
def EvC (rnd : Option Nat) (c : Code) (a : AS) (e : XE) (a' : AS) : Prop:=∃ N0,∀ N,N0≤N→exec P N rnd c a=some (e,a')
def EvF (f : FuncId) (args : Array Value) (H : Heap) (v : Value) (H' : Heap) : Prop:=∃ N0,∀ N,N0≤N→xcall P (exec P N) f args H=some (v,H')
def EvY (l : Nat) (args : Array Value) (H : Heap) (v : Value) (H' : Heap) : Prop:=∃ N0,∀ N,N0≤N→xround (exec P N) l args H=some (v,H')
def EvO (ops : Array Oper) (l : List Oper) (t : Array Value) (H : Heap) (t' : Array Value) (H' : Heap) : Prop:=∃ N0,∀ N,N0≤N→xrun P (exec P N) ops l t H=some (t',H')
def EvS (ops : Array Oper) (l : List Nat) (t : Array Value) (H : Heap) (t' : Array Value) (Gs : List Heap) : Prop:=∃ N0,∀ N,N0≤N→xsteps P (exec P N) ops l t H=some (t',Gs)
inductive Fr where
 | seq (c : Code)
 | block (id : Nat)
def W (rnd : Option Nat) (Q : XE→AS→Prop) : List Fr→XE→AS→Prop
 | [],e,a=>Q e a
 | .seq c::K,.normal,a=>∃ e a',EvC P rnd c a e a'∧W rnd Q K e a'
 | .seq _::K,.exit id,a=>W rnd Q K (.exit id) a
 | .seq _::K,.ret,a=>W rnd Q K .ret a
 | .block id::K,.exit id',a=>if id'=id then W rnd Q K .normal a else W rnd Q K (.exit id') a
 | .block _::K,.normal,a=>W rnd Q K .normal a
 | .block _::K,.ret,a=>W rnd Q K .ret a
def WO (rnd : Option Nat) (Q : XE→AS→Prop) (K : List Fr) (m : List Nat) (ops : Array Oper) (l : List Oper) (t : Array Value) (H : Heap) : Prop:=∃ t' H',EvO P ops l t H t' H'∧W P rnd Q K .normal ⟨t',m,H'⟩
def F (f : FuncId) (args : Array Value) (H : Heap) (R : Value→Heap→Prop) : Prop:=∃ v H',EvF P f args H v H'∧R v H'
end
section
variable {P : Program} [Gl P] [Orc P] {rnd : Option Nat} {Q : XE→AS→Prop} {K : List Fr} {a : AS} {id id' : Nat} {c : Code}
theorem EvC.seq {x y : Code} {e : XE} {a a1 a2 : AS} (h : EvC P rnd x a .normal a1) (k : EvC P rnd y a1 e a2) : EvC P rnd (.seq x y) a e a2:=by
 obtain⟨n,h⟩:=h;obtain⟨m,k⟩:=k
 refine⟨n+m+1,fun N hN=>?_⟩
 obtain⟨N,rfl⟩ : ∃ M,N=M+1:=⟨N-1,by omega⟩
 simp only[exec,h N (by omega),k N (by omega)]
theorem EvC.seq' {x y : Code} {e : XE} {a a1 : AS} (h : EvC P rnd x a e a1) (hn : e≠.normal) : EvC P rnd (.seq x y) a e a1:=by
 obtain⟨n,h⟩:=h
 refine⟨n+1,fun N hN=>?_⟩
 obtain⟨N,rfl⟩ : ∃ M,N=M+1:=⟨N-1,by omega⟩
 simp only[exec,h N (by omega)]
 cases e<;>first|exact absurd rfl hn|rfl
theorem W.seq {x y : Code} (h : W P rnd Q (.seq x::.seq y::K) .normal a) : W P rnd Q (.seq (.seq x y)::K) .normal a:=by
 obtain⟨e,a1,h1,h2⟩:=h
 cases e with
 | normal=>obtain⟨e2,a2,h3,h4⟩:=h2;exact⟨e2,a2,h1.seq h3,h4⟩
 | exit id=>exact⟨_,a1,h1.seq' (by simp),h2⟩
 | ret=>exact⟨_,a1,h1.seq' (by simp),h2⟩
theorem W.skip (h : W P rnd Q K .normal a) : W P rnd Q (.seq .skip::K) .normal a:=
 ⟨_,a,⟨1,fun N hN=>by obtain⟨N,rfl⟩ : ∃ M,N=M+1:=⟨N-1,by omega⟩;simp only[exec]⟩,h⟩
theorem W.label {l : Nat} (h : W P rnd Q K .normal a) : W P rnd Q (.seq (.label l)::K) .normal a:=
 ⟨_,a,⟨1,fun N hN=>by obtain⟨N,rfl⟩ : ∃ M,N=M+1:=⟨N-1,by omega⟩;simp only[exec]⟩,h⟩
theorem W.exit {id : Nat} (h : W P rnd Q K (.exit id) a) : W P rnd Q (.seq (.exit id)::K) .normal a:=
 ⟨_,a,⟨1,fun N hN=>by obtain⟨N,rfl⟩ : ∃ M,N=M+1:=⟨N-1,by omega⟩;simp only[exec]⟩,h⟩
theorem W.ret (h : W P rnd Q K .ret a) : W P rnd Q (.seq .ret::K) .normal a:=
 ⟨_,a,⟨1,fun N hN=>by obtain⟨N,rfl⟩ : ∃ M,N=M+1:=⟨N-1,by omega⟩;simp only[exec]⟩,h⟩
theorem W.cond {c : Operand} {x y : Code} {b : Bool} (hb : ev P a.tmps c=.bool b) (h : W P rnd Q (.seq (if b then x else y)::K) .normal a) : W P rnd Q (.seq (.cond c x y)::K) .normal a:=by
 obtain⟨e,a1,⟨n,h1⟩,h2⟩:=h
 refine⟨e,a1,⟨n+1,fun N hN=>?_⟩,h2⟩
 obtain⟨N,rfl⟩ : ∃ M,N=M+1:=⟨N-1,by omega⟩
 simp only[exec,hb]
 exact h1 N (by omega)
theorem W.condT {c : Operand} {x y : Code} {p : Prop} [Decidable p] (hb : ev P a.tmps c=.bool (decide p)) (h1 : p→W P rnd Q (.seq x::K) .normal a) (h2 : ¬ p→W P rnd Q (.seq y::K) .normal a) : W P rnd Q (.seq (.cond c x y)::K) .normal a:=by
 refine W.cond hb ?_
 by_cases hp : p
 ·simpa [hp] using h1 hp
 ·simpa [hp] using h2 hp
theorem W.condB {c : Operand} {x y : Code} {b : Bool} (hb : ev P a.tmps c=.bool b) (h1 : b=true→W P rnd Q (.seq x::K) .normal a) (h2 : b=false→W P rnd Q (.seq y::K) .normal a) : W P rnd Q (.seq (.cond c x y)::K) .normal a:=by
 refine W.cond hb ?_
 cases b
 ·exact h2 rfl
 ·exact h1 rfl
theorem W.block {id : Nat} {c : Code} (h : W P rnd Q (.seq c::.block id::K) .normal a) : W P rnd Q (.seq (.block id c)::K) .normal a:=by
 obtain⟨e,a1,⟨n,h1⟩,h2⟩:=h
 cases e with
 | normal=>
  refine⟨.normal,a1,⟨n+1,fun N hN=>?_⟩,h2⟩
  obtain⟨N,rfl⟩ : ∃ M,N=M+1:=⟨N-1,by omega⟩
  simp only[exec,h1 N (by omega)]
 | ret=>
  refine⟨.ret,a1,⟨n+1,fun N hN=>?_⟩,h2⟩
  obtain⟨N,rfl⟩ : ∃ M,N=M+1:=⟨N-1,by omega⟩
  simp only[exec,h1 N (by omega)]
 | exit id'=>
  simp only[W] at h2
  split at h2
  ·rename_i hid
   refine⟨.normal,a1,⟨n+1,fun N hN=>?_⟩,h2⟩
   obtain⟨N,rfl⟩ : ∃ M,N=M+1:=⟨N-1,by omega⟩
   simp only[exec,h1 N (by omega),hid,if_true]
  ·rename_i hid
   refine⟨.exit id',a1,⟨n+1,fun N hN=>?_⟩,h2⟩
   obtain⟨N,rfl⟩ : ∃ M,N=M+1:=⟨N-1,by omega⟩
   simp only[exec,h1 N (by omega),hid,if_false]
theorem W.scope {c : Code} (h : W P rnd Q (.seq c::K) .normal a) : W P rnd Q (.seq (.scope c)::K) .normal a:=by
 obtain⟨e,a1,⟨n,h1⟩,h2⟩:=h
 refine⟨e,a1,⟨n+1,fun N hN=>?_⟩,h2⟩
 obtain⟨N,rfl⟩ : ∃ M,N=M+1:=⟨N-1,by omega⟩
 simp only[exec];exact h1 N (by omega)
theorem W.out (h : W P rnd Q K (.exit id) a) (hid : id≠id') : W P rnd Q (.block id'::K) (.exit id) a:=by
 simp only[W];rw[if_neg hid];exact h
theorem W.here (h : W P rnd Q K .normal a) : W P rnd Q (.block id::K) (.exit id) a:=by
 simp only[W,if_true];exact h
theorem W.pass (h : W P rnd Q K (.exit id) a) : W P rnd Q (.seq c::K) (.exit id) a:=h
theorem W.close (h : W P rnd Q K .normal a) : W P rnd Q (.block id::K) .normal a:=h
theorem W.nil {e : XE} (h : Q e a) : W P rnd Q [] e a:=h
theorem W.mono {Q' : XE→AS→Prop} (h : ∀ e a,Q e a→Q' e a) : ∀ {K : List Fr} {e : XE} {a : AS},W P rnd Q K e a→W P rnd Q' K e a
 | [],e,a,k=>h e a k
 | .seq c::K,.normal,a,⟨e,a',h1,h2⟩=>⟨e,a',h1,W.mono h h2⟩
 | .seq c::K,.exit id,a,k=>W.mono (K:=K) h k
 | .seq c::K,.ret,a,k=>W.mono (K:=K) h k
 | .block id::K,.normal,a,k=>W.mono (K:=K) h k
 | .block id::K,.ret,a,k=>W.mono (K:=K) h k
 | .block id::K,.exit id',a,k=>by
  simp only[W] at k ⊢
  split
  ·rename_i e;rw[if_pos e] at k;exact W.mono h k
  ·rename_i e;rw[if_neg e] at k;exact W.mono h k
theorem EvC.loop_round {body : Code} {a a1 a2 : AS} {e : XE} (h : EvC P rnd body a .normal a1) (k : EvC P rnd (.loop body) a1 e a2) : EvC P rnd (.loop body) a e a2:=by
 obtain⟨n,h⟩:=h;obtain⟨m,k⟩:=k
 refine⟨n+m+1,fun N hN=>?_⟩
 obtain⟨N,rfl⟩ : ∃ M,N=M+1:=⟨N-1,by omega⟩
 simp only[exec,h N (by omega),k N (by omega)]
theorem EvC.loop_end {body : Code} {a a1 : AS} {e : XE} (h : EvC P rnd body a e a1) (hn : e≠.normal) : EvC P rnd (.loop body) a e a1:=by
 obtain⟨n,h⟩:=h
 refine⟨n+1,fun N hN=>?_⟩
 obtain⟨N,rfl⟩ : ∃ M,N=M+1:=⟨N-1,by omega⟩
 simp only[exec,h N (by omega)]
 cases e<;>first|exact absurd rfl hn|rfl
theorem W.loop {body : Code} (I : Nat→AS→Prop) (m : Nat) (h0 : I m a)
  (hs : ∀ m a,I m a→W P rnd (fun e a'=>(e=.normal∧∃ m',m'<m∧I m' a')∨(e≠.normal∧W P rnd Q K e a')) [.seq body] .normal a) : W P rnd Q (.seq (.loop body)::K) .normal a:=by
 induction m using Nat.strongRecOn generalizing a with
 | _ m ih=>
  obtain⟨e,a1,h1,h2⟩:=hs m a h0
  rcases h2 with⟨rfl,m',hm,hi⟩|⟨hn,hq⟩
  ·obtain⟨e2,a2,h3,h4⟩:=ih m' hm hi
   exact⟨e2,a2,h1.loop_round h3,h4⟩
  ·exact⟨e,a1,h1.loop_end hn,hq⟩
theorem W.region {i : Nat} {ops : Array Oper} (h : WO P rnd Q K a.marks ops ops.toList a.tmps a.heap) : W P rnd Q (.seq (.region i ops false)::K) .normal a:=by
 obtain⟨t',H',⟨n,h1⟩,h2⟩:=h
 refine⟨_,_,⟨n+1,fun N hN=>?_⟩,h2⟩
 obtain⟨N,rfl⟩ : ∃ M,N=M+1:=⟨N-1,by omega⟩
 simp only[exec,Bool.false_eq_true,if_false,h1 N (by omega)]
variable {m : List Nat} {ops : Array Oper} {l : List Oper} {o : Oper} {t : Array Value} {H : Heap}
theorem WO.done (h : W P rnd Q K .normal ⟨t,m,H⟩) : WO P rnd Q K m ops [] t H:=⟨t,H,⟨0,fun _ _=>rfl⟩,h⟩
theorem WO.step {v : Value} {H1 : Heap} (hw : xwanted ops t o=some true) (h : ∀ ex,xopvS P ex (ev P t) o.op H=some (v,H1)) (k : WO P rnd Q K m ops l (put t o.dst v) H1) : WO P rnd Q K m ops (o::l) t H:=by
 obtain⟨t',H',⟨n,h1⟩,h2⟩:=k
 refine⟨t',H',⟨n,fun N hN=>?_⟩,h2⟩
 simp only[xrun,hw,h,h1 N hN]
theorem WO.not (hw : xwanted ops t o=some false) (k : WO P rnd Q K m ops l (put t o.dst undef) H) : WO P rnd Q K m ops (o::l) t H:=by
 obtain⟨t',H',⟨n,h1⟩,h2⟩:=k
 refine⟨t',H',⟨n,fun N hN=>?_⟩,h2⟩
 simp only[xrun,hw,h1 N hN]
theorem WO.call {f : Operand} {args : Array Operand} {ts : Array TypeId} {g : FuncId} {first cap : Array Value} (hw : xwanted ops t o=some true) (ho : o.op=.call { callee:=.value f,args:=args,argTypes:=ts })
  (hf : ev P t f=.func (.func g) first cap) (k : F P g (first++args.map (ev P t)++cap) H (fun v H1=>WO P rnd Q K m ops l (put t o.dst v) H1)) : WO P rnd Q K m ops (o::l) t H:=by
 obtain⟨v,H1,⟨n0,h0⟩,t',H',⟨n,h1⟩,h2⟩:=k
 refine⟨t',H',⟨n0+n,fun N hN=>?_⟩,h2⟩
 have : xopvS P (exec P N) (ev P t) o.op H=some (v,H1):=by
  unfold xopvS
  rw[ho]
  simp only[xopv,hf,h0 N (by omega)]
 simp only[xrun,hw,this,h1 N (by omega)]
theorem F.mono {f : FuncId} {args : Array Value} {R R' : Value→Heap→Prop} (h : F P f args H R) (k : ∀ v H',R v H'→R' v H') : F P f args H R':=by
 obtain⟨v,H',h1,h2⟩:=h
 exact⟨v,H',h1,k _ _ h2⟩
def Leave (P : Program) [Gl P] [Orc P] (fn : Func) (R : Value→Heap→Prop) (e : XE) (a : AS) : Prop:=(∀ id,e≠.exit id)∧∃ H1 v,xunmark a.marks a.heap=some H1∧xresults P H1 fn a.tmps=some v∧R v H1
theorem F.of {f : FuncId} {fn : Func} {c : Code} {args : Array Value} {R : Value → Heap → Prop} (h0 : Orc.O P f = none) (h1 : P.funcs[f]? = some fn) (h2 : fn.body = some c) (h3 : (fn.name == "runtime.NumGoroutine") = false)
  (h : W P none (Leave P fn R) [.seq c] .normal ⟨args++Array.replicate (fn.ntmps-args.size) undef,[],H⟩) : F P f args H R:=by
 obtain⟨e,a,⟨n,he⟩,hne,H1,v,hu,hv,hr⟩:=h
 refine⟨v,H1,⟨n,fun N hN=>?_⟩,hr⟩
 unfold xcall
 simp only[h0,h1,h2,h3,if_true,he N hN]
 cases e with
 | exit id=>exact absurd rfl (hne id)
 | normal=>simp only[hu,hv]
 | ret=>simp only[hu,hv]
theorem F.orc {f : FuncId} {b : Bool} {R : Value→Heap→Prop} (h0 : Orc.O P f=some b) (h : R (.bool b) H) : F P f #[] H R:=
 ⟨_,H,⟨0,fun N _=>by unfold xcall;simp[h0]⟩,h⟩
theorem F.use (hmix : P.follows .mixedOrders=true) {f : FuncId} {args args' : Array Value} {R : Value→Heap→Prop} (h : F P f args H R) {θ : Th} {w : World} (hr : Rel P θ H w) (hat : At P θ w) (ha : AR θ args args') (r : Option Nat) (n : Nat) :
  ∃ v H',R v H'∧CallsIn (FW r) n P f args' w (Returns P θ w v H'):=by
 obtain⟨v,H',⟨N,hN⟩,h2⟩:=h
 exact⟨v,H',h2,(xcall_ok (exec_ok hmix N) (hN N (Nat.le_refl _)) hr hat ha r n).1⟩
end
end Go.Xe
/- An executable reading of the model's code over an abstract heap (part 17): the same by lists alone, for the kernel: what this comes to, the reading comes to. Conditions: none. -/
namespace Go.Xe
open Go
theorem setCells_cons : ∀ (vs : List Value) (o : Nat) (x : Value) (c : List Value),setCells vs (o+1) ⟨x::c⟩=⟨x::(setCells vs o ⟨c⟩).toList⟩
 | [],o,x,c=>rfl
 | v::vs,o,x,c=>by
  simp only[setCells]
  have e1 : (⟨x::c⟩ : Array Value).setIfInBounds (o+1) v=⟨x::(c.set o v)⟩:=by apply Array.toList_inj.1;simp
  have e2 : (⟨c⟩ : Array Value).setIfInBounds o v=⟨c.set o v⟩:=by apply Array.toList_inj.1;simp
  rw[e1,e2,setCells_cons vs (o+1)]
theorem zip_setCells (off : Nat) : ∀ (l : List Value) (n : Nat) (a : Array Value),(l.zipIdx n).foldl (fun cs (x : Value×Nat)=>cs.setIfInBounds (off+x.2) x.1) a=setCells l (off+n) a
 | [],n,a=>rfl
 | v::l,n,a=>by
  simp only[List.zipIdx_cons,List.foldl_cons,setCells]
  rw[zip_setCells off l (n+1)]
  rfl
def forceN {α : Type} (n : Nat) (k : Nat→α) : α:=match n with
 | 0=>k 0
 | m+1=>k (m+1)
def forceI {α : Type} (n : Int) (k : Int→α) : α:=match n with
 | .ofNat m=>forceN m fun m=>k (.ofNat m)
 | .negSucc m=>forceN m fun m=>k (.negSucc m)
def forceA {α : Type} (a : Addr) (k : Addr→α) : α:=match a with
 | ⟨b,o,s⟩=>forceN b fun b=>forceN o fun o=>k ⟨b,o,s⟩
def forceV {α : Type} (v : Value) (k : Value→α) : α:=match v with
 | .bool b=>match b with
  | true=>k (.bool true)
  | false=>k (.bool false)
 | .int kd n=>forceI n fun n=>k (.int kd n)
 | .pointer a=>match a with
  | some a=>forceA a fun a=>k (.pointer (some a))
  | none=>k (.pointer none)
 | .slice a n c=>match a with
  | some a=>forceA a fun a=>forceN n fun n=>forceN c fun c=>k (.slice (some a) n c)
  | none=>k (.slice none n c)
 | .map r=>match r with
  | some r=>forceN r fun r=>k (.map (some r))
  | none=>k (.map none)
 | v=>k v
theorem forceN_eq {α : Type} (n : Nat) (k : Nat→α) : forceN n k=k n:=by cases n<;>rfl
theorem forceI_eq {α : Type} (n : Int) (k : Int→α) : forceI n k=k n:=by cases n<;>simp[forceI,forceN_eq]
theorem forceA_eq {α : Type} (a : Addr) (k : Addr→α) : forceA a k=k a:=by cases a;simp[forceA,forceN_eq]
theorem forceV_eq {α : Type} (v : Value) (k : Value→α) : forceV v k=k v:=by
 cases v with
 | bool b=>cases b<;>rfl
 | int kd n=>simp[forceV,forceI_eq]
 | pointer a=>cases a<;>simp[forceV,forceA_eq]
 | slice a n c=>cases a<;>simp[forceV,forceA_eq,forceN_eq]
 | map r=>cases r<;>simp[forceV,forceN_eq]
 | _=>rfl
end Go.Xe
