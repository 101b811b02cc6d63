/- Rules of reasoning over the executable reading of the model's code (part Z6): calls, and a function's body. Conditions: none; for every program. -/
import Derived.Test.YthgjooibimphiaaZe
namespace Go.Xe
open Go
section
variable {P : Program} [Gl P]
theorem comp_call {op : Op} {fa : FA} {as : List FA} (h : compOpS P op=.call fa as) : (∃ f args ts,op=.call { callee:=.value f,args:=args,argTypes:=ts }∧compA P f=fa∧args.toList.map (compA P)=as)∨fa=.con (.chan none):=by
 have bad : ∀ {p : Prop},badOp=FOp.call fa as→p∨fa=.con (.chan none):=by
  intro p h
  unfold badOp at h
  cases h
  exact .inr rfl
 cases op with
 | call c=>
  obtain⟨callee,args,ts⟩:=c
  cases callee with
  | value f=>simp only[compOpS,compOp] at h;cases h;exact .inl ⟨_,_,_,rfl,rfl,rfl⟩
  | builtin b=>
   cases b<;>simp only[compOpS,compOp] at h<;>first|exact bad h|skip
   all_goals (try (cases h;done))
   all_goals (split at h<;>first|exact bad h|skip)
   all_goals (simp only[compLen,compCap,compAppend,compClear] at h)
   all_goals (repeat' split at h)
   all_goals first|exact bad h|(cases h;done)
  | _=>exact bad h
 | makeFunc fn a b=>cases fn<;>simp only[compOpS,compOp] at h<;>first|exact bad h|(cases h;done)
 | makeMap ty r=>
  cases r with
  | none=>simp only[compOpS,compOp] at h;split at h<;>first|exact bad h|(cases h;done)
  | some c=>
   cases c with
   | const v=>cases v<;>simp only[compOpS,compOp] at h<;>first|exact bad h|(split at h<;>first|exact bad h|(cases h;done))
   | _=>exact bad h
 | slice ty x lo hi mx=>
  cases mx with
  | some _=>
   simp only[compOpS] at h
   cases hi<;>simp only[compOp] at h
   ·exact bad h
   ·(repeat' split at h)<;>first|exact bad h|(cases h;done)
  | none=>
   simp only[compOpS,compOp] at h
   (repeat' split at h)<;>first|exact bad h|(cases h;done)
 | _=>
  simp only[compOpS,compOp,compParted] at h
  (repeat' split at h)<;>first|exact bad h|(cases h;done)
end
section
variable {P : Program} [Gl P] [Orc P] {rnd : Option Nat} {Q : FQ} {K : List FFr} {t : TT} {m : List Nat} {H : Heap}
variable {is : List FI} {d p : Pth} {w : Bool} {v : Value} {H1 : Heap} {fa : FA} {args : List FA}
theorem Does.call {g : FuncId} {a b : Array Value} (hf : dA t fa=.func (.func g) a b) (h : EvF P g (a++⟨args.map (dA t)⟩++b) H v H1) : Does P (.call fa args) t H v H1:=by
 intro op tm ho ht
 rcases comp_call ho with⟨f,as,ts,rfl,rfl,rfl⟩|rfl
 ·obtain⟨n,h⟩:=h
  refine⟨n,fun N hN=>?_⟩
  rw[dA_comp ht] at hf
  rw[parts_eq ht] at h
  have e : (⟨as.toList.map (ev P tm)⟩ : Array Value)=as.map (ev P tm):=by apply Array.toList_inj.1;simp
  rw[e] at h
  unfold xopvS
  simp only[xopv,hf,h N hN]
 ·cases hf
theorem Does.yield {l : Nat} {a b : Array Value} (hf : dA t fa=.func (.yield l) a b) (h : EvY P l (a++⟨args.map (dA t)⟩) H v H1) : Does P (.call fa args) t H v H1:=by
 intro op tm ho ht
 rcases comp_call ho with⟨f,as,ts,rfl,rfl,rfl⟩|rfl
 ·obtain⟨n,h⟩:=h
  refine⟨n,fun N hN=>?_⟩
  rw[dA_comp ht] at hf
  rw[parts_eq ht] at h
  have e : (⟨as.toList.map (ev P tm)⟩ : Array Value)=as.map (ev P tm):=by apply Array.toList_inj.1;simp
  rw[e] at h
  unfold xopvS
  simp only[xopv,hf,h N hN]
 ·cases hf
theorem VI.go {f : FOp} (h : dop P f t H=some (v,H1)) (k : VI P rnd Q K m is (st v d t) H1) : VI P rnd Q K m (.go f d::is) t H:=.does (.of h) k
theorem VI.un {f : FOp} (h : dop P f t H=some (v,H1)) (hb : f≠badOp) (k : VI P rnd Q K m is t H1) : VI P rnd Q K m (.un f::is) t H:=.doesU (.of h) hb k
theorem VI.call {g : FuncId} {a b : Array Value} (hf : dA t fa=.func (.func g) a b) (k : F P g (a++⟨args.map (dA t)⟩++b) H (fun v H1=>VI P rnd Q K m is (st v d t) H1)) : VI P rnd Q K m (.go (.call fa args) d::is) t H:=by
 obtain⟨v,H1,h1,h2⟩:=k
 exact .does (.call hf h1) h2
theorem VI.callT {g : FuncId} {a b : Array Value} (hp : gt p t=.bool w) (hf : dA t fa=.func (.func g) a b) (k : F P g (a++⟨args.map (dA t)⟩++b) H (fun v H1=>VI P rnd Q K m is (st v d t) H1)) : VI P rnd Q K m (.gd p w (.call fa args) d::is) t H:=by
 obtain⟨v,H1,h1,h2⟩:=k
 exact .gdT hp (.call hf h1) h2
def sets : List Value→List Pth→TT→TT
 | v::vs,p::ps,t=>sets vs ps (st v p t)
 | _,_,t=>t
theorem sets_TR : ∀ {vs : List Value} {is : List Nat} {t : TT} {a : Array Value},TR t a→TR (sets vs (is.map pth) t) (setAll vs is a)
 | [],_,t,a,h=>by simpa [sets,setAll] using h
 | _::_,[],t,a,h=>by simpa [sets,setAll] using h
 | v::vs,i::is,t,a,h=>by simpa [sets,setAll] using sets_TR (h.st v i)
def yres1 (t : TT) (H : Heap) : FRes→Option Value
 | .tmp p=>some (gt p t)
 | .one p=>yload1 H (gt p t)
 | .many p n=>yloadN n H (gt p t)
def yresL (t : TT) (H : Heap) : List FRes→Option (List Value)
 | []=>some []
 | r::rs=>match yres1 t H r,yresL t H rs with
  | some v,some vs=>some (v::vs)
  | _,_=>none
def yres (t : TT) (H : Heap) (rs : List FRes) : Option Value:=match rs with
 | [r]=>yres1 t H r
 | rs=>(yresL t H rs).map fun vs=>.tuple ⟨vs⟩
omit [Gl P] [Orc P] in
theorem yres1_ok {tm : Array Value} (ht : TR t tm) {r : ResultVar} (h : yres1 t H (compR P r)=some v) : xresult P H tm r=some v:=by
 cases r with
 | tmp i=>simp only[compR,yres1,ht.gt] at h;exact h
 | cell a ty=>
  simp only[compR] at h
  have many : ∀ {n : Nat},yloadN n H (tm.getD a undef)=some v→(∀ i o,xload P H ty (.pointer (some ⟨i,o,none⟩))=match H.cellsAt i with
    | some (c,_,_)=>if o+n≤c.size∧n≠0 then some (.agg (c.extract o (o+n))) else none
    | none=>none)→xresult P H tm (.cell a ty)=some v:=by
   intro n h hx
   simp only[xresult]
   unfold yloadN at h
   split at h
   ·rename_i i o hp
    rw[hp,hx];exact h
   ·cases h
  split at h
  ·rename_i f i h1 h2
   simp only[yres1,ht.gt] at h
   exact many h (fun b o=>by simp only[xload,h1,h2];cases H.cellsAt b<;>rfl)
  ·rename_i n e i h1 h2
   simp only[yres1,ht.gt] at h
   exact many h (fun b o=>by simp only[xload,h1,h2];cases H.cellsAt b<;>rfl)
  ·rename_i dd i hs ha h1 h2
   simp only[yres1,ht.gt] at h
   simp only[xresult]
   unfold yload1 at h
   split at h
   ·rename_i b o hp
    rw[hp]
    simp only[xload]
    split at h
    ·rename_i c el rw' hc
     rw[hc]
     cases dd<;>simp only[h1,h2]<;>first|exact h|exact absurd rfl (hs _)|exact absurd rfl (ha _ _)|skip
    ·cases h
   ·cases h
  ·simp only[yres1,ht.gt] at h
   exfalso
   unfold yloadN at h
   split at h
   ·split at h
    ·simp at h
    ·cases h
   ·cases h
omit [Gl P] [Orc P] in
theorem yresL_ok {tm : Array Value} (ht : TR t tm) : ∀ {rs : List ResultVar} {vs : List Value},yresL t H (rs.map (compR P))=some vs→rs.mapM (xresult P H tm)=some vs
 | [],vs,h=>by simp only[List.map_nil,yresL] at h;cases h;rfl
 | r::rs,vs,h=>by
  simp only[List.map_cons,yresL] at h
  split at h
  ·rename_i v vs' h1 h2
   cases h
   simp[List.mapM_cons,yres1_ok ht h1,yresL_ok ht h2]
  ·cases h
omit [Gl P] [Orc P] in
theorem yres_ok {tm : Array Value} {fn : Func} (ht : TR t tm) (h : yres t H (fn.results.toList.map (compR P))=some v) : xresults P H fn tm=some v:=by
 unfold xresults
 cases hl : fn.results.toList with
 | nil=>
  rw[hl] at h
  simp only[List.map_nil,yres,yresL,Option.map_some] at h
  cases h
  simp
 | cons r rs=>
  cases rs with
  | nil=>rw[hl] at h;exact yres1_ok ht h
  | cons r2 rs=>
   rw[hl] at h
   simp only[List.map_cons,yres] at h
   obtain⟨vs,h1,h2⟩:=map_some h
   have:=yresL_ok (rs:=r::r2::rs) ht h1
   simp only[this]
   rw[← h2]
def Lv (rs : List FRes) (R : Value→Heap→Prop) : FQ:=fun e t m H=>(∀ id,e≠.exit id)∧∃ H1 v,xunmark m H=some H1∧yres t H1 rs=some v∧R v H1
theorem Lv.ret {rs : List FRes} {R : Value→Heap→Prop} (h : yres t H rs=some v) (k : R v H) : Lv rs R .ret t [] H:=⟨fun id=>by simp,H,v,rfl,h,k⟩
theorem Lv.normal {rs : List FRes} {R : Value→Heap→Prop} (h : yres t H rs=some v) (k : R v H) : Lv rs R .normal t [] H:=⟨fun id=>by simp,H,v,rfl,h,k⟩
theorem F.entry {f : FuncId} {fn : Func} {k : Nat} {x : FCode} {tp : TT} {as : List Pth} {rs : List FRes} {args : Array Value} {R : Value→Heap→Prop} (h0 : Orc.O P f=none) (h1 : P.funcs[f]?=some fn) (ho : okF P fn=true) (he : compF P fn k=.mk x tp as rs)
  (hk : args.size=k) (hn : k≤fn.ntmps) (h : V P none (Lv rs R) [.seq x] .normal (sets args.toList as tp) [] H) : F P f args H R:=by
 unfold compF at he
 split at he
 ·rename_i c hb
  cases he
  have hno : (fn.name == "runtime.NumGoroutine") = false := by
   unfold okF at ho
   simp only[Bool.and_eq_true,Bool.not_eq_true'] at ho
   exact ho.1
  have hlen : args.toList.length=args.size:=by simp
  have ht : TR (sets args.toList ((List.range' 0 k).map pth) (mkTT fn.ntmps)) (args++Array.replicate (fn.ntmps-args.size) undef):=by
   have:=sets_TR (vs:=args.toList) (is:=List.range' 0 args.toList.length) (mkTT_TR fn.ntmps)
   rw[args_ok (by rw[hlen,hk];exact hn)] at this
   rw[hlen] at this
   rw[← hk]
   exact this
  obtain⟨e,tm',m',H',t',⟨n,hx⟩,ht',hne,H1,v,hu,hv,hr⟩:=h c _ rfl ht
  refine⟨v,H1,⟨n,fun N hN=>?_⟩,hr⟩
  have hv':=yres_ok ht' hv
  unfold xcall
  simp only[h0,h1,hb,hno,if_true,hx N hN]
  cases e with
  | exit id=>exact absurd rfl (hne id)
  | normal=>simp only[hu,hv']
  | ret=>simp only[hu,hv']
 ·cases he
end
end Go.Xe
