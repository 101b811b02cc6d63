/- An executable reading of the model's code over an abstract heap (part 29): calls: the machine's call is the reading's. Conditions: the code of a function runs as the reading's (ExF), and F is the program's functions (FnOk). -/
import Derived.Test.YtgcdbdcnlhonfaaYb
namespace Go.Xe
open Go
def comp (P : Program) [Gl P] : Code→FCode
 | .skip=>.skip
 | .label _=>.skip
 | .exit id=>.exit id
 | .ret=>.ret
 | .seq x y=>.seq (comp P x) (comp P y)
 | .cond c x y=>.cond (compA P c) (comp P x) (comp P y)
 | .block id b=>.block id (comp P b)
 | .scope b=>.scope (comp P b)
 | .loop b=>.loop (comp P b)
 | .region _ ops true=>if planOk ops (mkPlan ops) then .draw ops.size ((mkPlan ops).sig.map (compAt P ops)) ((List.range ops.size).map (chkOf P ops (mkPlan ops))) else .bad
 | .region _ ops false=>.run (ops.toList.map (compFIS P ops))
 | .rangeFunc f ps a b=>.rangeFunc (compA P f) (ps.toList.map pth) a b (comp P a) (comp P b)
 | _=>.bad
def compR (P : Program) : ResultVar→FRes
 | .tmp t=>.tmp (pth t)
 | .cell a t=>match P.underlying t,P.info? t with
  | some (.struct _),some i|some (.array _ _),some i=>.many (pth a) i.size
  | some _,some _=>.one (pth a)
  | _,_=>.many (pth a) 0
def mkTTF : Nat→Nat→TT
 | 0,_=>.e
 | _+1,0=>.e
 | f+1,n+1=>.n undef (mkTTF f ((n+1)/2)) (mkTTF f (n/2))
def mkTT (n : Nat) : TT:=mkTTF n n
theorem mkTTF_at : ∀ (f n i : Nat),n≤f→(mkTTF f n).at i=if i<n then some undef else none
 | 0,0,i,_=>by simp[mkTTF,TT.at]
 | 0,n+1,i,h=>absurd h (by omega)
 | f+1,0,i,_=>by simp[mkTTF,TT.at]
 | f+1,n+1,0,h=>by simp[mkTTF,TT.at]
 | f+1,n+1,i+1,h=>by
  simp only[mkTTF,TT.at]
  rcases beq_mod i with⟨hb,hi⟩|⟨hb,hi⟩
  ·simp only[hb]
   rw[mkTTF_at f ((n+1)/2) (i/2) (by omega)]
   by_cases h1 : i/2<(n+1)/2
   ·rw[if_pos h1,if_pos (show i+1<n+1 by omega)]
   ·rw[if_neg h1,if_neg (show ¬ (i+1<n+1) by omega)]
  ·simp only[hb]
   rw[mkTTF_at f (n/2) (i/2) (by omega)]
   by_cases h1 : i/2<n/2
   ·rw[if_pos h1,if_pos (show i+1<n+1 by omega)]
   ·rw[if_neg h1,if_neg (show ¬ (i+1<n+1) by omega)]
theorem mkTT_TR (n : Nat) : TR (mkTT n) (Array.replicate n undef):=by
 intro i
 rw[mkTT,mkTTF_at n n i (Nat.le_refl n),Array.getElem?_replicate]
def setAll : List Value→List Nat→Array Value→Array Value
 | v::vs,i::is,a=>setAll vs is (a.setIfInBounds i v)
 | _,_,a=>a
theorem setArgs_ok : ∀ {args : List Value} {is : List Nat} {t : TT} {a : Array Value} {k : TT→RF},TR t a→Good (setArgs args (is.map pth) t k) →
  args.length=is.length∧(∀ i∈is,i<a.size)∧∃ t',TR t' (setAll args is a)∧setArgs args (is.map pth) t k=k t'
 | [],[],t,a,k,ht,h=>⟨rfl,by simp,t,ht,rfl⟩
 | [],i::is,t,a,k,ht,h=>not_good h
 | v::vs,[],t,a,k,ht,h=>not_good h
 | v::vs,i::is,t,a,k,ht,h=>by
  have e : setArgs (v::vs) ((i::is).map pth) t k=setP v (pth i) t fun t'=>setArgs vs (is.map pth) t' k:=rfl
  rw[e] at h ⊢
  obtain⟨t1,h1,h2,h3⟩:=ht.set h
  rw[h3] at h ⊢
  obtain⟨h4,h5,t2,h6,h7⟩:=setArgs_ok h1 h
  refine⟨by simp[h4],?_,t2,h6,h7⟩
  intro j hj
  rcases List.mem_cons.1 hj with rfl|hj
  ·exact h2
  ·have:=h5 j hj
   simpa using this
theorem setAll_range : ∀ (args : List Value) (s : Nat) (a : Array Value),s+args.length≤a.size→∀ i,(setAll args (List.range' s args.length) a)[i]?=if s≤i∧i<s+args.length then args[i-s]? else a[i]?
 | [],s,a,_,i=>by
  simp only[setAll,List.length_nil,Nat.add_zero]
  rw[if_neg (by omega)]
 | v::vs,s,a,h,i=>by
  simp only[List.length_cons,List.range'_succ,setAll]
  simp only[List.length_cons] at h
  rw[setAll_range vs (s+1) _ (by simp only[Array.size_setIfInBounds];omega) i]
  by_cases h1 : s+1≤i∧i<s+1+vs.length
  ·rw[if_pos h1,if_pos (by omega)]
   have : i-s=(i-(s+1))+1:=by omega
   rw[this,List.getElem?_cons_succ]
  ·rw[if_neg h1,Array.getElem?_setIfInBounds]
   by_cases h2 : s=i
   ·subst h2
    rw[if_pos rfl,if_pos (by omega),if_pos (by omega)]
    simp
   ·rw[if_neg h2,if_neg (by omega)]
theorem args_ok {args : List Value} {n : Nat} (h : args.length≤n) : setAll args (List.range' 0 args.length) (Array.replicate n undef)=(⟨args⟩ : Array Value)++Array.replicate (n-args.length) undef:=by
 apply Array.ext_getElem?
 intro i
 rw[setAll_range args 0 _ (by simpa using h)]
 simp only[Nat.zero_add,Nat.zero_le,true_and,Nat.sub_zero]
 by_cases hi : i<args.length
 ·rw[if_pos hi,Array.getElem?_append_left (by simpa using hi)]
  simp
 ·rw[if_neg hi,Array.getElem?_append_right (by simpa using hi)]
  simp only[List.size_toArray,Array.getElem?_replicate]
  by_cases h2 : i<n
  ·rw[if_pos h2,if_pos (by omega)]
  ·rw[if_neg h2,if_neg (by omega)]
end Go.Xe
/- An executable reading of the model's code over an abstract heap (part 30): calls: the machine's call is the reading's. Conditions: the code of a function runs as the reading's (ExF), and F is the program's functions (FnOk). -/
namespace Go.Xe
open Go
def Out (P : Program) [Gl P] : RF→XE→AS→Prop
 | .nx t m H,.normal,a=>TR t a.tmps∧HR (comp P) H a.heap∧a.marks=m
 | .ex id t m H,.exit id',a=>id'=id∧TR t a.tmps∧HR (comp P) H a.heap∧a.marks=m
 | .rt t m H,.ret,a=>TR t a.tmps∧HR (comp P) H a.heap∧a.marks=m
 | _,_,_=>False
def ExF (P : Program) [Gl P] (x : FX) (ex : Ex) : Prop:=∀ (code : Code) (rnd : Option Nat) (m : List Nat) (t : TT) (H : FH) (tm : Array Value) (Hs : Heap),TR t tm→HR (comp P) H Hs→Good (x (comp P code) rnd m t H) →
 ∃ e a,ex rnd code { tmps:=tm,marks:=m,heap:=Hs }=some (e,a)∧Out P (x (comp P code) rnd m t H) e a
def resOk (P : Program) : ResultVar→Bool
 | .tmp _=>true
 | .cell _ t=>match P.underlying t,P.info? t with
  | some (.struct _),some i|some (.array _ _),some i=>decide (i.size≠0)
  | some _,some _=>true
  | _,_=>false
def FnOk (P : Program) [Gl P] [Orc P] (F : Nat → FFunc) : Prop := ∀ g, F g = .bad ∨ (∃ b, F g = .orc b ∧ Orc.O P g = some b) ∨ ∃ fn c k, Orc.O P g = none ∧ P.funcs[g]? = some fn ∧ fn.body = some c ∧ (fn.name == "runtime.NumGoroutine") = false ∧ (∀ r ∈ fn.results.toList, resOk P r = true) ∧
 F g=.mk (comp P c) (mkTT fn.ntmps) ((List.range' 0 k).map pth) (fn.results.toList.map (compR P))
section
variable {P : Program} [Gl P] [Orc P] {F : Nat→FFunc} {x : FX} {ex : Ex}
theorem unmarkF_ok {P : Program} [Gl P] : ∀ {m : List Nat} {H : FH} {Hs : Heap} {k : FH→RF},HR (comp P) H Hs→Good (unmarkF m H k)→∃ H1 Hs1,xunmark m Hs=some Hs1∧HR (comp P) H1 Hs1∧unmarkF m H k=k H1
 | [],H,Hs,k,hr,h=>⟨H,Hs,rfl,hr,rfl⟩
 | i::m,H,Hs,k,hr,h=>by
  have e : unmarkF (i::m) H k=onDeferred (objF H i) (setF H i .dead fun H'=>unmarkF m H' k):=rfl
  rw[e] at h ⊢
  obtain⟨e1,e2⟩:=onDeferred_good h
  rw[e2] at h ⊢
  obtain⟨H',e3,e4⟩:=setF_good hr (x:=.dead) (o:=.dead) trivial h
  rw[e4] at h ⊢
  obtain⟨H1,Hs1,e5,e6,e7⟩:=unmarkF_ok e3 h
  have ho:=hr.obj i
  rw[e1] at ho
  simp only[FOR] at ho
  exact⟨H1,Hs1,by simp only[xunmark,ho,e5],e6,e7⟩
theorem res1_ok {P : Program} [Gl P] {t : TT} {tm : Array Value} (ht : TR t tm) {H : FH} {Hs : Heap} (hr : HR (comp P) H Hs) {r : ResultVar} (hok : resOk P r=true) {k : Value→RF} (h : Good (res1 t H (compR P r) k)) : ∃ v,xresult P Hs tm r=some v∧res1 t H (compR P r) k=k v:=by
 cases r with
 | tmp i=>
  refine⟨tm.getD i undef,rfl,?_⟩
  have e : res1 t H (compR P (.tmp i)) k=hV (getP (pth i) t) k:=rfl
  rw[e,hV_eq,ht.get]
 | cell a ty=>
  have many : ∀ (i : TypeInfo) (d : TypeDesc),P.underlying ty=some d→P.info? ty=some i→((∃ f,d=.struct f)∨∃ n e,d=.array n e)→i.size≠0→Good (res1 t H (.many (pth a) i.size) k)→∃ v,xresult P Hs tm (.cell a ty)=some v∧res1 t H (.many (pth a) i.size) k=k v:=by
   intro i d h1 h2 hd hz h
   have e : res1 t H (.many (pth a) i.size) k=asPtr (getP (pth a) t) fun b o=>cellsF H b fun cs _ _=>subL i.size o cs fun w=>k (.agg ⟨w⟩):=rfl
   rw[e,ht.get] at h ⊢
   obtain⟨b,o,e1,e2⟩:=asPtr_good h
   rw[e2] at h ⊢
   obtain⟨cs,el,rw',e3,e4⟩:=cellsF_good hr h
   rw[e4] at h ⊢
   obtain⟨e5,e6⟩:=subL_good h
   refine⟨_,?_,e6⟩
   have e7 : o+i.size≤(⟨cs⟩ : Array Value).size:=by simpa using e5
   rcases hd with⟨f,rfl⟩|⟨n,e,rfl⟩<;>(simp only[xresult,xload,e1,e3,h1,h2];rw[if_pos ⟨e7,hz⟩])
  have one : ∀ (i : TypeInfo) (d : TypeDesc),P.underlying ty=some d→P.info? ty=some i→(∀ f,d≠.struct f)→(∀ n e,d≠.array n e)→Good (res1 t H (.one (pth a)) k)→∃ v,xresult P Hs tm (.cell a ty)=some v∧res1 t H (.one (pth a)) k=k v:=by
   intro i d h1 h2 hs ha h
   have e : res1 t H (.one (pth a)) k=asPtr (getP (pth a) t) fun b o=>cellsF H b fun cs _ _=>nthL o cs k:=rfl
   rw[e,ht.get] at h ⊢
   obtain⟨b,o,e1,e2⟩:=asPtr_good h
   rw[e2] at h ⊢
   obtain⟨cs,el,rw',e3,e4⟩:=cellsF_good hr h
   rw[e4] at h ⊢
   obtain⟨v,e5,e6⟩:=nthL_good h
   refine⟨v,?_,e6⟩
   have e7 : (⟨cs⟩ : Array Value)[o]?=some v:=by simpa using e5
   simp only[xresult,xload,e1,e3,h1,h2]
   cases d with
   | struct f=>exact absurd rfl (hs f)
   | array n e=>exact absurd rfl (ha n e)
   | _=>simp only[e7]
  unfold resOk at hok
  simp only[] at hok
  split at hok
  ·rename_i f i h1 h2
   have e : compR P (.cell a ty)=.many (pth a) i.size:=by simp only[compR,h1,h2]
   rw[e] at h ⊢
   exact many i _ h1 h2 (.inl ⟨_,rfl⟩) (by simpa using hok) h
  ·rename_i n e i h1 h2
   have e : compR P (.cell a ty)=.many (pth a) i.size:=by simp only[compR,h1,h2]
   rw[e] at h ⊢
   exact many i _ h1 h2 (.inr ⟨_,_,rfl⟩) (by simpa using hok) h
  ·rename_i d i hs ha h1 h2
   have hs' : ∀ f,d≠.struct f:=fun f hd=>hs f (by rw[hd])
   have ha' : ∀ n e,d≠.array n e:=fun n e hd=>ha n e (by rw[hd])
   have e : compR P (.cell a ty)=.one (pth a):=by
    simp only[compR,h1,h2]
   rw[e] at h ⊢
   exact one i _ h1 h2 hs' ha' h
  ·cases hok
theorem resF_ok {P : Program} [Gl P] {t : TT} {tm : Array Value} (ht : TR t tm) {H : FH} {Hs : Heap} (hr : HR (comp P) H Hs) : ∀ {rs : List ResultVar} {k : List Value→RF},(∀ r∈rs,resOk P r=true)→Good (resF t H (rs.map (compR P)) k) →
  ∃ vs,rs.mapM (xresult P Hs tm)=some vs∧vs.length=rs.length∧resF t H (rs.map (compR P)) k=k vs
 | [],k,_,h=>⟨[],rfl,rfl,rfl⟩
 | r::rs,k,hok,h=>by
  have e : resF t H ((r::rs).map (compR P)) k=res1 t H (compR P r) fun v=>resF t H (rs.map (compR P)) fun l=>k (v::l):=rfl
  rw[e] at h ⊢
  obtain⟨v,e1,e2⟩:=res1_ok ht hr (hok r (by simp)) h
  rw[e2] at h ⊢
  obtain⟨vs,e3,e4,e5⟩:=resF_ok ht hr (rs:=rs) (fun r hr=>hok r (by simp[hr])) h
  exact⟨v::vs,by simp[List.mapM_cons,e1,e3],by simp[e4],e5⟩
theorem endF_ok {P : Program} [Gl P] {fn : Func} (hok : ∀ r∈fn.results.toList,resOk P r=true) {t : TT} {tm : Array Value} (ht : TR t tm) {m : List Nat} {H : FH} {Hs : Heap} (hr : HR (comp P) H Hs) {c : Value→FH→RF} (h : Good (endF (fn.results.toList.map (compR P)) t m H c)) :
  ∃ v H1 Hs1,xunmark m Hs=some Hs1∧xresults P Hs1 fn tm=some v∧HR (comp P) H1 Hs1∧endF (fn.results.toList.map (compR P)) t m H c=c v H1:=by
 unfold endF at h ⊢
 obtain⟨H1,Hs1,e1,e2,e3⟩:=unmarkF_ok hr h
 rw[e3] at h ⊢
 obtain⟨vs,e4,e5,e6⟩:=resF_ok ht e2 hok h
 rw[e6]
 unfold xresults
 cases hl : fn.results.toList with
 | nil=>
  rw[hl] at e4 e5
  cases vs with
  | cons v vs=>cases e5
  | nil=>exact⟨_,H1,Hs1,e1,by simp only[e4],e2,rfl⟩
 | cons r rs=>
  cases rs with
  | nil=>
   rw[hl] at e4 e5
   cases vs with
   | nil=>cases e5
   | cons v vs=>
    cases vs with
    | cons w vs=>simp at e5
    | nil=>
     have : xresult P Hs1 tm r=some v:=by
      cases hx : xresult P Hs1 tm r with
      | none=>simp[List.mapM_cons,hx] at e4
      | some w=>simp[List.mapM_cons,hx] at e4;rw[e4]
     exact⟨v,H1,Hs1,e1,this,e2,rfl⟩
  | cons r' rs=>
   rw[hl] at e4 e5
   cases vs with
   | nil=>cases e5
   | cons v vs=>
    cases vs with
    | nil=>simp at e5
    | cons w vs=>exact⟨_,H1,Hs1,e1,by simp only[e4],e2,rfl⟩
theorem callF_ok (hF : FnOk P F) (hx : ExF P x ex) {f : Nat} {args : List Value} {H : FH} {Hs : Heap} (hr : HR (comp P) H Hs) {c : Value→FH→RF} (h : Good (callF F x f args H c)) :
  ∃ v H' Hs',callF F x f args H c=c v H'∧xcall P ex f ⟨args⟩ Hs=some (v,Hs')∧HR (comp P) H' Hs':=by
 unfold callF at h ⊢
 rcases hF f with hb|⟨b,hb,hob⟩|⟨fn,code,k,h0,h1,h2,h3,hok,h4⟩
 ·rw[hb] at h;exact not_good h
 ·rw[hb] at h ⊢
  cases args with
  | nil=>exact⟨.bool b,H,Hs,rfl,by simp only[xcall,hob,if_true],hr⟩
  | cons _ _=>exact not_good (n:=73) h
 ·rw[h4] at h ⊢
  have h' : Good (setArgs args ((List.range' 0 k).map pth) (mkTT fn.ntmps) fun t=>afterF (x (comp P code) none [] t H) (fn.results.toList.map (compR P)) c):=h
  show ∃ v H' Hs',(setArgs args ((List.range' 0 k).map pth) (mkTT fn.ntmps) fun t=>afterF (x (comp P code) none [] t H) (fn.results.toList.map (compR P)) c)=c v H'∧_
  clear h
  obtain⟨e1,e2,t,e3,e4⟩:=setArgs_ok (mkTT_TR fn.ntmps) h'
  rw[e4] at h' ⊢
  have hk : k=args.length:=by simpa using e1.symm
  subst hk
  have hle : args.length≤fn.ntmps:=by
   cases hn : args.length with
   | zero=>omega
   | succ n=>
    have:=e2 n (by rw[hn];simp)
    simp at this
    omega
  rw[args_ok hle] at e3
  have hg : Good (x (comp P code) none [] t H):=by
   intro n hn
   rw[hn] at h'
   exact not_good (n:=n) h'
  obtain⟨e,a,e5,e6⟩:=hx code none [] t H _ Hs e3 hr hg
  have hc : ∀ v Hs1,(∀ id,e≠.exit id)→xunmark a.marks a.heap=some Hs1→xresults P Hs1 fn a.tmps=some v→xcall P ex f ⟨args⟩ Hs=some (v,Hs1):=by
   intro v Hs1 hne hu hv
   unfold xcall
   simp only[h0,h1,h2,h3,if_true]
   have e5' : ex none code { tmps:=(⟨args⟩ : Array Value)++Array.replicate (fn.ntmps-(⟨args⟩ : Array Value).size) undef,marks:=[],heap:=Hs }=some (e,a):=e5
   rw[e5']
   cases e with
   | exit id=>exact absurd rfl (hne id)
   | normal=>simp only[hu,hv]
   | ret=>simp only[hu,hv]
  cases hxr : x (comp P code) none [] t H with
  | fail n=>exact absurd hxr (hg n)
  | nx t' m' H'=>
   rw[hxr] at h' e6
   cases e with
   | normal=>
    obtain⟨f1,f2,f3⟩:=e6
    obtain⟨v,H1,Hs1,g1,g2,g3,g4⟩:=endF_ok hok f1 (m:=m') f2 h'
    exact⟨v,H1,Hs1,g4,hc v Hs1 (by intro id h;cases h) (by rw[f3];exact g1) g2,g3⟩
   | exit id=>exact e6.elim
   | ret=>exact e6.elim
  | ex id t' m' H'=>rw[hxr] at h';exact not_good (n:=71) h'
  | rt t' m' H'=>
   rw[hxr] at h' e6
   cases e with
   | ret=>
    obtain⟨f1,f2,f3⟩:=e6
    obtain⟨v,H1,Hs1,g1,g2,g3,g4⟩:=endF_ok hok f1 (m:=m') f2 h'
    exact⟨v,H1,Hs1,g4,hc v Hs1 (by intro id h;cases h) (by rw[f3];exact g1) g2,g3⟩
   | exit id=>exact e6.elim
   | normal=>exact e6.elim
end
end Go.Xe
/- An executable reading of the model's code over an abstract heap (part 31): rounds: the machine's round is the reading's. Conditions: the code of a round runs as the reading's (ExF). -/
namespace Go.Xe
open Go
theorem setAll_params : ∀ (args : List Value) (ps : List Tmp) (a : Array Value),args.length=ps.length→(ps.zip args).foldl (fun tmps (x : Tmp×Value)=>tmps.setIfInBounds x.1 x.2) a=setAll args ps a
 | [],[],a,_=>rfl
 | [],p::ps,a,h=>by simp at h
 | v::vs,[],a,h=>by simp at h
 | v::vs,p::ps,a,h=>by
  simp only[List.zip_cons_cons,List.foldl_cons,setAll]
  exact setAll_params vs ps _ (by simpa using h)
theorem setParams_all {a : Array Value} {ps : Array Tmp} {args : List Value} (h : args.length=ps.toList.length) : setParams a ps ⟨args⟩=setAll args ps.toList a:=by
 unfold setParams
 rw[← Array.foldl_toList,Array.toList_zip]
 exact setAll_params args ps.toList a h
section
variable {P : Program} [Gl P] [Orc P] {F : Nat→FFunc} {x : FX} {ex : Ex}
theorem isReady_good {s : LoopState} {k : RF} (h : Good (isReady s k)) : s=.ready∧isReady s k=k:=by
 cases s with
 | ready=>exact⟨rfl,rfl⟩
 | _=>exact not_good h
theorem round2_ok {P : Program} [Gl P] {l : Nat} {st : LoopState} {b : Bool} {pj : Option FJ} {H : FH} {Hs : Heap} (hr : HR (comp P) H Hs) {c : Value→FH→RF} (h : Good (round2 l st b pj H c)) :
  ∃ r H' ,Hs.get l=some (.loop r)∧HR (comp P) H' (Hs.set l (.loop { r with state:=st,pending:=pj.map FJ.code }))∧round2 l st b pj H c=c (.bool b) H':=by
 unfold round2 at h ⊢
 obtain⟨st1,pj1,t1,ps,ca,cb,fa,fb,df,e1,e2⟩:=onLoop_good h
 rw[e2] at h ⊢
 have ho:=hr.obj l
 rw[e1] at ho
 obtain⟨r,g0,g1,g2,g3,g4,g5,g6,g7,g8,g9⟩:=ho
 obtain⟨H',f1,f2⟩:=setF_good hr (x:=.loop st pj t1 ps ca cb fa fb df) (o:=.loop { r with state:=st,pending:=pj.map FJ.code }) ⟨_,rfl,rfl,rfl,g3,g4,g5,g6,g7,g8,g9⟩ h
 exact⟨r,H',g0,f1,f2⟩
theorem roundF_ok {P : Program} [Gl P] (hx : ExF P x ex) {l : Nat} {args : List Value} {H : FH} {Hs : Heap} (hr : HR (comp P) H Hs) {c : Value→FH→RF} (h : Good (roundF x l args H c)) :
  ∃ v H' Hs',roundF x l args H c=c v H'∧xround ex l ⟨args⟩ Hs=some (v,Hs')∧HR (comp P) H' Hs':=by
 unfold roundF at h ⊢
 obtain⟨st,pj,t,ps,ca,cb,fa,fb,df,e1,e2⟩:=onLoop_good h
 rw[e2] at h ⊢
 have ho:=hr.obj l
 rw[e1] at ho
 obtain⟨r,g0,g1,g2,g3,g4,g5,g6,g7,g8,g9⟩:=ho
 subst g4 g5 g6 g7 g8
 obtain⟨e3,e4,t2,e5,e6⟩:=setArgs_ok g3 h
 rw[e6] at h ⊢
 have hsz : (⟨args⟩ : Array Value).size=r.params.size:=by simpa using e3
 rw[← setParams_all e3] at e5
 have hg : Good (x (comp P r.assign) (some l) [] t2 H):=by
  intro n hn
  rw[hn] at h
  exact not_good (n:=n) h
 obtain⟨e,a,f1,f2⟩:=hx r.assign (some l) [] t2 H _ Hs e5 hr hg
 cases hxr : x (comp P r.assign) (some l) [] t2 H with
 | fail n=>exact absurd hxr (hg n)
 | ex id t' m' H'=>rw[hxr] at h;exact not_good (n:=73) h
 | rt t' m' H'=>rw[hxr] at h;exact not_good (n:=73) h
 | nx t' m' H'=>
  rw[hxr] at h f2
  cases e with
  | exit id=>exact f2.elim
  | ret=>exact f2.elim
  | normal=>
   obtain⟨a1,a2,a3⟩:=f2
   have h' : Good (round1 x l (comp P r.body) t' m' H' c):=h
   show ∃ v H2 Hs2,round1 x l (comp P r.body) t' m' H' c=c v H2∧_
   clear h
   unfold round1 at h' ⊢
   obtain⟨st1,pj1,t1,ps1,ca1,cb1,fa1,fb1,df1,b1,b2⟩:=onLoop_good h'
   rw[b2] at h' ⊢
   obtain⟨b3,b4⟩:=isReady_good h'
   rw[b4] at h' ⊢
   have ho1:=a2.obj l
   rw[b1] at ho1
   obtain⟨r1,k0,k1,k2,k3,k4,k5,k6,k7,k8,k9⟩:=ho1
   obtain⟨H2,c1,c2⟩:=setF_good a2 (x:=.loop .busy pj1 t1 ps1 ca1 cb1 fa1 fb1 df1) (o:=.loop { r1 with state:=.busy }) ⟨_,rfl,rfl,k2,k3,k4,k5,k6,k7,k8,k9⟩ h'
   rw[c2] at h' ⊢
   have hg2 : Good (x (comp P r.body) (some l) m' t' H2):=by
    intro n hn
    rw[hn] at h'
    exact not_good (n:=n) h'
   obtain⟨e',a',d1,d2⟩:=hx r.body (some l) m' t' H2 a.tmps (a.heap.set l (.loop { r1 with state:=.busy })) a1 c1 hg2
   have ha : ({ a with heap:=a.heap.set l (.loop { r1 with state:=.busy }) } : AS)={ tmps:=a.tmps,marks:=m',heap:=a.heap.set l (.loop { r1 with state:=.busy }) }:=by rw[← a3]
   have hst : r1.state=.ready:=by rw[k1,b3]
   have fin : ∀ r2 : Loop,a'.heap.get l=some (.loop r2)→xround ex l ⟨args⟩ Hs=some (.bool e'.jump.isNone,a'.heap.set l (.loop { r2 with state:=if e'.jump.isNone then .ready else .done,pending:=e'.jump })):=by
    intro r2 hr2
    unfold xround
    simp only[g0]
    rw[if_pos hsz,f1]
    simp only[k0]
    rw[if_pos hst,ha,d1]
    simp only[hr2]
   cases hxr2 : x (comp P r.body) (some l) m' t' H2 with
   | fail n=>exact absurd hxr2 (hg2 n)
   | nx t3 m3 H3=>
    rw[hxr2] at h' d2
    cases e' with
    | normal=>
     obtain⟨q1,q2,q3⟩:=d2
     obtain⟨r2,H4,p1,p2,p3⟩:=round2_ok q2 (st:=.ready) (b:=true) (pj:=none) (l:=l) (c:=c) h'
     exact⟨_,H4,_,p3,fin r2 p1,p2⟩
    | exit id=>exact d2.elim
    | ret=>exact d2.elim
   | ex id t3 m3 H3=>
    rw[hxr2] at h' d2
    cases e' with
    | exit id'=>
     obtain⟨q0,q1,q2,q3⟩:=d2
     subst q0
     obtain⟨r2,H4,p1,p2,p3⟩:=round2_ok q2 (st:=.done) (b:=false) (pj:=some (.exit id')) (l:=l) (c:=c) h'
     exact⟨_,H4,_,p3,fin r2 p1,p2⟩
    | normal=>exact d2.elim
    | ret=>exact d2.elim
   | rt t3 m3 H3=>
    rw[hxr2] at h' d2
    cases e' with
    | ret=>
     obtain⟨q1,q2,q3⟩:=d2
     obtain⟨r2,H4,p1,p2,p3⟩:=round2_ok q2 (st:=.done) (b:=false) (pj:=some .ret) (l:=l) (c:=c) h'
     exact⟨_,H4,_,p3,fin r2 p1,p2⟩
    | normal=>exact d2.elim
    | exit id=>exact d2.elim
theorem opv_ok (hF : FnOk P F) (hx : ExF P x ex) : OpvF (comp P) P F x ex:=by
 intro op t tm H Hs c ht hr h
 cases hc : isCall op with
 | false=>
  obtain⟨v,H',Hs',e1,e2,e3⟩:=compOp_ok (F:=F) (x:=x) op hc t tm H Hs c ht hr h
  refine⟨v,H',Hs',e1,?_,e3⟩
  unfold xopv
  split
  ·simp[isCall] at hc
  ·exact e2
 | true=>
  unfold isCall at hc
  split at hc
  ·rename_i f args ts
   have h' : Good (opCall (compA P f) (args.toList.map (compA P)) P F x t H c):=h
   show ∃ v H' Hs',opCall (compA P f) (args.toList.map (compA P)) P F x t H c=c v H'∧_
   clear h
   unfold opCall at h' ⊢
   rw[evA_comp ht] at h' ⊢
   rcases asFunc_good h' with⟨g,a,b,e1,e2⟩|⟨l,a,b,e1,e2⟩
   ·rw[e2] at h' ⊢
    simp only[evL_comp ht,catL_eq] at h' ⊢
    obtain⟨v,H',Hs',e3,e4,e5⟩:=callF_ok hF hx hr h'
    refine⟨v,H',Hs',e3,?_,e5⟩
    simp only[xopv,e1]
    have : (⟨a⟩ : Array Value)++args.map (ev P tm)++⟨b⟩=⟨a++(args.toList.map (ev P tm)++b)⟩:=by apply Array.toList_inj.1;simp
    rw[this]
    exact e4
   ·rw[e2] at h' ⊢
    simp only[evL_comp ht,catL_eq] at h' ⊢
    obtain⟨v,H',Hs',e3,e4,e5⟩:=roundF_ok hx hr h'
    refine⟨v,H',Hs',e3,?_,e5⟩
    simp only[xopv,e1]
    have : (⟨a⟩ : Array Value)++args.map (ev P tm)=⟨a++args.toList.map (ev P tm)⟩:=by apply Array.toList_inj.1;simp
    rw[this]
    exact e4
  ·cases hc
end
end Go.Xe
