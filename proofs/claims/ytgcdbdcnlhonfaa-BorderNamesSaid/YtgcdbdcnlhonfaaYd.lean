/- An executable reading of the model's code over an abstract heap (part 30): calls: the machine's call is the reading's. Conditions: the code of a function runs as the reading's (ExF), and F is the program's functions (FnOk). -/
import Derived.Test.YtgcdbdcnlhonfaaYc
namespace Go.Xe
open Go
def Out (P : Program) [Gl P] : RF→XE→AS→Prop
 | .nx t m H,.normal,a=>TR t a.tmps∧HR (comp P) H a.heap∧a.marks=m
 | .ex id t m H,.exit id',a=>id'=id∧TR t a.tmps∧HR (comp P) H a.heap∧a.marks=m
 | .rt t m H,.ret,a=>TR t a.tmps∧HR (comp P) H a.heap∧a.marks=m
 | _,_,_=>False
def ExF (P : Program) [Gl P] (x : FX) (ex : Ex) : Prop:=∀ (code : Code) (rnd : Option Nat) (m : List Nat) (t : TT) (H : FH) (tm : Array Value) (Hs : Heap),TR t tm→HR (comp P) H Hs→Good (x (comp P code) rnd m t H) →
 ∃ e a,ex rnd code { tmps:=tm,marks:=m,heap:=Hs }=some (e,a)∧Out P (x (comp P code) rnd m t H) e a
def resOk (P : Program) : ResultVar→Bool
 | .tmp _=>true
 | .cell _ t=>match P.underlying t,P.info? t with
  | some (.struct _),some i|some (.array _ _),some i=>decide (i.size≠0)
  | some _,some _=>true
  | _,_=>false
def FnOk (P : Program) [Gl P] [Orc P] (F : Nat → FFunc) : Prop := ∀ g, F g = .bad ∨ (∃ b, F g = .orc b ∧ Orc.O P g = some b) ∨ ∃ fn c k, Orc.O P g = none ∧ P.funcs[g]? = some fn ∧ fn.body = some c ∧ (fn.name == "runtime.NumGoroutine") = false ∧ (∀ r ∈ fn.results.toList, resOk P r = true) ∧
 F g=.mk (comp P c) (mkTT fn.ntmps) ((List.range' 0 k).map pth) (fn.results.toList.map (compR P))
section
variable {P : Program} [Gl P] [Orc P] {F : Nat→FFunc} {x : FX} {ex : Ex}
theorem unmarkF_ok {P : Program} [Gl P] : ∀ {m : List Nat} {H : FH} {Hs : Heap} {k : FH→RF},HR (comp P) H Hs→Good (unmarkF m H k)→∃ H1 Hs1,xunmark m Hs=some Hs1∧HR (comp P) H1 Hs1∧unmarkF m H k=k H1
 | [],H,Hs,k,hr,h=>⟨H,Hs,rfl,hr,rfl⟩
 | i::m,H,Hs,k,hr,h=>by
  have e : unmarkF (i::m) H k=onDeferred (objF H i) (setF H i .dead fun H'=>unmarkF m H' k):=rfl
  rw[e] at h ⊢
  obtain⟨e1,e2⟩:=onDeferred_good h
  rw[e2] at h ⊢
  obtain⟨H',e3,e4⟩:=setF_good hr (x:=.dead) (o:=.dead) trivial h
  rw[e4] at h ⊢
  obtain⟨H1,Hs1,e5,e6,e7⟩:=unmarkF_ok e3 h
  have ho:=hr.obj i
  rw[e1] at ho
  simp only[FOR] at ho
  exact⟨H1,Hs1,by simp only[xunmark,ho,e5],e6,e7⟩
theorem res1_ok {P : Program} [Gl P] {t : TT} {tm : Array Value} (ht : TR t tm) {H : FH} {Hs : Heap} (hr : HR (comp P) H Hs) {r : ResultVar} (hok : resOk P r=true) {k : Value→RF} (h : Good (res1 t H (compR P r) k)) : ∃ v,xresult P Hs tm r=some v∧res1 t H (compR P r) k=k v:=by
 cases r with
 | tmp i=>
  refine⟨tm.getD i undef,rfl,?_⟩
  have e : res1 t H (compR P (.tmp i)) k=hV (getP (pth i) t) k:=rfl
  rw[e,hV_eq,ht.get]
 | cell a ty=>
  have many : ∀ (i : TypeInfo) (d : TypeDesc),P.underlying ty=some d→P.info? ty=some i→((∃ f,d=.struct f)∨∃ n e,d=.array n e)→i.size≠0→Good (res1 t H (.many (pth a) i.size) k)→∃ v,xresult P Hs tm (.cell a ty)=some v∧res1 t H (.many (pth a) i.size) k=k v:=by
   intro i d h1 h2 hd hz h
   have e : res1 t H (.many (pth a) i.size) k=asPtr (getP (pth a) t) fun b o=>cellsF H b fun cs _ _=>subL i.size o cs fun w=>k (.agg ⟨w⟩):=rfl
   rw[e,ht.get] at h ⊢
   obtain⟨b,o,e1,e2⟩:=asPtr_good h
   rw[e2] at h ⊢
   obtain⟨cs,el,rw',e3,e4⟩:=cellsF_good hr h
   rw[e4] at h ⊢
   obtain⟨e5,e6⟩:=subL_good h
   refine⟨_,?_,e6⟩
   have e7 : o+i.size≤(⟨cs⟩ : Array Value).size:=by simpa using e5
   rcases hd with⟨f,rfl⟩|⟨n,e,rfl⟩<;>(simp only[xresult,xload,e1,e3,h1,h2];rw[if_pos ⟨e7,hz⟩])
  have one : ∀ (i : TypeInfo) (d : TypeDesc),P.underlying ty=some d→P.info? ty=some i→(∀ f,d≠.struct f)→(∀ n e,d≠.array n e)→Good (res1 t H (.one (pth a)) k)→∃ v,xresult P Hs tm (.cell a ty)=some v∧res1 t H (.one (pth a)) k=k v:=by
   intro i d h1 h2 hs ha h
   have e : res1 t H (.one (pth a)) k=asPtr (getP (pth a) t) fun b o=>cellsF H b fun cs _ _=>nthL o cs k:=rfl
   rw[e,ht.get] at h ⊢
   obtain⟨b,o,e1,e2⟩:=asPtr_good h
   rw[e2] at h ⊢
   obtain⟨cs,el,rw',e3,e4⟩:=cellsF_good hr h
   rw[e4] at h ⊢
   obtain⟨v,e5,e6⟩:=nthL_good h
   refine⟨v,?_,e6⟩
   have e7 : (⟨cs⟩ : Array Value)[o]?=some v:=by simpa using e5
   simp only[xresult,xload,e1,e3,h1,h2]
   cases d with
   | struct f=>exact absurd rfl (hs f)
   | array n e=>exact absurd rfl (ha n e)
   | _=>simp only[e7]
  unfold resOk at hok
  simp only[] at hok
  split at hok
  ·rename_i f i h1 h2
   have e : compR P (.cell a ty)=.many (pth a) i.size:=by simp only[compR,h1,h2]
   rw[e] at h ⊢
   exact many i _ h1 h2 (.inl ⟨_,rfl⟩) (by simpa using hok) h
  ·rename_i n e i h1 h2
   have e : compR P (.cell a ty)=.many (pth a) i.size:=by simp only[compR,h1,h2]
   rw[e] at h ⊢
   exact many i _ h1 h2 (.inr ⟨_,_,rfl⟩) (by simpa using hok) h
  ·rename_i d i hs ha h1 h2
   have hs' : ∀ f,d≠.struct f:=fun f hd=>hs f (by rw[hd])
   have ha' : ∀ n e,d≠.array n e:=fun n e hd=>ha n e (by rw[hd])
   have e : compR P (.cell a ty)=.one (pth a):=by
    simp only[compR,h1,h2]
   rw[e] at h ⊢
   exact one i _ h1 h2 hs' ha' h
  ·cases hok
theorem resF_ok {P : Program} [Gl P] {t : TT} {tm : Array Value} (ht : TR t tm) {H : FH} {Hs : Heap} (hr : HR (comp P) H Hs) : ∀ {rs : List ResultVar} {k : List Value→RF},(∀ r∈rs,resOk P r=true)→Good (resF t H (rs.map (compR P)) k) →
  ∃ vs,rs.mapM (xresult P Hs tm)=some vs∧vs.length=rs.length∧resF t H (rs.map (compR P)) k=k vs
 | [],k,_,h=>⟨[],rfl,rfl,rfl⟩
 | r::rs,k,hok,h=>by
  have e : resF t H ((r::rs).map (compR P)) k=res1 t H (compR P r) fun v=>resF t H (rs.map (compR P)) fun l=>k (v::l):=rfl
  rw[e] at h ⊢
  obtain⟨v,e1,e2⟩:=res1_ok ht hr (hok r (by simp)) h
  rw[e2] at h ⊢
  obtain⟨vs,e3,e4,e5⟩:=resF_ok ht hr (rs:=rs) (fun r hr=>hok r (by simp[hr])) h
  exact⟨v::vs,by simp[List.mapM_cons,e1,e3],by simp[e4],e5⟩
theorem endF_ok {P : Program} [Gl P] {fn : Func} (hok : ∀ r∈fn.results.toList,resOk P r=true) {t : TT} {tm : Array Value} (ht : TR t tm) {m : List Nat} {H : FH} {Hs : Heap} (hr : HR (comp P) H Hs) {c : Value→FH→RF} (h : Good (endF (fn.results.toList.map (compR P)) t m H c)) :
  ∃ v H1 Hs1,xunmark m Hs=some Hs1∧xresults P Hs1 fn tm=some v∧HR (comp P) H1 Hs1∧endF (fn.results.toList.map (compR P)) t m H c=c v H1:=by
 unfold endF at h ⊢
 obtain⟨H1,Hs1,e1,e2,e3⟩:=unmarkF_ok hr h
 rw[e3] at h ⊢
 obtain⟨vs,e4,e5,e6⟩:=resF_ok ht e2 hok h
 rw[e6]
 unfold xresults
 cases hl : fn.results.toList with
 | nil=>
  rw[hl] at e4 e5
  cases vs with
  | cons v vs=>cases e5
  | nil=>exact⟨_,H1,Hs1,e1,by simp only[e4],e2,rfl⟩
 | cons r rs=>
  cases rs with
  | nil=>
   rw[hl] at e4 e5
   cases vs with
   | nil=>cases e5
   | cons v vs=>
    cases vs with
    | cons w vs=>simp at e5
    | nil=>
     have : xresult P Hs1 tm r=some v:=by
      cases hx : xresult P Hs1 tm r with
      | none=>simp[List.mapM_cons,hx] at e4
      | some w=>simp[List.mapM_cons,hx] at e4;rw[e4]
     exact⟨v,H1,Hs1,e1,this,e2,rfl⟩
  | cons r' rs=>
   rw[hl] at e4 e5
   cases vs with
   | nil=>cases e5
   | cons v vs=>
    cases vs with
    | nil=>simp at e5
    | cons w vs=>exact⟨_,H1,Hs1,e1,by simp only[e4],e2,rfl⟩
theorem callF_ok (hF : FnOk P F) (hx : ExF P x ex) {f : Nat} {args : List Value} {H : FH} {Hs : Heap} (hr : HR (comp P) H Hs) {c : Value→FH→RF} (h : Good (callF F x f args H c)) :
  ∃ v H' Hs',callF F x f args H c=c v H'∧xcall P ex f ⟨args⟩ Hs=some (v,Hs')∧HR (comp P) H' Hs':=by
 unfold callF at h ⊢
 rcases hF f with hb|⟨b,hb,hob⟩|⟨fn,code,k,h0,h1,h2,h3,hok,h4⟩
 ·rw[hb] at h;exact not_good h
 ·rw[hb] at h ⊢
  cases args with
  | nil=>exact⟨.bool b,H,Hs,rfl,by simp only[xcall,hob,if_true],hr⟩
  | cons _ _=>exact not_good (n:=73) h
 ·rw[h4] at h ⊢
  have h' : Good (setArgs args ((List.range' 0 k).map pth) (mkTT fn.ntmps) fun t=>afterF (x (comp P code) none [] t H) (fn.results.toList.map (compR P)) c):=h
  show ∃ v H' Hs',(setArgs args ((List.range' 0 k).map pth) (mkTT fn.ntmps) fun t=>afterF (x (comp P code) none [] t H) (fn.results.toList.map (compR P)) c)=c v H'∧_
  clear h
  obtain⟨e1,e2,t,e3,e4⟩:=setArgs_ok (mkTT_TR fn.ntmps) h'
  rw[e4] at h' ⊢
  have hk : k=args.length:=by simpa using e1.symm
  subst hk
  have hle : args.length≤fn.ntmps:=by
   cases hn : args.length with
   | zero=>omega
   | succ n=>
    have:=e2 n (by rw[hn];simp)
    simp at this
    omega
  rw[args_ok hle] at e3
  have hg : Good (x (comp P code) none [] t H):=by
   intro n hn
   rw[hn] at h'
   exact not_good (n:=n) h'
  obtain⟨e,a,e5,e6⟩:=hx code none [] t H _ Hs e3 hr hg
  have hc : ∀ v Hs1,(∀ id,e≠.exit id)→xunmark a.marks a.heap=some Hs1→xresults P Hs1 fn a.tmps=some v→xcall P ex f ⟨args⟩ Hs=some (v,Hs1):=by
   intro v Hs1 hne hu hv
   unfold xcall
   simp only[h0,h1,h2,h3,if_true]
   have e5' : ex none code { tmps:=(⟨args⟩ : Array Value)++Array.replicate (fn.ntmps-(⟨args⟩ : Array Value).size) undef,marks:=[],heap:=Hs }=some (e,a):=e5
   rw[e5']
   cases e with
   | exit id=>exact absurd rfl (hne id)
   | normal=>simp only[hu,hv]
   | ret=>simp only[hu,hv]
  cases hxr : x (comp P code) none [] t H with
  | fail n=>exact absurd hxr (hg n)
  | nx t' m' H'=>
   rw[hxr] at h' e6
   cases e with
   | normal=>
    obtain⟨f1,f2,f3⟩:=e6
    obtain⟨v,H1,Hs1,g1,g2,g3,g4⟩:=endF_ok hok f1 (m:=m') f2 h'
    exact⟨v,H1,Hs1,g4,hc v Hs1 (by intro id h;cases h) (by rw[f3];exact g1) g2,g3⟩
   | exit id=>exact e6.elim
   | ret=>exact e6.elim
  | ex id t' m' H'=>rw[hxr] at h';exact not_good (n:=71) h'
  | rt t' m' H'=>
   rw[hxr] at h' e6
   cases e with
   | ret=>
    obtain⟨f1,f2,f3⟩:=e6
    obtain⟨v,H1,Hs1,g1,g2,g3,g4⟩:=endF_ok hok f1 (m:=m') f2 h'
    exact⟨v,H1,Hs1,g4,hc v Hs1 (by intro id h;cases h) (by rw[f3];exact g1) g2,g3⟩
   | exit id=>exact e6.elim
   | normal=>exact e6.elim
end
end Go.Xe
