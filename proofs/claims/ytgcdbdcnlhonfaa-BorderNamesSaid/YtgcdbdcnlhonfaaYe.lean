/- An executable reading of the model's code over an abstract heap (part 31): rounds: the machine's round is the reading's. Conditions: the code of a round runs as the reading's (ExF). -/
import Derived.Test.YtgcdbdcnlhonfaaYd
namespace Go.Xe
open Go
theorem setAll_params : ∀ (args : List Value) (ps : List Tmp) (a : Array Value),args.length=ps.length→(ps.zip args).foldl (fun tmps (x : Tmp×Value)=>tmps.setIfInBounds x.1 x.2) a=setAll args ps a
 | [],[],a,_=>rfl
 | [],p::ps,a,h=>by simp at h
 | v::vs,[],a,h=>by simp at h
 | v::vs,p::ps,a,h=>by
  simp only[List.zip_cons_cons,List.foldl_cons,setAll]
  exact setAll_params vs ps _ (by simpa using h)
theorem setParams_all {a : Array Value} {ps : Array Tmp} {args : List Value} (h : args.length=ps.toList.length) : setParams a ps ⟨args⟩=setAll args ps.toList a:=by
 unfold setParams
 rw[← Array.foldl_toList,Array.toList_zip]
 exact setAll_params args ps.toList a h
section
variable {P : Program} [Gl P] [Orc P] {F : Nat→FFunc} {x : FX} {ex : Ex}
theorem isReady_good {s : LoopState} {k : RF} (h : Good (isReady s k)) : s=.ready∧isReady s k=k:=by
 cases s with
 | ready=>exact⟨rfl,rfl⟩
 | _=>exact not_good h
theorem round2_ok {P : Program} [Gl P] {l : Nat} {st : LoopState} {b : Bool} {pj : Option FJ} {H : FH} {Hs : Heap} (hr : HR (comp P) H Hs) {c : Value→FH→RF} (h : Good (round2 l st b pj H c)) :
  ∃ r H' ,Hs.get l=some (.loop r)∧HR (comp P) H' (Hs.set l (.loop { r with state:=st,pending:=pj.map FJ.code }))∧round2 l st b pj H c=c (.bool b) H':=by
 unfold round2 at h ⊢
 obtain⟨st1,pj1,t1,ps,ca,cb,fa,fb,df,e1,e2⟩:=onLoop_good h
 rw[e2] at h ⊢
 have ho:=hr.obj l
 rw[e1] at ho
 obtain⟨r,g0,g1,g2,g3,g4,g5,g6,g7,g8,g9⟩:=ho
 obtain⟨H',f1,f2⟩:=setF_good hr (x:=.loop st pj t1 ps ca cb fa fb df) (o:=.loop { r with state:=st,pending:=pj.map FJ.code }) ⟨_,rfl,rfl,rfl,g3,g4,g5,g6,g7,g8,g9⟩ h
 exact⟨r,H',g0,f1,f2⟩
theorem roundF_ok {P : Program} [Gl P] (hx : ExF P x ex) {l : Nat} {args : List Value} {H : FH} {Hs : Heap} (hr : HR (comp P) H Hs) {c : Value→FH→RF} (h : Good (roundF x l args H c)) :
  ∃ v H' Hs',roundF x l args H c=c v H'∧xround ex l ⟨args⟩ Hs=some (v,Hs')∧HR (comp P) H' Hs':=by
 unfold roundF at h ⊢
 obtain⟨st,pj,t,ps,ca,cb,fa,fb,df,e1,e2⟩:=onLoop_good h
 rw[e2] at h ⊢
 have ho:=hr.obj l
 rw[e1] at ho
 obtain⟨r,g0,g1,g2,g3,g4,g5,g6,g7,g8,g9⟩:=ho
 subst g4 g5 g6 g7 g8
 obtain⟨e3,e4,t2,e5,e6⟩:=setArgs_ok g3 h
 rw[e6] at h ⊢
 have hsz : (⟨args⟩ : Array Value).size=r.params.size:=by simpa using e3
 rw[← setParams_all e3] at e5
 have hg : Good (x (comp P r.assign) (some l) [] t2 H):=by
  intro n hn
  rw[hn] at h
  exact not_good (n:=n) h
 obtain⟨e,a,f1,f2⟩:=hx r.assign (some l) [] t2 H _ Hs e5 hr hg
 cases hxr : x (comp P r.assign) (some l) [] t2 H with
 | fail n=>exact absurd hxr (hg n)
 | ex id t' m' H'=>rw[hxr] at h;exact not_good (n:=73) h
 | rt t' m' H'=>rw[hxr] at h;exact not_good (n:=73) h
 | nx t' m' H'=>
  rw[hxr] at h f2
  cases e with
  | exit id=>exact f2.elim
  | ret=>exact f2.elim
  | normal=>
   obtain⟨a1,a2,a3⟩:=f2
   have h' : Good (round1 x l (comp P r.body) t' m' H' c):=h
   show ∃ v H2 Hs2,round1 x l (comp P r.body) t' m' H' c=c v H2∧_
   clear h
   unfold round1 at h' ⊢
   obtain⟨st1,pj1,t1,ps1,ca1,cb1,fa1,fb1,df1,b1,b2⟩:=onLoop_good h'
   rw[b2] at h' ⊢
   obtain⟨b3,b4⟩:=isReady_good h'
   rw[b4] at h' ⊢
   have ho1:=a2.obj l
   rw[b1] at ho1
   obtain⟨r1,k0,k1,k2,k3,k4,k5,k6,k7,k8,k9⟩:=ho1
   obtain⟨H2,c1,c2⟩:=setF_good a2 (x:=.loop .busy pj1 t1 ps1 ca1 cb1 fa1 fb1 df1) (o:=.loop { r1 with state:=.busy }) ⟨_,rfl,rfl,k2,k3,k4,k5,k6,k7,k8,k9⟩ h'
   rw[c2] at h' ⊢
   have hg2 : Good (x (comp P r.body) (some l) m' t' H2):=by
    intro n hn
    rw[hn] at h'
    exact not_good (n:=n) h'
   obtain⟨e',a',d1,d2⟩:=hx r.body (some l) m' t' H2 a.tmps (a.heap.set l (.loop { r1 with state:=.busy })) a1 c1 hg2
   have ha : ({ a with heap:=a.heap.set l (.loop { r1 with state:=.busy }) } : AS)={ tmps:=a.tmps,marks:=m',heap:=a.heap.set l (.loop { r1 with state:=.busy }) }:=by rw[← a3]
   have hst : r1.state=.ready:=by rw[k1,b3]
   have fin : ∀ r2 : Loop,a'.heap.get l=some (.loop r2)→xround ex l ⟨args⟩ Hs=some (.bool e'.jump.isNone,a'.heap.set l (.loop { r2 with state:=if e'.jump.isNone then .ready else .done,pending:=e'.jump })):=by
    intro r2 hr2
    unfold xround
    simp only[g0]
    rw[if_pos hsz,f1]
    simp only[k0]
    rw[if_pos hst,ha,d1]
    simp only[hr2]
   cases hxr2 : x (comp P r.body) (some l) m' t' H2 with
   | fail n=>exact absurd hxr2 (hg2 n)
   | nx t3 m3 H3=>
    rw[hxr2] at h' d2
    cases e' with
    | normal=>
     obtain⟨q1,q2,q3⟩:=d2
     obtain⟨r2,H4,p1,p2,p3⟩:=round2_ok q2 (st:=.ready) (b:=true) (pj:=none) (l:=l) (c:=c) h'
     exact⟨_,H4,_,p3,fin r2 p1,p2⟩
    | exit id=>exact d2.elim
    | ret=>exact d2.elim
   | ex id t3 m3 H3=>
    rw[hxr2] at h' d2
    cases e' with
    | exit id'=>
     obtain⟨q0,q1,q2,q3⟩:=d2
     subst q0
     obtain⟨r2,H4,p1,p2,p3⟩:=round2_ok q2 (st:=.done) (b:=false) (pj:=some (.exit id')) (l:=l) (c:=c) h'
     exact⟨_,H4,_,p3,fin r2 p1,p2⟩
    | normal=>exact d2.elim
    | ret=>exact d2.elim
   | rt t3 m3 H3=>
    rw[hxr2] at h' d2
    cases e' with
    | ret=>
     obtain⟨q1,q2,q3⟩:=d2
     obtain⟨r2,H4,p1,p2,p3⟩:=round2_ok q2 (st:=.done) (b:=false) (pj:=some .ret) (l:=l) (c:=c) h'
     exact⟨_,H4,_,p3,fin r2 p1,p2⟩
    | normal=>exact d2.elim
    | exit id=>exact d2.elim
theorem opv_ok (hF : FnOk P F) (hx : ExF P x ex) : OpvF (comp P) P F x ex:=by
 intro op t tm H Hs c ht hr h
 cases hc : isCall op with
 | false=>
  obtain⟨v,H',Hs',e1,e2,e3⟩:=compOp_ok (F:=F) (x:=x) op hc t tm H Hs c ht hr h
  refine⟨v,H',Hs',e1,?_,e3⟩
  unfold xopv
  split
  ·simp[isCall] at hc
  ·exact e2
 | true=>
  unfold isCall at hc
  split at hc
  ·rename_i f args ts
   have h' : Good (opCall (compA P f) (args.toList.map (compA P)) P F x t H c):=h
   show ∃ v H' Hs',opCall (compA P f) (args.toList.map (compA P)) P F x t H c=c v H'∧_
   clear h
   unfold opCall at h' ⊢
   rw[evA_comp ht] at h' ⊢
   rcases asFunc_good h' with⟨g,a,b,e1,e2⟩|⟨l,a,b,e1,e2⟩
   ·rw[e2] at h' ⊢
    simp only[evL_comp ht,catL_eq] at h' ⊢
    obtain⟨v,H',Hs',e3,e4,e5⟩:=callF_ok hF hx hr h'
    refine⟨v,H',Hs',e3,?_,e5⟩
    simp only[xopv,e1]
    have : (⟨a⟩ : Array Value)++args.map (ev P tm)++⟨b⟩=⟨a++(args.toList.map (ev P tm)++b)⟩:=by apply Array.toList_inj.1;simp
    rw[this]
    exact e4
   ·rw[e2] at h' ⊢
    simp only[evL_comp ht,catL_eq] at h' ⊢
    obtain⟨v,H',Hs',e3,e4,e5⟩:=roundF_ok hx hr h'
    refine⟨v,H',Hs',e3,?_,e5⟩
    simp only[xopv,e1]
    have : (⟨a⟩ : Array Value)++args.map (ev P tm)=⟨a++args.toList.map (ev P tm)⟩:=by apply Array.toList_inj.1;simp
    rw[this]
    exact e4
  ·cases hc
end
end Go.Xe
