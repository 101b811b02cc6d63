/- An executable reading of the model's code over an abstract heap (part 35): a closed call run in pieces: what lies between two of them is written out, and of the memory only what is named. Conditions: as part 33's. -/
import Derived.Test.YtgcdbdcnlhonfaaYg
namespace Go.Xe
open Go
def pd : Nat→HT
 | 0=>.e
 | d+1=>.n .dead (pd d) (pd d)
theorem getH_pd : ∀ (d j : Nat),getH (pd d) j=.dead
 | 0,j=>rfl
 | d+1,0=>rfl
 | d+1,j+1=>by
  have e : getH (pd (d+1)) (j+1)=Bool.rec (motive:=fun _=>FO) (getH (pd d) (Nat.div j 2)) (getH (pd d) (Nat.div j 2)) (Nat.beq (Nat.mod j 2) 0):=rfl
  rw[e,getH_pd d]
  cases Nat.beq (Nat.mod j 2) 0<;>rfl
noncomputable def startL (ids : List Nat) : HT→HT→(HT→RF)→RF:=
 List.rec (motive:=fun _=>HT→HT→(HT→RF)→RF) (fun _ T k=>k T) (fun i _ ih E T k=>HT.rec (motive:=fun _=>RF) (.fail 120) (fun o _ r _ _=>setH o T i fun T'=>ih r T' k) E) ids
section
variable {P : Program} [Gl P]
def Objs (cp : Code→FCode) (Hs : Heap) : List Nat→HT→Prop
 | [],_=>True
 | i::is,.n o _ r=>FOR cp o (Hs.get i)∧Objs cp Hs is r
 | _::_,.e=>False
def StOk (cp : Code→FCode) (t : TT) (ids : List Nat) (E : HT) (nx : Nat) (tm : Array Value) (Hs : Heap) : Prop:=TR t tm∧nx=Hs.next∧Objs cp Hs ids E
theorem startL_ok {cp : Code→FCode} {Hs : Heap} : ∀ {ids : List Nat} {E T : HT} {k : HT→RF},Good (startL ids E T k)→(∀ j,FOR cp (getH T j) (Hs.get j))→Objs cp Hs ids E →
  ∃ T',startL ids E T k=k T'∧∀ j,FOR cp (getH T' j) (Hs.get j)
 | [],E,T,k,_,hT,_=>⟨T,rfl,hT⟩
 | i::is,.e,T,k,h,_,_=>not_good (n:=120) h
 | i::is,.n o l r,T,k,h,hT,hO=>by
  have h' : Good (setH o T i fun T'=>startL is r T' k):=h
  obtain⟨T1,h1,h2⟩:=setH_good h'
  rw[h2] at h'
  obtain⟨T2,h3,h4⟩:=startL_ok (ids:=is) h' (fun j=>by
   rw[h1]
   by_cases e : j=i
   ·rw[if_pos e,e];exact hO.1
   ·rw[if_neg e];exact hT j) hO.2
  exact⟨T2,(show startL (i::is) (.n o l r) T k=_ from h2.trans h3),h4⟩
variable [Orc P]
theorem last_ok {F : Nat→FFunc} (hF : FnOk P F) {n nx d : Nat} {c : Code} {x : FCode} (hl : comp P c=x) {t : TT} {ids : List Nat} {E : HT} {fn : Func} (hok : ∀ r∈fn.results.toList,resOk P r=true) {res : List FRes} (hres : fn.results.toList.map (compR P)=res)
  (h : startL ids E (pd d) (fun T=>afterF (execF P F n x none [] t (.mk nx T)) res endT)=.rt .e [] (.mk 0 .e)) {tm : Array Value} {Hs : Heap} (hs : StOk (comp P) t ids E nx tm Hs) :
  ∃ e a H1,exec P n none c ⟨tm,[],Hs⟩=some (e,a)∧(∀ id,e≠.exit id)∧xunmark a.marks a.heap=some H1∧xresults P H1 fn a.tmps=some (.bool true):=by
 subst hl
 subst hres
 obtain⟨h1,h2,h3⟩:=hs
 have hg : Good (startL ids E (pd d) (fun T=>afterF (execF P F n (comp P c) none [] t (.mk nx T)) (fn.results.toList.map (compR P)) endT)):=by
  intro q hq;rw[h] at hq;cases hq
 obtain⟨T,e1,e2⟩:=startL_ok hg (cp:=comp P) (Hs:=Hs) (fun j=>by rw[getH_pd];trivial) h3
 rw[e1] at h hg
 have hg2 : Good (execF P F n (comp P c) none [] t (.mk nx T)):=by
  intro q hq
  rw[hq] at hg
  exact not_good (n:=q) hg
 obtain⟨e,a,f1,f2⟩:=execF_ok hF n c none [] t (.mk nx T) tm Hs h1 (show HR (comp P) (.mk nx T) Hs from ⟨h2,e2⟩) hg2
 have fin : ∀ t' m' H',TR t' a.tmps→HR (comp P) H' a.heap→a.marks=m'→endF (fn.results.toList.map (compR P)) t' m' H' endT=.rt .e [] (.mk 0 .e) →
   ∃ H1,xunmark a.marks a.heap=some H1∧xresults P H1 fn a.tmps=some (.bool true):=by
  intro t' m' H' k1 k2 k3 k4
  have hg3 : Good (endF (fn.results.toList.map (compR P)) t' m' H' endT):=by
   intro q hq;rw[k4] at hq;cases hq
  obtain⟨v,H1,Hs1,g1,g2,g3,g4⟩:=endF_ok hok k1 (m:=m') k2 hg3
  rw[g4] at k4 hg3
  have hv : v=.bool true:=by
   unfold endT at k4 hg3
   rcases asBool_good hg3 with⟨a,b⟩|⟨a,b⟩|⟨_,_,b⟩
   ·exact a
   ·rw[b] at k4;cases k4
   ·rw[b] at k4;cases k4
  subst hv
  exact⟨Hs1,by rw[k3];exact g1,g2⟩
 cases hxr : execF P F n (comp P c) none [] t (.mk nx T) with
 | fail q=>exact absurd hxr (hg2 q)
 | ex id t' m' H'=>rw[hxr] at hg;exact not_good (n:=71) hg
 | nx t' m' H'=>
  rw[hxr] at h f2
  cases e with
  | ret=>exact f2.elim
  | exit id=>exact f2.elim
  | normal=>
   obtain⟨q1,q2,q3⟩:=f2
   obtain⟨H1,k1,k2⟩:=fin t' m' H' q1 q2 q3 h
   exact⟨_,a,H1,f1,(by intro id h;cases h),k1,k2⟩
 | rt t' m' H'=>
  rw[hxr] at h f2
  cases e with
  | normal=>exact f2.elim
  | exit id=>exact f2.elim
  | ret=>
   obtain⟨q1,q2,q3⟩:=f2
   obtain⟨H1,k1,k2⟩:=fin t' m' H' q1 q2 q3 h
   exact⟨_,a,H1,f1,(by intro id h;cases h),k1,k2⟩
end
theorem closed_x {P : Program} [Gl P] (O : Orc P) (hmix : P.follows .mixedOrders=true) {Hs0 Hs' : Heap}
  (hst : ∀ w : World,O.base≤w.heap.size→O.I w→∃ θ,Rel P θ Hs0 w∧At P θ w∧∀ i p,θ i=some p→p.rw=false) {N f : Nat} (h : xcall P (exec P N) f #[] Hs0=some (.bool true,Hs'))
  (hfn : ∃ fn, P.funcs[f]? = some fn ∧ fn.body.isSome = true ∧ (fn.name == "runtime.NumGoroutine") = false) :
  (∀ (w : World) (r : Option Nat) (n : Nat), O.base ≤ w.heap.size → O.I w → CallsIn (FW r) n P f #[] w (Quiet (.bool true) w)) ∧ ∃ fn, P.funcs[f]? = some fn ∧ fn.body.isSome = true ∧ (fn.name == "runtime.NumGoroutine") = false := by
 refine⟨fun w r n hb hI=>?_,hfn⟩
 obtain⟨θ,hrel,hat,hno⟩:=hst w hb hI
 refine ((xcall_ok (exec_ok hmix N) h hrel hat (args':=#[]) AR.nil r n).1).mono ?_
 rintro e w' ⟨v',θ',k1,k2,k3,k4⟩
 cases k4
 exact⟨k1,k2.size,fun b hb=>k2.frame b hb (fun i p hp hrw=>by rw[hno i p hp] at hrw;cases hrw),k2.os,k2.tape,k2.output⟩
theorem start_x {P : Program} (O : Orc P) (hb : O.base=0) : ∀ w : World,O.base≤w.heap.size→O.I w→∃ θ,Rel P θ Heap.empty w∧@At P (Gl.none P) O θ w∧∀ i p,θ i=some p→p.rw=false:=by
 letI:=Gl.none P
 exact fun w _ hI=>⟨fun _=>none,⟨(fun i o hi=>by simp[Heap.get,Heap.empty,Tr.get] at hi),(fun i p hp=>by cases hp),⟨_,.ro (fun i p hp=>by cases hp) (fun i c el k hi=>by simp[Heap.get,Heap.empty,Tr.get] at hi)⟩⟩,⟨by rw[hb];exact Nat.zero_le _,hI,fun i p hp=>(by cases hp),fun g hg=>(by cases hg)⟩,fun i p hp=>by cases hp⟩
def sdrop : Nat→Code→Code
 | n+1,.seq _ b=>sdrop n b
 | _,c=>c
def fsdrop : Nat→FCode→FCode
 | n+1,.seq _ b=>fsdrop n b
 | _,c=>c
end Go.Xe
