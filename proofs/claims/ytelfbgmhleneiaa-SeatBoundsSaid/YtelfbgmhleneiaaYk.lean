/- Mathematics of seats (part 3): the parties that take part, one by one. Conditions: none. -/
import Derived.Test.YtelfbgmhleneiaaSN
import Derived.Test.YtelfbgmhleneiaaZb
namespace Go.Xe.Sea
variable {v : Nat→Int} {q : Nat→Q2}
def adl (v : Nat→Int) (k : Nat) : List Nat:=(List.range k).filter fun p=>decide (0<v p)
theorem adl_1 (k : Nat) : adl v (k+1)=if 0<v k then adl v k++[k] else adl v k:=by
 unfold adl
 rw[List.range_succ,List.filter_append]
 split
 ·rw[List.filter_cons_of_pos (by simp;omega)];rfl
 ·rw[List.filter_cons_of_neg (by simp;omega)];simp
theorem mem_adl {k p : Nat} : p∈adl v k↔p<k∧0<v p:=by
 unfold adl;rw[List.mem_filter,List.mem_range,decide_eq_true_eq]
theorem adl_pre {v : Nat→Int} : ∀ {a b : Nat},a≤b→∃ r,adl v b=adl v a++r
 | a,0,h=>⟨[],by rw[Nat.le_zero.1 h,List.append_nil]⟩
 | a,b+1,h=>by
  by_cases he : a=b+1
  ·exact⟨[],by rw[he,List.append_nil]⟩
  ·obtain⟨r,hr⟩:=adl_pre (v:=v) (a:=a) (b:=b) (by omega)
   rw[adl_1]
   split
   ·exact⟨r++[b],by rw[hr,List.append_assoc]⟩
   ·exact⟨r,hr⟩
theorem adl_at {p n : Nat} (hp : p<n) (hv : 0<v p) : (adl v n)[(adl v p).length]?=some p:=by
 obtain⟨r,hr⟩:=adl_pre (v:=v) (show p+1≤n by omega)
 rw[hr,adl_1,if_pos hv,List.append_assoc,List.getElem?_append_right (Nat.le_refl _)]
 simp
theorem adl_split {n : Nat} {a b : List Nat} {p : Nat} (h : adl v n=a++p::b) : adl v p=a∧adl v (p+1)=a++[p]:=by
 have hm : p∈adl v n:=by rw[h];simp
 obtain⟨hp,hv⟩:=mem_adl.1 hm
 have h1:=adl_at hp hv
 obtain⟨r,hr⟩:=adl_pre (v:=v) (show p≤n by omega)
 have hnd : (adl v n).Nodup:=List.nodup_range.sublist List.filter_sublist
 have h2 : (adl v n)[a.length]?=some p:=by rw[h];simp
 have hlt : a.length<(adl v n).length:=by rw[h];simp
 have hl : (adl v p).length=a.length:=((List.getElem?_inj hlt hnd).1 (h2.trans h1.symm)).symm
 have e : adl v p=a:=by
  have e1 : (adl v n).take a.length=a:=by rw[h];simp
  have e2 : (adl v n).take a.length=adl v p:=by rw[hr,← hl];simp
  rw[← e1,e2]
 refine⟨e,?_⟩
 rw[adl_1,if_pos hv,e]
theorem tp_adl (k : Nat) : tp v q k=(adl v k).filter fun p=>decide (∀ o,o∈adl v k→¬ qlt (q p) (q o)):=by
 unfold tp
 conv=>rhs;unfold adl
 rw[List.filter_filter]
 apply List.filter_congr
 intro p _
 rw[← Bool.decide_and,decide_eq_decide]
 constructor
 ·rintro⟨h1,h2⟩
  refine⟨fun o ho=>?_,h1⟩
  obtain⟨h3,h4⟩:=mem_adl.1 ho
  exact h2 o h3 h4
 ·rintro⟨h1,h2⟩
  exact⟨h2,fun o h3 h4=>h1 o (mem_adl.2 ⟨h3,h4⟩)⟩
theorem tp_cong {a b : Nat} (h : adl v a=adl v b) : tp v q a=tp v q b:=by rw[tp_adl,tp_adl,h]
def pix (v : Nat→Int) (k : Nat) : Nat:=(adl v 8).getD k 8
theorem pix_adl {k : Nat} (h : k≤(adl v 8).length) : adl v (pix v k)=(adl v 8).take k:=by
 unfold pix
 rw[List.getD_eq_getElem?_getD]
 by_cases hk : k<(adl v 8).length
 ·rw[List.getElem?_eq_getElem hk]
  have e : adl v 8=(adl v 8).take k++(adl v 8)[k]::(adl v 8).drop (k+1):=by
   rw[← List.drop_eq_getElem_cons hk,List.take_append_drop]
  exact (adl_split e).1
 ·rw[List.getElem?_eq_none (by omega),List.take_of_length_le (by omega)]
  rfl
theorem pix_at {k : Nat} (hk : k<(adl v 8).length) : (adl v 8)[k]=pix v k∧pix v k<8∧0<v (pix v k)∧∀ {q : Nat→Q2},tp v q (pix v (k+1))=tp v q (pix v k+1):=by
 have e0 : (adl v 8)[k]=pix v k:=by unfold pix;rw[List.getD_eq_getElem?_getD,List.getElem?_eq_getElem hk];rfl
 have hm:=mem_adl.1 (List.getElem_mem hk)
 rw[e0] at hm
 refine⟨e0,hm.1,hm.2,?_⟩
 intro q
 apply tp_cong
 rw[pix_adl (by omega)]
 have e : adl v 8=(adl v 8).take k++(adl v 8)[k]::(adl v 8).drop (k+1):=by
  rw[← List.drop_eq_getElem_cons hk,List.take_append_drop]
 rw[e0] at e
 rw[(adl_split e).2,← e0,List.take_succ_eq_append_getElem hk]
theorem pix_0 : tp v q (pix v 0)=[]:=by
 rw[tp_adl,pix_adl (Nat.zero_le _)];rfl
theorem pix_end : tp v q (pix v (adl v 8).length)=tp v q 8:=by
 apply tp_cong
 rw[pix_adl (Nat.le_refl _),List.take_length]
end Go.Xe.Sea
/- An executable reading of the model's code over an abstract heap (part 35): a closed call run in pieces: what lies between two of them is written out, and of the memory only what is named. Conditions: as part 33's. -/
namespace Go.Xe
open Go
def pd : Nat→HT
 | 0=>.e
 | d+1=>.n .dead (pd d) (pd d)
theorem getH_pd : ∀ (d j : Nat),getH (pd d) j=.dead
 | 0,j=>rfl
 | d+1,0=>rfl
 | d+1,j+1=>by
  have e : getH (pd (d+1)) (j+1)=Bool.rec (motive:=fun _=>FO) (getH (pd d) (Nat.div j 2)) (getH (pd d) (Nat.div j 2)) (Nat.beq (Nat.mod j 2) 0):=rfl
  rw[e,getH_pd d]
  cases Nat.beq (Nat.mod j 2) 0<;>rfl
noncomputable def startL (ids : List Nat) : HT→HT→(HT→RF)→RF:=
 List.rec (motive:=fun _=>HT→HT→(HT→RF)→RF) (fun _ T k=>k T) (fun i _ ih E T k=>HT.rec (motive:=fun _=>RF) (.fail 120) (fun o _ r _ _=>setH o T i fun T'=>ih r T' k) E) ids
noncomputable def fetch (H : FH) (ids : List Nat) : HT:=List.rec (motive:=fun _=>HT) .e (fun i _ ih=>.n (objF H i) .e ih) ids
noncomputable def outR (ids : List Nat) (t : TT) (m : List Nat) (H : FH) : RF:=.nx t m (.mk (nextF H) (fetch H ids))
noncomputable def contR (r : RF) (k : TT→List Nat→FH→RF) : RF:=RF.rec (motive:=fun _=>RF) (fun n=>.fail n) (fun t m H=>k t m H) (fun _ _ _ _=>.fail 121) (fun _ _ _=>.fail 122) r
noncomputable def segF (P : Program) (F : Nat→FFunc) (n : Nat) : List FCode→TT→List Nat→FH→(TT→List Nat→FH→RF)→RF
 | [],t,m,H,k=>k t m H
 | x::r,t,m,H,k=>contR (execF P F (n+r.length) x none m t H) fun t m H=>segF P F n r t m H k
section
variable {P : Program} [Gl P]
def Objs (cp : Code→FCode) (Hs : Heap) : List Nat→HT→Prop
 | [],_=>True
 | i::is,.n o _ r=>FOR cp o (Hs.get i)∧Objs cp Hs is r
 | _::_,.e=>False
def StOk (cp : Code→FCode) (t : TT) (ids : List Nat) (E : HT) (nx : Nat) (tm : Array Value) (Hs : Heap) : Prop:=TR t tm∧nx=Hs.next∧Objs cp Hs ids E
theorem startL_ok {cp : Code→FCode} {Hs : Heap} : ∀ {ids : List Nat} {E T : HT} {k : HT→RF},Good (startL ids E T k)→(∀ j,FOR cp (getH T j) (Hs.get j))→Objs cp Hs ids E →
  ∃ T',startL ids E T k=k T'∧∀ j,FOR cp (getH T' j) (Hs.get j)
 | [],E,T,k,_,hT,_=>⟨T,rfl,hT⟩
 | i::is,.e,T,k,h,_,_=>not_good (n:=120) h
 | i::is,.n o l r,T,k,h,hT,hO=>by
  have h' : Good (setH o T i fun T'=>startL is r T' k):=h
  obtain⟨T1,h1,h2⟩:=setH_good h'
  rw[h2] at h'
  obtain⟨T2,h3,h4⟩:=startL_ok (ids:=is) h' (fun j=>by
   rw[h1]
   by_cases e : j=i
   ·rw[if_pos e,e];exact hO.1
   ·rw[if_neg e];exact hT j) hO.2
  exact⟨T2,(show startL (i::is) (.n o l r) T k=_ from h2.trans h3),h4⟩
theorem fetch_ok {cp : Code→FCode} {H : FH} {Hs : Heap} (hr : HR cp H Hs) : ∀ {ids : List Nat} {E : HT},fetch H ids=E→Objs cp Hs ids E
 | [],_,_=>trivial
 | i::is,E,h=>by
  subst h
  exact⟨hr.obj i,fetch_ok hr (ids:=is) rfl⟩
variable [Orc P]
def SegOk (P : Program) [Gl P] [Orc P] (n : Nat) : List Code→AS→AS→Prop
 | [],a,a'=>a=a'
 | c::r,a,a'=>∃ a1,exec P (n+r.length) none c a=some (.normal,a1)∧SegOk P n r a1 a'
def seqs : List Code→Code→Code
 | [],c=>c
 | x::l,c=>.seq x (seqs l c)
theorem exec_seqs {n : Nat} {c : Code} : ∀ {l : List Code} {a a' : AS},SegOk P n l a a'→exec P (n+l.length) none (seqs l c) a=exec P n none c a'
 | [],a,a',h=>by cases h;rfl
 | x::l,a,a',h=>by
  obtain⟨a1,h1,h2⟩:=h
  have h3:=exec_seqs (c:=c) h2
  rw[List.length_cons,← Nat.add_assoc]
  simp only[seqs,exec,h1]
  exact h3
theorem segF_ok {F : Nat→FFunc} (hF : FnOk P F) {n : Nat} : ∀ {l : List Code} {t : TT} {m : List Nat} {H : FH} {tm : Array Value} {Hs : Heap} {k : TT→List Nat→FH→RF},
  TR t tm→HR (comp P) H Hs→Good (segF P F n (l.map (comp P)) t m H k)→∃ t' m' H' tm' Hs',SegOk P n l ⟨tm,m,Hs⟩ ⟨tm',m',Hs'⟩∧TR t' tm'∧HR (comp P) H' Hs'∧segF P F n (l.map (comp P)) t m H k=k t' m' H'
 | [],t,m,H,tm,Hs,k,ht,hr,_=>⟨t,m,H,tm,Hs,rfl,ht,hr,rfl⟩
 | c::l,t,m,H,tm,Hs,k,ht,hr,h=>by
  have e0 : segF P F n ((c::l).map (comp P)) t m H k=contR (execF P F (n+l.length) (comp P c) none m t H) fun t m H=>segF P F n (l.map (comp P)) t m H k:=by
   simp only[List.map_cons,segF,List.length_map]
  rw[e0] at h ⊢
  have hg : Good (execF P F (n+l.length) (comp P c) none m t H):=by
   intro q hq
   rw[hq] at h
   exact not_good (n:=q) h
  obtain⟨e,a,e1,e2⟩:=execF_ok hF (n+l.length) c none m t H tm Hs ht hr hg
  cases hx : execF P F (n+l.length) (comp P c) none m t H with
  | fail q=>exact absurd hx (hg q)
  | ex id t' m' H'=>rw[hx] at h;exact not_good (n:=121) h
  | rt t' m' H'=>rw[hx] at h;exact not_good (n:=122) h
  | nx t' m' H'=>
   rw[hx] at h e2
   cases e with
   | ret=>exact e2.elim
   | exit id=>exact e2.elim
   | normal=>
    obtain⟨f1,f2,f3⟩:=e2
    obtain⟨tm1,m1,Hs1⟩:=a
    cases f3
    obtain⟨t2,m2,H2,tm2,Hs2,g1,g2,g3,g4⟩:=segF_ok hF (l:=l) f1 f2 h
    exact⟨t2,m2,H2,tm2,Hs2,⟨_,e1,g1⟩,g2,g3,g4⟩
theorem seg_ok {F : Nat→FFunc} (hF : FnOk P F) {n nx nx2 d : Nat} {l : List Code} {xs : List FCode} (hl : l.map (comp P)=xs) {t t2 : TT} {ids ids2 : List Nat} {E E2 : HT}
  (h : startL ids E (pd d) (fun T=>segF P F n xs t [] (.mk nx T) (outR ids2))=.nx t2 [] (.mk nx2 E2)) {tm : Array Value} {Hs : Heap} (hs : StOk (comp P) t ids E nx tm Hs) :
  ∃ tm' Hs',SegOk P n l ⟨tm,[],Hs⟩ ⟨tm',[],Hs'⟩∧StOk (comp P) t2 ids2 E2 nx2 tm' Hs':=by
 subst hl
 obtain⟨h1,h2,h3⟩:=hs
 have hg : Good (startL ids E (pd d) (fun T=>segF P F n (l.map (comp P)) t [] (.mk nx T) (outR ids2))):=by
  intro q hq;rw[h] at hq;cases hq
 obtain⟨T,e1,e2⟩:=startL_ok hg (cp:=comp P) (Hs:=Hs) (fun j=>by rw[getH_pd];trivial) h3
 rw[e1] at h hg
 obtain⟨t',m',H',tm',Hs',g1,g2,g3,g4⟩:=segF_ok hF (l:=l) h1 (show HR (comp P) (.mk nx T) Hs from ⟨h2,e2⟩) hg
 rw[g4] at h
 have h' : RF.nx t' m' (.mk (nextF H') (fetch H' ids2))=.nx t2 [] (.mk nx2 E2):=h
 simp only[RF.nx.injEq,FH.mk.injEq] at h'
 obtain⟨rfl,rfl,k3,k4⟩:=h'
 refine⟨tm',Hs',g1,g2,?_,fetch_ok g3 k4⟩
 cases H' with
 | mk a b=>exact k3.symm.trans g3.1
theorem last_ok {F : Nat→FFunc} (hF : FnOk P F) {n nx d : Nat} {c : Code} {x : FCode} (hl : comp P c=x) {t : TT} {ids : List Nat} {E : HT} {fn : Func} (hok : ∀ r∈fn.results.toList,resOk P r=true) {res : List FRes} (hres : fn.results.toList.map (compR P)=res)
  (h : startL ids E (pd d) (fun T=>afterF (execF P F n x none [] t (.mk nx T)) res endT)=.rt .e [] (.mk 0 .e)) {tm : Array Value} {Hs : Heap} (hs : StOk (comp P) t ids E nx tm Hs) :
  ∃ e a H1,exec P n none c ⟨tm,[],Hs⟩=some (e,a)∧(∀ id,e≠.exit id)∧xunmark a.marks a.heap=some H1∧xresults P H1 fn a.tmps=some (.bool true):=by
 subst hl
 subst hres
 obtain⟨h1,h2,h3⟩:=hs
 have hg : Good (startL ids E (pd d) (fun T=>afterF (execF P F n (comp P c) none [] t (.mk nx T)) (fn.results.toList.map (compR P)) endT)):=by
  intro q hq;rw[h] at hq;cases hq
 obtain⟨T,e1,e2⟩:=startL_ok hg (cp:=comp P) (Hs:=Hs) (fun j=>by rw[getH_pd];trivial) h3
 rw[e1] at h hg
 have hg2 : Good (execF P F n (comp P c) none [] t (.mk nx T)):=by
  intro q hq
  rw[hq] at hg
  exact not_good (n:=q) hg
 obtain⟨e,a,f1,f2⟩:=execF_ok hF n c none [] t (.mk nx T) tm Hs h1 (show HR (comp P) (.mk nx T) Hs from ⟨h2,e2⟩) hg2
 have fin : ∀ t' m' H',TR t' a.tmps→HR (comp P) H' a.heap→a.marks=m'→endF (fn.results.toList.map (compR P)) t' m' H' endT=.rt .e [] (.mk 0 .e) →
   ∃ H1,xunmark a.marks a.heap=some H1∧xresults P H1 fn a.tmps=some (.bool true):=by
  intro t' m' H' k1 k2 k3 k4
  have hg3 : Good (endF (fn.results.toList.map (compR P)) t' m' H' endT):=by
   intro q hq;rw[k4] at hq;cases hq
  obtain⟨v,H1,Hs1,g1,g2,g3,g4⟩:=endF_ok hok k1 (m:=m') k2 hg3
  rw[g4] at k4 hg3
  have hv : v=.bool true:=by
   unfold endT at k4 hg3
   rcases asBool_good hg3 with⟨a,b⟩|⟨a,b⟩|⟨_,_,b⟩
   ·exact a
   ·rw[b] at k4;cases k4
   ·rw[b] at k4;cases k4
  subst hv
  exact⟨Hs1,by rw[k3];exact g1,g2⟩
 cases hxr : execF P F n (comp P c) none [] t (.mk nx T) with
 | fail q=>exact absurd hxr (hg2 q)
 | ex id t' m' H'=>rw[hxr] at hg;exact not_good (n:=71) hg
 | nx t' m' H'=>
  rw[hxr] at h f2
  cases e with
  | ret=>exact f2.elim
  | exit id=>exact f2.elim
  | normal=>
   obtain⟨q1,q2,q3⟩:=f2
   obtain⟨H1,k1,k2⟩:=fin t' m' H' q1 q2 q3 h
   exact⟨_,a,H1,f1,(by intro id h;cases h),k1,k2⟩
 | rt t' m' H'=>
  rw[hxr] at h f2
  cases e with
  | normal=>exact f2.elim
  | exit id=>exact f2.elim
  | ret=>
   obtain⟨q1,q2,q3⟩:=f2
   obtain⟨H1,k1,k2⟩:=fin t' m' H' q1 q2 q3 h
   exact⟨_,a,H1,f1,(by intro id h;cases h),k1,k2⟩
end
theorem closed_x {P : Program} [Gl P] (O : Orc P) (hmix : P.follows .mixedOrders=true) {Hs0 Hs' : Heap}
  (hst : ∀ w : World,O.base≤w.heap.size→O.I w→∃ θ,Rel P θ Hs0 w∧At P θ w∧∀ i p,θ i=some p→p.rw=false) {N f : Nat} (h : xcall P (exec P N) f #[] Hs0=some (.bool true,Hs'))
  (hfn : ∃ fn, P.funcs[f]? = some fn ∧ fn.body.isSome = true ∧ (fn.name == "runtime.NumGoroutine") = false) :
  (∀ (w : World) (r : Option Nat) (n : Nat), O.base ≤ w.heap.size → O.I w → CallsIn (FW r) n P f #[] w (Quiet (.bool true) w)) ∧ ∃ fn, P.funcs[f]? = some fn ∧ fn.body.isSome = true ∧ (fn.name == "runtime.NumGoroutine") = false := by
 refine⟨fun w r n hb hI=>?_,hfn⟩
 obtain⟨θ,hrel,hat,hno⟩:=hst w hb hI
 refine ((xcall_ok (exec_ok hmix N) h hrel hat (args':=#[]) AR.nil r n).1).mono ?_
 rintro e w' ⟨v',θ',k1,k2,k3,k4⟩
 cases k4
 exact⟨k1,k2.size,fun b hb=>k2.frame b hb (fun i p hp hrw=>by rw[hno i p hp] at hrw;cases hrw),k2.os,k2.tape,k2.output⟩
theorem start_x {P : Program} (O : Orc P) (hb : O.base=0) : ∀ w : World,O.base≤w.heap.size→O.I w→∃ θ,Rel P θ Heap.empty w∧@At P (Gl.none P) O θ w∧∀ i p,θ i=some p→p.rw=false:=by
 letI:=Gl.none P
 exact fun w _ hI=>⟨fun _=>none,⟨(fun i o hi=>by simp[Heap.get,Heap.empty,Tr.get] at hi),(fun i p hp=>by cases hp),⟨_,.ro (fun i p hp=>by cases hp) (fun i c el k hi=>by simp[Heap.get,Heap.empty,Tr.get] at hi)⟩⟩,⟨by rw[hb];exact Nat.zero_le _,hI,fun i p hp=>(by cases hp),fun g hg=>(by cases hg)⟩,fun i p hp=>by cases hp⟩
def stake : Nat→Code→List Code
 | n+1,.seq a b=>a::stake n b
 | _,_=>[]
def sdrop : Nat→Code→Code
 | n+1,.seq _ b=>sdrop n b
 | _,c=>c
def fstake : Nat→FCode→List FCode
 | n+1,.seq a b=>a::fstake n b
 | _,_=>[]
def fsdrop : Nat→FCode→FCode
 | n+1,.seq _ b=>fsdrop n b
 | _,c=>c
theorem seqs_stake : ∀ (n : Nat) (c : Code),seqs (stake n c) (sdrop n c)=c
 | 0,c=>by simp[stake,sdrop,seqs]
 | n+1,c=>by
  cases c with
  | seq a b=>simp only[stake,sdrop,seqs,seqs_stake n b]
  | _=>simp[stake,sdrop,seqs]
end Go.Xe
/- An executable reading of the model's code over an abstract heap (part 36): the pieces of a closed call, put together. Conditions: as part 33's. -/
namespace Go.Xe
open Go
theorem sdrop_add : ∀ (n m : Nat) (c : Code),sdrop m (sdrop n c)=sdrop (n+m) c
 | 0,m,c=>by simp[sdrop]
 | n+1,m,c=>by
  cases c with
  | seq a b=>rw[show n+1+m=(n+m)+1 by omega];simp only[sdrop];exact sdrop_add n m b
  | _=>
   rw[show n+1+m=(n+m)+1 by omega]
   simp only[sdrop]
section
variable {P : Program} [Gl P]
theorem comp_drop : ∀ (n : Nat) (c : Code),comp P (sdrop n c)=fsdrop n (comp P c)
 | 0,c=>by simp[sdrop,fsdrop]
 | n+1,c=>by
  cases c with
  | seq a b=>simp only[sdrop,comp,fsdrop];exact comp_drop n b
  | region i ops d=>cases d<;>simp only[sdrop,comp,fsdrop]<;>split<;>simp[fsdrop]
  | _=>simp[sdrop,comp,fsdrop]
theorem comp_take : ∀ (n : Nat) (c : Code),(stake n c).map (comp P)=fstake n (comp P c)
 | 0,c=>by simp[stake,fstake]
 | n+1,c=>by
  cases c with
  | seq a b=>simp only[stake,comp,fstake,List.map_cons,comp_take n b]
  | region i ops d=>cases d<;>simp only[stake,comp,fstake,List.map_nil]<;>split<;>simp[fstake]
  | _=>simp[stake,comp,fstake]
theorem of_entry {fn : Func} {c : Code} {k : Nat} {x : FCode} {tp : TT} {as : List Pth} {rs : List FRes} (h2 : fn.body=some c) (h : compF P fn k=.mk x tp as rs) : comp P c=x∧fn.results.toList.map (compR P)=rs:=by
 unfold compF at h
 rw[h2] at h
 simp only[FFunc.mk.injEq] at h
 exact⟨h.1,h.2.2.2⟩
theorem stOk_start {n : Nat} : StOk (comp P) (mkTT n) [] .e 0 (Array.replicate n undef) Heap.empty:=⟨mkTT_TR n,rfl,trivial⟩
variable [Orc P]
theorem piece {F : Nat→FFunc} (hF : FnOk P F) {c : Code} {x : FCode} (hc : comp P c=x) (o len n : Nat) {nx nx2 d : Nat} (hlen : (fstake len (fsdrop o x)).length=len) {t t2 : TT} {ids ids2 : List Nat} {E E2 : HT}
  (h : startL ids E (pd d) (fun T=>segF P F n (fstake len (fsdrop o x)) t [] (.mk nx T) (outR ids2))=.nx t2 [] (.mk nx2 E2)) {tm : Array Value} {Hs : Heap} (hs : StOk (comp P) t ids E nx tm Hs) :
  ∃ tm' Hs',exec P (n+len) none (sdrop o c) ⟨tm,[],Hs⟩=exec P n none (sdrop (o+len) c) ⟨tm',[],Hs'⟩∧StOk (comp P) t2 ids2 E2 nx2 tm' Hs':=by
 subst hc
 have hl : (stake len (sdrop o c)).map (comp P)=fstake len (fsdrop o (comp P c)):=by rw[comp_take,comp_drop]
 obtain⟨tm',Hs',h1,h2⟩:=seg_ok hF hl h hs
 refine⟨tm',Hs',?_,h2⟩
 have hk : (stake len (sdrop o c)).length=len:=by
  have e:=congrArg List.length hl
  rw[List.length_map,hlen] at e
  exact e
 have:=exec_seqs (c:=sdrop len (sdrop o c)) h1
 rw[seqs_stake,hk,sdrop_add] at this
 exact this
theorem piece_last {F : Nat→FFunc} (hF : FnOk P F) {c : Code} {x : FCode} (hc : comp P c=x) (o n : Nat) {nx d : Nat} {t : TT} {ids : List Nat} {E : HT} {fn : Func} (hok : okF P fn=true) {res : List FRes} (hres : fn.results.toList.map (compR P)=res)
  (h : startL ids E (pd d) (fun T=>afterF (execF P F n (fsdrop o x) none [] t (.mk nx T)) res endT)=.rt .e [] (.mk 0 .e)) {tm : Array Value} {Hs : Heap} (hs : StOk (comp P) t ids E nx tm Hs) :
  ∃ e a H1,exec P n none (sdrop o c) ⟨tm,[],Hs⟩=some (e,a)∧(∀ id,e≠.exit id)∧xunmark a.marks a.heap=some H1∧xresults P H1 fn a.tmps=some (.bool true):=by
 subst hc
 have hok' : ∀ r∈fn.results.toList,resOk P r=true:=by
  unfold okF at hok
  simp only[Bool.and_eq_true,List.all_eq_true] at hok
  exact hok.2
 exact last_ok hF (comp_drop o c) hok' hres h hs
theorem xcall_of {f N : Nat} {fn : Func} {c : Code} {Hs H1 : Heap} {e : XE} {a : AS} {v : Value} (h0 : Orc.O P f=none) (h1 : P.funcs[f]?=some fn) (h2 : fn.body=some c) (h3 : okF P fn=true)
  (hx : exec P N none c ⟨Array.replicate fn.ntmps undef,[],Hs⟩=some (e,a)) (hne : ∀ id,e≠.exit id) (hu : xunmark a.marks a.heap=some H1) (hv : xresults P H1 fn a.tmps=some v) :
  xcall P (exec P N) f #[] Hs = some (v, H1) ∧ ∃ fn, P.funcs[f]? = some fn ∧ fn.body.isSome = true ∧ (fn.name == "runtime.NumGoroutine") = false := by
 have hn : (fn.name == "runtime.NumGoroutine") = false := by
  unfold okF at h3
  simp only[Bool.and_eq_true,Bool.not_eq_true'] at h3
  exact h3.1
 refine⟨?_,fn,h1,by rw[h2];rfl,hn⟩
 unfold xcall
 simp only[h0,h1,h2,hn,if_true]
 have e5 : (#[] : Array Value)++Array.replicate (fn.ntmps-(#[] : Array Value).size) undef=Array.replicate fn.ntmps undef:=by simp
 rw[e5,hx]
 cases e with
 | exit id=>exact absurd rfl (hne id)
 | normal=>simp only[hu,hv]
 | ret=>simp only[hu,hv]
end
end Go.Xe
/- An executable reading of the model's code over an abstract heap (part 37): closed calls where one table among the package-level variables is known. Conditions: as part 33's; the table lies where the variable lies. -/
namespace Go.Xe
open Go
def TabAt (g : Nat) (tab : List Value) (w : World) : Prop:=∃ c el fz,w.heap[g]?=some (.cells c el fz)∧∀ (k : Nat) (v : Value),tab[k]?=some v→c[k]?=some v
theorem TabAt.keep {g : Nat} {tab : List Value} {w w' : World} (hb : ∀ b,b<g+1→w'.heap[b]?=w.heap[b]?) (h : TabAt g tab w) : TabAt g tab w':=by
 obtain⟨c,el,fz,h1,h2⟩:=h
 exact⟨c,el,fz,(hb g (Nat.lt_succ_self g)).trans h1,h2⟩
end Go.Xe
