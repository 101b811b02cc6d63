/- Rules of reasoning over the executable reading of the model's code (part Z14): arrays of known length. Conditions: none; for every program. -/
import Derived.Test.YtgcdbdcnlhonfaaZm
import Derived.Test.YtgcdbdcnlhonfaaYe
namespace Go.Xe
open Go
def An (n : Nat) (p : Nat→Value) : List Value:=(List.range n).map p
section
variable {n i k : Nat} {p q : Nat→Value} {v : Value}
theorem An_len : (An n p).length=n:=by simp[An]
theorem An_get (h : i<n) : (An n p)[i]?=some (p i):=by simp[An,h]
theorem An_set : (An n p).set k v=An n (fun i=>if i=k then v else p i):=by
 apply List.ext_getElem?
 intro j
 rw[List.getElem?_set]
 by_cases hj : j<n
 ·rw[An_get hj,An_get hj,An_len]
  by_cases e : k=j
  ·subst e;simp[hj]
  ·rw[if_neg e,if_neg (fun h=>e h.symm)]
 ·have h1 : (An n p)[j]?=none:=by rw[List.getElem?_eq_none_iff,An_len];omega
  have h2 : (An n (fun i=>if i=k then v else p i))[j]?=none:=by rw[List.getElem?_eq_none_iff,An_len];omega
  rw[h1,h2,An_len]
  by_cases e : k=j
  ·subst e;simp;omega
  ·rw[if_neg e]
theorem An_cong (h : ∀ i,i<n→p i=q i) : An n p=An n q:=List.map_congr_left (fun i hi=>h i (List.mem_range.1 hi))
theorem setC_pre : ∀ (vs c : List Value) (o : Nat),o+vs.length≤c.length→setCells vs o ⟨c⟩=⟨c.take o++vs++c.drop (o+vs.length)⟩
 | [],c,o,_=>by rw[setC_nil];simp
 | v::vs,c,o,h=>by
  rw[setC_cons,setC_pre vs (c.set o v) (o+1) (by simp at h ⊢;omega)]
  have ho : o<c.length:=by simp at h;omega
  congr 1
  rw[List.take_set,List.drop_set_of_lt (by omega)]
  have e1 : (c.take (o+1)).set o v=c.take o++[v]:=by
   rw[List.take_succ_eq_append_getElem ho,List.set_append_right _ _ (by simp;omega)]
   simp[Nat.min_eq_left (Nat.le_of_lt ho)]
  rw[e1]
  simp[Nat.add_comm,Nat.add_left_comm]
theorem all2_refl {f : Value→Value→Bool} : ∀ {l : List Value},(∀ x∈l,f x x=true)→all2 f l l=true
 | [],_=>rfl
 | x::l,h=>by
  simp only[all2,Bool.and_eq_true]
  exact⟨h x (by simp),all2_refl (fun y hy=>h y (by simp[hy]))⟩
theorem An_inb {f : Nat→Bool} {b : Nat} : (⟨An n fun i=>.bool (f i)⟩ : Array Value).toList.all (inBound b 2)=true:=by
 refine List.all_eq_true.2 (fun x hx=>?_)
 obtain⟨i,_,rfl⟩:=List.mem_map.1 hx
 rfl
theorem vEq_An {f : Nat→Bool} : vEq 3 (.agg ⟨An n fun i=>.bool (f i)⟩) (.agg ⟨An n fun i=>.bool (f i)⟩)=true:=by
 show all2 (vEq 2) _ _=true
 refine all2_refl (fun x hx=>?_)
 obtain⟨i,_,rfl⟩:=List.mem_map.1 hx
 simp[vEq,vEq0]
theorem idx_arr {len o i : Nat} {kd : IntKind} (h : k<len) : yindexAddr (some len) 1 (.pointer (some ⟨i,o,none⟩)) (.int kd (k : Int))=some (.pointer (some ⟨i,o+k,none⟩)):=by
 simp only[yindexAddr]
 rw[if_pos ⟨by omega,by omega⟩]
 simp
end
end Go.Xe
/- Rules of reasoning over the executable reading of the model's code (part Z15): maps. Conditions: none; for every program. -/
namespace Go.Xe
open Go
theorem Grow.maps {A B : Heap} (h : Grow A B) {i : Nat} (hi : i<A.next) : B.mapAt i=A.mapAt i:=by unfold Heap.mapAt;rw[h.2 i hi]
theorem maps_alloc (H : Heap) (kt : TypeId) (es : Array MapEntry) (clk : Nat) : (H.alloc (.map kt es clk)).mapAt H.next=some (kt,es,clk):=by
 have:=Heap.get_alloc H H.next (.map kt es clk)
 unfold Heap.mapAt;rw[this,if_pos rfl]
theorem maps_set (H : Heap) (i : Nat) (kt : TypeId) (es : Array MapEntry) (clk : Nat) : (H.set i (.map kt es clk)).mapAt i=some (kt,es,clk):=by
 have:=Heap.get_set H i i (.map kt es clk)
 unfold Heap.mapAt;rw[this,if_pos rfl]
theorem maps_set_ne (H : Heap) (o : AO) {i j : Nat} (h : i≠j) : (H.set j o).mapAt i=H.mapAt i:=by
 have:=Heap.get_set H j i o
 unfold Heap.mapAt;rw[this,if_neg h]
def Mp (H : Heap) (i : Nat) (kt : TypeId) (es : List MapEntry) : Prop:=i<H.next∧∃ clk,H.mapAt i=some (kt,⟨es⟩,clk)
theorem Mp.grow {A B : Heap} (g : Grow A B) {i : Nat} {kt : TypeId} {es : List MapEntry} (h : Mp A i kt es) : Mp B i kt es:=by
 obtain⟨h1,clk,h2⟩:=h
 exact⟨Nat.lt_of_lt_of_le h1 g.1,clk,(g.maps h1).trans h2⟩
theorem Mp.set {A : Heap} {i j : Nat} {kt : TypeId} {es : List MapEntry} (h : Mp A i kt es) (hij : i≠j) (o : AO) : Mp (A.set j o) i kt es:=⟨h.1,h.2.elim fun clk h2=>⟨clk,(maps_set_ne A o hij).trans h2⟩⟩
theorem Mp.alloc {A : Heap} {i : Nat} {kt : TypeId} {es : List MapEntry} (h : Mp A i kt es) (o : AO) : Mp (A.alloc o) i kt es:=h.grow ((Grow.refl A).alloc o)
def GrowX (j : Nat) (A B : Heap) : Prop:=A.next≤B.next∧∀ i,i<A.next→i≠j→B.get i=A.get i
theorem Grow.x {A B : Heap} (h : Grow A B) (j : Nat) : GrowX j A B:=⟨h.1,fun i hi _=>h.2 i hi⟩
theorem GrowX.trans {j : Nat} {A B C : Heap} (h : GrowX j A B) (k : GrowX j B C) : GrowX j A C:=⟨Nat.le_trans h.1 k.1,fun i hi hj=>(k.2 i (Nat.lt_of_lt_of_le hi h.1) hj).trans (h.2 i hi hj)⟩
theorem GrowX.set {j : Nat} {A B : Heap} (h : GrowX j A B) (o : AO) : GrowX j A (B.set j o):=⟨h.1,fun i hi hj=>by rw[Heap.get_set,if_neg hj];exact h.2 i hi hj⟩
theorem GrowX.alloc {j : Nat} {A B : Heap} (h : GrowX j A B) (o : AO) : GrowX j A (B.alloc o):=h.trans (((Grow.refl B).alloc o).x j)
theorem GrowX.grow {j : Nat} {H A B : Heap} (h : GrowX j A B) (g : Grow H A) (hj : H.next≤j) : Grow H B:=⟨Nat.le_trans g.1 h.1,fun i hi=>(h.2 i (Nat.lt_of_lt_of_le hi g.1) (by omega)).trans (g.2 i hi)⟩
section
variable {P : Program} {kt : TypeId} {z k v : Value} {H : Heap} {i clk : Nat} {es : Array MapEntry}
theorem upd_miss (hm : H.mapAt i=some (kt,es,clk)) (h1 : keyedB P kt=true) (h2 : keyishV k=true) (h3 : (keyOf P kt k).isSome=true) (hf : xfind k es.toList 0=none) : ymapUpdate P kt H (.map (some i)) k v=some (H.set i (.map kt (es.push { key:=k,val:=v,born:=clk }) (clk+1))):=by
 simp only[ymapUpdate,hm]
 rw[if_pos ⟨trivial,h1,h2,h3⟩,hf]
end
end Go.Xe
/- Rules of reasoning over the executable reading of the model's code (part Z17): loops over functions, and their rounds. Conditions: none; for every program. -/
namespace Go.Xe
open Go
def GrowS (U : Nat→Prop) (A B : Heap) : Prop:=A.next≤B.next∧∀ i,i<A.next→¬ U i→B.get i=A.get i
section
variable {U V : Nat→Prop} {A B C : Heap}
theorem GrowS.refl (A : Heap) : GrowS U A A:=⟨Nat.le_refl _,fun _ _ _=>rfl⟩
theorem GrowS.trans (h : GrowS U A B) (k : GrowS U B C) : GrowS U A C:=⟨Nat.le_trans h.1 k.1,fun i hi hu=>(k.2 i (Nat.lt_of_lt_of_le hi h.1) hu).trans (h.2 i hi hu)⟩
theorem Grow.s (h : Grow A B) : GrowS U A B:=⟨h.1,fun i hi _=>h.2 i hi⟩
theorem GrowS.mono (h : GrowS U A B) (k : ∀ i,U i→V i) : GrowS V A B:=⟨h.1,fun i hi hv=>h.2 i hi (fun hu=>hv (k i hu))⟩
theorem GrowS.alloc (h : GrowS U A B) (o : AO) : GrowS U A (B.alloc o):=h.trans (Grow.s ((Grow.refl B).alloc o))
theorem GrowS.set (h : GrowS U A B) {i : Nat} (hi : U i∨A.next≤i) (o : AO) : GrowS U A (B.set i o):=
 ⟨h.1,fun j hj hu=>by
  rw[Heap.get_set]
  split
  ·rename_i e;subst e;rcases hi with hi|hi
   ·exact absurd hi hu
   ·omega
  ·exact h.2 j hj hu⟩
theorem GrowS.setAt (A : Heap) (i : Nat) (o : AO) : GrowS (·=i) A (A.set i o):=(GrowS.refl A).set (U:=(·=i)) (i:=i) (Or.inl rfl) o
theorem GrowS.grow {H : Heap} (h : GrowS U A B) (g : Grow H A) (hu : ∀ i,U i→H.next≤i) : Grow H B:=
 ⟨Nat.le_trans g.1 h.1,fun i hi=>(h.2 i (Nat.lt_of_lt_of_le hi g.1) (fun u=>by have:=hu i u;omega)).trans (g.2 i hi)⟩
theorem GrowS.x {j : Nat} (h : GrowX j A B) (hj : U j) : GrowS U A B:=⟨h.1,fun i hi hu=>h.2 i hi (fun e=>hu (e ▸ hj))⟩
theorem GrowS.cells (h : GrowS U A B) {i : Nat} (hi : i<A.next) (hu : ¬ U i) : B.cellsAt i=A.cellsAt i:=by unfold Heap.cellsAt;rw[h.2 i hi hu]
theorem Bx.growS {i : Nat} {c : List Value} {e : TypeId} (h : Bx A i c e) (g : GrowS U A B) (hu : ¬ U i) : Bx B i c e:=⟨Nat.lt_of_lt_of_le h.1 g.1,by rw[g.cells h.1 hu];exact h.2⟩
theorem Mp.growS {i : Nat} {kt : TypeId} {es : List MapEntry} (h : Mp A i kt es) (g : GrowS U A B) (hu : ¬ U i) : Mp B i kt es:=by
 obtain⟨h1,clk,h2⟩:=h
 refine⟨Nat.lt_of_lt_of_le h1 g.1,clk,?_⟩
 rw[← h2];unfold Heap.mapAt;rw[g.2 i h1 hu]
end
section
variable (P : Program) [Gl P] [Orc P]
def FV (y : Value) (args : List Value) (H : Heap) (R : Value→Heap→Prop) : Prop:=match y with
 | .func (.func g) ⟨a⟩ ⟨b⟩=>F P g ⟨a++args++b⟩ H R
 | .func (.yield l) ⟨a⟩ _=>∃ v H',EvY P l ⟨a++args⟩ H v H'∧R v H'
 | _=>False
def Rd (r : Loop) (ps : List Pth) (fa fb : FCode) (t : TT) : Prop:=r.state=.ready∧r.pending=none∧TR t r.tmps∧r.params.toList.map pth=ps∧comp P r.assign=fa∧comp P r.body=fb
end
section
variable {P : Program} [Gl P] [Orc P] {rnd : Option Nat} {Q : FQ} {K : List FFr} {t : TT} {m : List Nat} {H : Heap}
variable {is : List FI} {d p : Pth} {w : Bool} {v : Value} {fa : FA} {args : List FA} {y : Value} {l : List Value} {R R' : Value→Heap→Prop}
theorem FV.mono (h : FV P y l H R) (k : ∀ v H',R v H'→R' v H') : FV P y l H R':=by
 unfold FV at h ⊢
 split at h
 ·exact F.mono h k
 ·obtain⟨v,H',h1,h2⟩:=h;exact⟨v,H',h1,k _ _ h2⟩
 ·exact h
theorem FV.fn {g : FuncId} {a b : List Value} (h : F P g ⟨a++l++b⟩ H R) : FV P (.func (.func g) ⟨a⟩ ⟨b⟩) l H R:=h
theorem VI.callV (hf : dA t fa=y) (h : FV P y (args.map (dA t)) H R) (k : ∀ v H1,R v H1→VI P rnd Q K m is (st v d t) H1) : VI P rnd Q K m (.go (.call fa args) d::is) t H:=by
 subst hf
 unfold FV at h
 split at h
 ·rename_i g a b e
  obtain⟨v,H1,h1,h2⟩:=h
  refine .does (.call e (H1:=H1) (v:=v) ?_) (k _ _ h2)
  have e2 : (⟨a⟩ : Array Value)++⟨args.map (dA t)⟩++⟨b⟩=⟨a++args.map (dA t)++b⟩:=by simp only[arr_app]
  rw[e2];exact h1
 ·rename_i l a b e
  obtain⟨v,H1,h1,h2⟩:=h
  refine .does (.yield e (H1:=H1) (v:=v) ?_) (k _ _ h2)
  have e2 : (⟨a⟩ : Array Value)++⟨args.map (dA t)⟩=⟨a++args.map (dA t)⟩:=by simp only[arr_app]
  rw[e2];exact h1
 ·exact h.elim
omit [Orc P] in
theorem comp_range {c : Code} {f : FA} {ps : List Pth} {ca cb : Code} {x y : FCode} (h : comp P c=.rangeFunc f ps ca cb x y) : ∃ f0 ps0,c=.rangeFunc f0 ps0 ca cb∧compA P f0=f∧ps0.toList.map pth=ps∧comp P ca=x∧comp P cb=y:=by
 cases c with
 | rangeFunc f0 ps0 a b=>simp only[comp] at h;cases h;exact⟨_,_,rfl,rfl,rfl,rfl,rfl⟩
 | region i ops draw=>
  cases draw<;>simp only[comp] at h
  ·cases h
  ·split at h<;>cases h
 | _=>simp only[comp,reduceCtorEq] at h
theorem V.range {f : FA} {ps : List Pth} {ca cb : Code} {x y : FCode} {g : FuncId} {first cap : List Value} {m1 : List Nat} {H1 : Heap} {dd : Nat} (hf : dA t f=.func (.func g) ⟨first⟩ ⟨cap⟩) (he : xenter rnd m H=some (dd,m1,H1))
  (h : ∀ r,Rd P r ps x y t→F P g ⟨first++[.func (.yield H1.next) ⟨[]⟩ ⟨[]⟩]++cap⟩ (H1.alloc (.loop r)) (fun _ H2=>∃ st e,st≠LoopState.busy∧H2.get H1.next=some (.loop { r with state:=st,pending:=XE.jump e }) ∧
   V P rnd Q K e t m1 (H2.set H1.next (.loop { r with state:=.exhausted,pending:=XE.jump e })))) :
  V P rnd Q (.seq (.rangeFunc f ps ca cb x y)::K) .normal t m H:=by
 intro c tm hc ht
 obtain⟨f0,ps0,rfl,rfl,rfl,rfl,rfl⟩:=comp_range hc
 rw[dA_comp ht] at hf
 obtain⟨v,H2,⟨n,h1⟩,st,e,hst,hl,hV⟩:=h { state:=.ready,pending:=none,fn:=0,tmps:=tm,params:=ps0,assign:=ca,body:=cb,defers:=dd } ⟨rfl,rfl,ht,rfl,rfl,rfl⟩
 refine⟨e,tm,m1,_,t,⟨n+2,fun N hN=>?_⟩,ht,hV⟩
 obtain⟨N,rfl⟩ : ∃ M,N=M+2:=⟨N-2,by omega⟩
 have hcall : xrangeCall (ev P tm f0) H1.next=some (g,⟨first++[.func (.yield H1.next) ⟨[]⟩ ⟨[]⟩]++cap⟩):=by
  rw[hf];simp only[xrangeCall,arr_app]
 unfold exec
 simp only[he,hcall,h1 (N+1) (by omega),hl]
 rw[if_neg hst]
 cases e with
 | normal=>simp only[XE.jump]
 | exit id=>simp only[XE.jump,exec]
 | ret=>simp only[XE.jump,exec]
theorem EvY.of {r : Loop} {ps : List Pth} {x y : FCode} {j : Nat} {l : List Value} (hr : Rd P r ps x y t) (hl : H.get j=some (.loop r)) (hn : l.length=ps.length)
  (h : V P (some j) (fun e t1 m1 H1=>e=.normal∧H1.get j=some (.loop r)∧V P (some j) (fun e2 _ _ H2=>H2.get j=some (.loop { r with state:=.busy }) ∧
   R (.bool e2.jump.isNone) (H2.set j (.loop { r with state:=if e2.jump.isNone then .ready else .done,pending:=e2.jump }))) [.seq y] .normal t1 m1 (H1.set j (.loop { r with state:=.busy }))) [.seq x] .normal (sets l ps t) [] H) :
  ∃ v H',EvY P j ⟨l⟩ H v H'∧R v H':=by
 obtain⟨hst,hp,ht,rfl,rfl,rfl⟩:=hr
 have hn' : l.length=r.params.toList.length:=by simpa using hn
 have ht1 : TR (sets l (r.params.toList.map pth) t) (setParams r.tmps r.params ⟨l⟩):=by rw[setParams_all hn'];exact sets_TR ht
 obtain⟨e1,tm1,m1,H1,t1,⟨n1,k1⟩,ht2,rfl,hl1,h2⟩:=h r.assign _ rfl ht1
 obtain⟨e2,tm2,m2,H2,t2,⟨n2,k2⟩,_,hl2,hR⟩:=h2 r.body _ rfl ht2
 refine⟨_,_,⟨n1+n2,fun N hN=>?_⟩,hR⟩
 unfold xround
 simp only[hl]
 rw[if_pos (by simpa using hn')]
 simp only[k1 N (by omega),hl1]
 rw[if_pos hst]
 simp only[k2 N (by omega),hl2]
end
def Iter (P : Program) [Gl P] [Orc P] (g : FuncId) (first cap : List Value) (D : Nat→Prop) (H0 : Heap) (L : List (List Value)) : Prop:=
 ∀ (y : Value) (U : Nat→Prop) (I : Nat→Heap→Prop) (J : Heap→Prop) (H : Heap),H0.next≤H.next→(∀ i,D i→i<H0.next∧¬ U i∧H.get i=H0.get i) →
  (∀ k X X',I k X→GrowS U H X→Grow X X'→I k X')→(∀ X X',J X→GrowS U H X→Grow X X'→J X') →
  (∀ k (hk : k<L.length) X,I k X→GrowS U H X→FV P y L[k] X (fun v X'=>GrowS U X X'∧((v=.bool true∧I (k+1) X')∨(v=.bool false∧J X')))) →
  I 0 H→F P g ⟨first++[y]++cap⟩ H (fun _ H'=>GrowS U H H'∧(I L.length H'∨J H'))
section
variable {P : Program} [Gl P] [Orc P] {rnd : Option Nat} {Q : FQ} {K : List FFr} {t : TT} {m : List Nat} {H : Heap}
theorem V.rangeL {f : FA} {ps : List Pth} {ca cb : Code} {x y : FCode} {g : FuncId} {first cap : List Value} {m1 : List Nat} {H0 H1 : Heap} {dd : Nat} {D : Nat→Prop} {L : List (List Value)} (hI : Iter P g first cap D H0 L) (U : Nat→Prop) (I : Nat→Heap→Prop) (J : XE→Heap→Prop)
  (hf : dA t f=.func (.func g) ⟨first⟩ ⟨cap⟩) (he : xenter rnd m H=some (dd,m1,H1)) (hH : H0.next≤H1.next) (hD : ∀ i,D i→i<H0.next∧¬ U i∧H1.get i=H0.get i) (hL : ∀ l∈L,l.length=ps.length)
  (sI : ∀ k X X' r1 r2,I k X→X.get H1.next=some (.loop r1)→X'.get H1.next=some (.loop r2)→GrowS (·=H1.next) X X'→I k X')
  (sJ : ∀ e X X' r1 r2,J e X→X.get H1.next=some (.loop r1)→X'.get H1.next=some (.loop r2)→GrowS (·=H1.next) X X'→J e X')
  (h0 : ∀ r,I 0 (H1.alloc (.loop r)))
  (hB : ∀ k (hk : k<L.length) r X,I k X→GrowS (fun i=>U i∨i=H1.next) H1 X→H1.next<X.next→X.get H1.next=some (.loop r)→r.state=.ready →
   V P (some H1.next) (fun e t1 m1 X1=>e=.normal∧X1.get H1.next=some (.loop r)∧GrowS U X X1∧∀ X2,X2=X1.set H1.next (.loop { r with state:=.busy })→X2.get H1.next=some (.loop { r with state:=.busy })→GrowS (·=H1.next) X1 X2 →
    V P (some H1.next) (fun e2 _ _ X3=>X3.get H1.next=some (.loop { r with state:=.busy })∧GrowS U X2 X3∧((e2=.normal∧I (k+1) X3)∨(e2≠.normal∧J e2 X3))) [.seq y] .normal t1 m1 X2) [.seq x] .normal (sets L[k] ps t) [] X)
  (hE : ∀ e X,((e=.normal∧I L.length X)∨(e≠.normal∧J e X))→GrowS (fun i=>U i∨i=H1.next) H1 X→H1.next<X.next→V P rnd Q K e t m1 X) :
  V P rnd Q (.seq (.rangeFunc f ps ca cb x y)::K) .normal t m H:=by
 refine V.range hf he (fun r hr=>?_)
 have hr1:=hr.1
 have hr2:=hr.2.1
 have hrr : ∀ s p,({ r with state:=s,pending:=p } : Loop)={ r with state:=s,pending:=p }:=fun _ _=>rfl
 have hn : (H1.alloc (.loop r)).next=H1.next+1:=rfl
 have hg0 : (H1.alloc (.loop r)).get H1.next=some (.loop r):=by rw[Heap.get_alloc,if_pos rfl]
 have same : ({ r with state:=.ready,pending:=none } : Loop)=r:=by cases r;cases hr1;cases hr2;rfl
 refine F.mono (hI (.func (.yield H1.next) ⟨[]⟩ ⟨[]⟩) (fun i=>U i∨i=H1.next) (fun k X=>I k X∧X.get H1.next=some (.loop r)) (fun X=>∃ e,e≠XE.normal∧J e X∧X.get H1.next=some (.loop { r with state:=.done,pending:=e.jump })) (H1.alloc (.loop r))
  (by rw[hn];omega) ?_ ?_ ?_ ?_ ⟨h0 r,hg0⟩) ?_
 ·intro i hi
  obtain⟨h1,h2,h3⟩:=hD i hi
  refine⟨h1,fun h=>h.elim h2 (fun e=>by omega),?_⟩
  rw[Heap.get_alloc,if_neg (by omega),h3]
 ·rintro k X X' ⟨h1,h2⟩ hg g
  have hlt : H1.next<X.next:=Nat.lt_of_lt_of_le (Nat.lt_succ_self _) hg.1
  have h3 : X'.get H1.next=some (.loop r):=by rw[g.2 _ hlt,h2]
  exact⟨sI k X X' r r h1 h2 h3 g.s,h3⟩
 ·rintro X X' ⟨e,h1,h2,h3⟩ hg g
  have hlt : H1.next<X.next:=Nat.lt_of_lt_of_le (Nat.lt_succ_self _) hg.1
  have h4 : X'.get H1.next=some (.loop { r with state:=.done,pending:=e.jump }):=by rw[g.2 _ hlt,h3]
  exact⟨e,h1,sJ e X X' _ _ h2 h3 h4 g.s,h4⟩
 ·rintro k hk X ⟨h1,h2⟩ hg
  show ∃ v H',EvY P H1.next ⟨[]++L[k]⟩ X v H'∧_
  rw[List.nil_append]
  refine EvY.of hr h2 (hL _ (List.getElem_mem hk)) ?_
  have hg' : GrowS (fun i=>U i∨i=H1.next) H1 X:=⟨Nat.le_trans (Nat.le_succ _) hg.1,fun i hi hu=>by
   rw[hg.2 i (Nat.lt_succ_of_lt hi) hu,Heap.get_alloc,if_neg (by omega)]⟩
  have hlt : H1.next<X.next:=Nat.lt_of_lt_of_le (Nat.lt_succ_self _) hg.1
  have hb:=hB k hk r X h1 hg' hlt h2 hr1
  obtain⟨hst,hp,ht,hps,hx,hy⟩:=hr
  intro c tm hc htr
  obtain⟨e1,tm1,m1',X1,t1,c1,c2,rfl,c4,c5,c6⟩:=hb c tm hc htr
  refine⟨_,tm1,m1',X1,t1,c1,c2,rfl,c4,?_⟩
  have hlt1 : H1.next<X1.next:=Nat.lt_of_lt_of_le hlt c5.1
  have hset : (X1.set H1.next (.loop { r with state:=.busy })).get H1.next=some (.loop { r with state:=.busy }):=by rw[Heap.get_set,if_pos rfl]
  have hgs : GrowS (·=H1.next) X1 (X1.set H1.next (.loop { r with state:=.busy })):=GrowS.setAt _ _ _
  have hv:=c6 _ rfl hset hgs
  intro c' tm' hc' htr'
  obtain⟨e2,tm2,m2,X3,t2,d1,d2,d3,d4,d5⟩:=hv c' tm' hc' htr'
  refine⟨e2,tm2,m2,X3,t2,d1,d2,d3,?_⟩
  have hlt3 : H1.next<X3.next:=Nat.lt_of_lt_of_le hlt1 d4.1
  have hgX : GrowS (fun i=>U i∨i=H1.next) X X3:=((c5.mono (fun i h=>.inl h)).trans (hgs.mono (fun i h=>.inr h))).trans (d4.mono (fun i h=>.inl h))
  have hfin : ∀ s p,GrowS (·=H1.next) X3 (X3.set H1.next (.loop { r with state:=s,pending:=p })):=fun s p=>GrowS.setAt _ _ _
  have hget : ∀ s p,(X3.set H1.next (.loop { r with state:=s,pending:=p })).get H1.next=some (.loop { r with state:=s,pending:=p }):=fun s p=>by rw[Heap.get_set,if_pos rfl]
  refine⟨hgX.trans ((hfin _ _).mono (fun i h=>.inr h)),?_⟩
  rcases d5 with⟨rfl,d5⟩|⟨hne,d5⟩
  ·left
   refine⟨rfl,?_,?_⟩
   ·exact sI _ _ _ _ _ d5 d3 (hget _ _) (hfin _ _)
   ·simp only[XE.jump,Option.isNone_none,if_true]
    rw[hget,same]
  ·right
   have hj : e2.jump.isNone=false:=by cases e2<;>first|exact absurd rfl hne|rfl
   refine⟨by rw[hj],e2,hne,sJ _ _ _ _ _ d5 d3 (hget _ _) (hfin _ _),?_⟩
   rw[hget,hj];rfl
 ·rintro v X ⟨hg,hX⟩
  have hlt : H1.next<X.next:=Nat.lt_of_lt_of_le (Nat.lt_succ_self _) hg.1
  have hg' : GrowS (fun i=>U i∨i=H1.next) H1 X:=⟨Nat.le_trans (Nat.le_succ _) hg.1,fun i hi hu=>by
   rw[hg.2 i (Nat.lt_succ_of_lt hi) hu,Heap.get_alloc,if_neg (by omega)]⟩
  have hfin : ∀ s p,GrowS (·=H1.next) X (X.set H1.next (.loop { r with state:=s,pending:=p })):=fun s p=>GrowS.setAt _ _ _
  have hget : ∀ s p,(X.set H1.next (.loop { r with state:=s,pending:=p })).get H1.next=some (.loop { r with state:=s,pending:=p }):=fun s p=>by rw[Heap.get_set,if_pos rfl]
  rcases hX with⟨h1,h2⟩|⟨e,h1,h2,h3⟩
  ·refine⟨.ready,.normal,by simp,by rw[h2];simp only[XE.jump];rw[same],?_⟩
   exact hE .normal _ (.inl ⟨rfl,sI _ _ _ _ _ h1 h2 (hget _ _) (hfin _ _)⟩) (hg'.trans ((hfin _ _).mono (fun i h=>.inr h))) hlt
  ·refine⟨.done,e,by simp,h3,?_⟩
   exact hE e _ (.inr ⟨h1,sJ _ _ _ _ _ h2 h3 (hget _ _) (hfin _ _)⟩) (hg'.trans ((hfin _ _).mono (fun i h=>.inr h))) hlt
end
end Go.Xe
/- Rules of reasoning over the executable reading of the model's code (part Z18): guarded operations without cases. Conditions: none; for every program. -/
namespace Go.Xe
open Go
section
variable {P : Program} {is : List FI} {d : Pth} {t : TT} {H : Heap} {w b : Bool} {v u : Value} {o : Option (Value×Heap)} {c p : Prop} [Decidable c] [Decidable p] {pre : List Heap} {k : IntKind} {x y : Int}
theorem gs_bt : gsV (.bool b) true o H=if b=true then o else some (undef,H):=rfl
theorem gs_bf : gsV (.bool b) false o H=if b=false then o else some (undef,H):=rfl
theorem disK_ite : disK P is d t (if c then some (v,H) else some (u,H))=din P is (st (if c then v else u) d t) H:=by
 split<;>rfl
theorem disAK_ite : disAK P is d t pre (if c then some (v,H) else some (u,H))=dinA P is (st (if c then v else u) d t) H pre:=by
 split<;>rfl
theorem ite_vb {q r : Bool} : (if c then Value.bool q else Value.bool r)=.bool (if c then q else r):=by split<;>rfl
theorem ite_vi : (if c then Value.int k x else Value.int k y)=.int k (if c then x else y):=by split<;>rfl
theorem ite_dn : (if c then decide p else false)=decide (c∧p):=by by_cases h : c<;>simp[h]
theorem ite_nd : (if c then false else decide p)=decide (¬ c∧p):=by by_cases h : c<;>simp[h]
theorem ite_td : (if c then true else decide p)=decide (c∨p):=by by_cases h : c<;>simp[h]
theorem ite_dt : (if c then decide p else true)=decide (¬ c∨p):=by by_cases h : c<;>simp[h]
theorem ite_tf : (if c then true else false)=decide c:=by by_cases h : c<;>simp[h]
theorem ite_ft : (if c then false else true)=decide (¬ c):=by by_cases h : c<;>simp[h]
theorem not_dec : (!decide p)=decide (¬ p):=by by_cases h : p<;>simp[h]
theorem dec_t : (decide p=true)=p:=by simp
theorem dec_f : (decide p=false)=¬ p:=by simp
end
section
variable {P : Program} [Gl P] [Orc P] {rnd : Option Nat} {Q : FQ} {K : List FFr} {t : TT} {m : List Nat} {H : Heap}
variable {is : List FI} {d p : Pth} {fa : FA} {args : List FA} {v : Value} {g : FuncId} {a b l : List Value} {c : Prop} [Decidable c] {pre : List Heap} {R : TT→List Heap→Prop}
theorem VI.callGt (hp : gt p t=.bool (decide c)) (hf : c→dA t fa=.func (.func g) ⟨a⟩ ⟨b⟩) (hs : c→Gives P g l H v) (hl : c→a++args.map (dA t)++b=l) (k : ∀ H',Grow H H'→VI P rnd Q K m is (st (if c then v else undef) d t) H') :
  VI P rnd Q K m (.gd p true (.call fa args) d::is) t H:=by
 by_cases h : c
 ·refine .callAT (by rw[hp,decide_eq_true h]) (hf h) (hs h) (hl h) (fun H' g=>?_)
  have:=k H' g
  rwa [if_pos h] at this
 ·refine .gdF (by rw[hp,decide_eq_false h];rfl) ?_
  have:=k H (Grow.refl H)
  rwa [if_neg h] at this
theorem VI.callGf (hp : gt p t=.bool (decide c)) (hf : ¬ c→dA t fa=.func (.func g) ⟨a⟩ ⟨b⟩) (hs : ¬ c→Gives P g l H v) (hl : ¬ c→a++args.map (dA t)++b=l) (k : ∀ H',Grow H H'→VI P rnd Q K m is (st (if c then undef else v) d t) H') :
  VI P rnd Q K m (.gd p false (.call fa args) d::is) t H:=by
 by_cases h : c
 ·refine .gdF (by rw[hp,decide_eq_true h];rfl) ?_
  have:=k H (Grow.refl H)
  rwa [if_pos h] at this
 ·refine .callAT (by rw[hp,decide_eq_false h]) (hf h) (hs h) (hl h) (fun H' g=>?_)
  have:=k H' g
  rwa [if_neg h] at this
theorem VD.callGt (hp : gt p t=.bool (decide c)) (hf : c→dA t fa=.func (.func g) ⟨a⟩ ⟨b⟩) (hs : c→Gives P g l H v) (hl : c→a++args.map (dA t)++b=l) (k : ∀ H',Grow H H'→VD P is (st (if c then v else undef) d t) H' (pre++[H]) R) :
  VD P (.gd p true (.call fa args) d::is) t H pre R:=by
 by_cases h : c
 ·refine .callAT (by rw[hp,decide_eq_true h]) (hf h) (hs h) (hl h) (fun H' g=>?_)
  have:=k H' g
  rwa [if_pos h] at this
 ·refine .gdF (by rw[hp,decide_eq_false h];rfl) ?_
  have:=k H (Grow.refl H)
  rwa [if_neg h] at this
theorem VD.callGf (hp : gt p t=.bool (decide c)) (hf : ¬ c→dA t fa=.func (.func g) ⟨a⟩ ⟨b⟩) (hs : ¬ c→Gives P g l H v) (hl : ¬ c→a++args.map (dA t)++b=l) (k : ∀ H',Grow H H'→VD P is (st (if c then undef else v) d t) H' (pre++[H]) R) :
  VD P (.gd p false (.call fa args) d::is) t H pre R:=by
 by_cases h : c
 ·refine .gdF (by rw[hp,decide_eq_true h];rfl) ?_
  have:=k H (Grow.refl H)
  rwa [if_pos h] at this
 ·refine .callAT (by rw[hp,decide_eq_false h]) (hf h) (hs h) (hl h) (fun H' g=>?_)
  have:=k H' g
  rwa [if_neg h] at this
end
section
variable {H : Heap} {el : TypeId} {k : IntKind} {n : Int} {b : Bool} {p : Option Addr} {m l : Nat} {q : Option Nat} {f : Fn} {x y : Array Value}
theorem xbox_int : xbox H el (.int k n)=some (.pointer (some ⟨H.next,0,none⟩),H.alloc (.cells ⟨[.int k n]⟩ el true)):=rfl
theorem xbox_bool : xbox H el (.bool b)=some (.pointer (some ⟨H.next,0,none⟩),H.alloc (.cells ⟨[.bool b]⟩ el true)):=rfl
theorem xbox_ptr : xbox H el (.pointer p)=some (.pointer (some ⟨H.next,0,none⟩),H.alloc (.cells ⟨[.pointer p]⟩ el true)):=rfl
theorem xbox_slice : xbox H el (.slice p m l)=some (.pointer (some ⟨H.next,0,none⟩),H.alloc (.cells ⟨[.slice p m l]⟩ el true)):=rfl
theorem xbox_map : xbox H el (.map q)=some (.pointer (some ⟨H.next,0,none⟩),H.alloc (.cells ⟨[.map q]⟩ el true)):=rfl
theorem xbox_func : xbox H el (.func f x y)=some (.pointer (some ⟨H.next,0,none⟩),H.alloc (.cells ⟨[.func f x y]⟩ el true)):=rfl
end
theorem ok1_nilFunc : ok1 .nilFunc=true:=rfl
theorem xnil_ptr {a : Addr} : xnil (.pointer (some a))=some (.pointer (some a)):=rfl
theorem Lv.retM {t : TT} {H : Heap} {rs : List FRes} {S : Value→Heap→Prop} {w : Value} {d : Nat} (hd : H.get d=some (.deferred true)) (h : yres t (H.set d .dead) rs=some w) (k : S w (H.set d .dead)) : Lv rs S .ret t [d] H:=
 ⟨fun id=>by simp,H.set d .dead,w,by simp only[xunmark,hd],h,k⟩
theorem D3 : type_of% (And.intro D2<|And.intro @gs_bt<|And.intro @gs_bf<|And.intro @disK_ite<|And.intro @disAK_ite<|And.intro @ite_vb<|And.intro @ite_vi<|And.intro @ite_dn<|And.intro @ite_nd<|And.intro @ite_td<|And.intro @ite_dt<|And.intro @ite_tf<|And.intro @ite_ft<|And.intro @not_dec<|And.intro ok1_nilFunc<|And.intro @xnil_ptr<|And.intro @xbox_int<|And.intro @xbox_bool<|And.intro @xbox_ptr<|And.intro @xbox_slice<|And.intro @xbox_map<|And.intro @xbox_func<|And.intro @dec_t @dec_f):=
 And.intro D2<|And.intro @gs_bt<|And.intro @gs_bf<|And.intro @disK_ite<|And.intro @disAK_ite<|And.intro @ite_vb<|And.intro @ite_vi<|And.intro @ite_dn<|And.intro @ite_nd<|And.intro @ite_td<|And.intro @ite_dt<|And.intro @ite_tf<|And.intro @ite_ft<|And.intro @not_dec<|And.intro ok1_nilFunc<|And.intro @xnil_ptr<|And.intro @xbox_int<|And.intro @xbox_bool<|And.intro @xbox_ptr<|And.intro @xbox_slice<|And.intro @xbox_map<|And.intro @xbox_func<|And.intro @dec_t @dec_f
theorem nx : type_of% (And.intro @Heap.next_alloc @Heap.next_set):=And.intro @Heap.next_alloc @Heap.next_set
theorem D5 : type_of% (And.intro @gt_st<|And.intro @full_st<|And.intro @decide_true<|And.intro @decide_false Bool.false_eq_true):=And.intro @gt_st<|And.intro @full_st<|And.intro @decide_true<|And.intro @decide_false Bool.false_eq_true
theorem ds {α : Type} : (∀ (n : Nat) (a : α) (l : List α),(a::l).drop (n+1)=l.drop n)∧(∀ l : List α,l.drop 0=l):=⟨fun _ _ _=>rfl,fun _=>rfl⟩
theorem D4 : type_of% (And.intro D3<|And.intro @mm_max<|And.intro @mm_min<|And.intro @cells_alloc_at<|And.intro @cells_alloc_ne<|And.intro @cells_set_at<|And.intro @cells_set_ne<|And.intro @dop.eq_1<|And.intro @dop.eq_2<|And.intro @dop.eq_3<|And.intro @dop.eq_4<|And.intro @dop.eq_5<|And.intro @dop.eq_6<|And.intro @dop.eq_7<|And.intro @dop.eq_8<|And.intro @dop.eq_9<|And.intro @dop.eq_10<|And.intro @dop.eq_11<|And.intro @dop.eq_12<|And.intro @dop.eq_13<|And.intro @dop.eq_14<|And.intro @dop.eq_15<|And.intro @dop.eq_16<|And.intro @dop.eq_17<|And.intro @dop.eq_18<|And.intro @dop.eq_19<|And.intro @dop.eq_20<|And.intro @dop.eq_21<|And.intro @dop.eq_22<|And.intro @dop.eq_23<|And.intro @dop.eq_24<|And.intro @dop.eq_25<|And.intro @dop.eq_26<|And.intro @dop.eq_27<|And.intro @dop.eq_28<|And.intro @dop.eq_29<|And.intro @dop.eq_30<|And.intro @dop.eq_31<|And.intro @dop.eq_32<|And.intro @dop.eq_33<|And.intro @dop.eq_34<|And.intro @dop.eq_35<|And.intro @dop.eq_36<|And.intro @dop.eq_37<|And.intro @dop.eq_38<|And.intro @dA.eq_1<|And.intro @dA.eq_2<|And.intro @sets.eq_1<|And.intro @sets.eq_2<|And.intro @yfield1.eq_1<|And.intro @yfield1.eq_2<|And.intro @yfieldN.eq_1<|And.intro @yfieldN.eq_2<|And.intro @yfieldAddr.eq_1 @yfieldAddr.eq_2):=And.intro D3<|And.intro @mm_max<|And.intro @mm_min<|And.intro @cells_alloc_at<|And.intro @cells_alloc_ne<|And.intro @cells_set_at<|And.intro @cells_set_ne<|And.intro @dop.eq_1<|And.intro @dop.eq_2<|And.intro @dop.eq_3<|And.intro @dop.eq_4<|And.intro @dop.eq_5<|And.intro @dop.eq_6<|And.intro @dop.eq_7<|And.intro @dop.eq_8<|And.intro @dop.eq_9<|And.intro @dop.eq_10<|And.intro @dop.eq_11<|And.intro @dop.eq_12<|And.intro @dop.eq_13<|And.intro @dop.eq_14<|And.intro @dop.eq_15<|And.intro @dop.eq_16<|And.intro @dop.eq_17<|And.intro @dop.eq_18<|And.intro @dop.eq_19<|And.intro @dop.eq_20<|And.intro @dop.eq_21<|And.intro @dop.eq_22<|And.intro @dop.eq_23<|And.intro @dop.eq_24<|And.intro @dop.eq_25<|And.intro @dop.eq_26<|And.intro @dop.eq_27<|And.intro @dop.eq_28<|And.intro @dop.eq_29<|And.intro @dop.eq_30<|And.intro @dop.eq_31<|And.intro @dop.eq_32<|And.intro @dop.eq_33<|And.intro @dop.eq_34<|And.intro @dop.eq_35<|And.intro @dop.eq_36<|And.intro @dop.eq_37<|And.intro @dop.eq_38<|And.intro @dA.eq_1<|And.intro @dA.eq_2<|And.intro @sets.eq_1<|And.intro @sets.eq_2<|And.intro @yfield1.eq_1<|And.intro @yfield1.eq_2<|And.intro @yfieldN.eq_1<|And.intro @yfieldN.eq_2<|And.intro @yfieldAddr.eq_1 @yfieldAddr.eq_2
theorem D6 : type_of% (And.intro @dA.eq_1<|And.intro @dA.eq_2<|And.intro @List.map_cons.{0,0}<|And.intro @List.map_nil.{0,0}<|And.intro @List.nil_append.{0}<|And.intro @List.append_nil.{0} @List.cons_append.{0}):=And.intro @dA.eq_1<|And.intro @dA.eq_2<|And.intro @List.map_cons.{0,0}<|And.intro @List.map_nil.{0,0}<|And.intro @List.nil_append.{0}<|And.intro @List.append_nil.{0} @List.cons_append.{0}
end Go.Xe
/- Rules of reasoning over the executable reading of the model's code (part Z19): slices of one's own in loops over functions. Conditions: none; for every program. -/
namespace Go.Xe
open Go
def cutH (X : Heap) (n : Nat) : Heap:={ X with next:=n }
theorem cutH_grow {X : Heap} {n : Nat} (h : n≤X.next) : Grow (cutH X n) X:=⟨h,fun _ _=>rfl⟩
theorem Ow.base {A B X : Heap} {e : TypeId} {v : Value} {l : List Value} (h : Ow A X e v l) (hn : B.next≤A.next) : Ow B X e v l:=by
 rcases h with h|⟨i,h1,h2,h3,h4⟩
 ·exact .inl h
 ·exact .inr ⟨i,Nat.le_trans hn h1,h2,h3,h4⟩
theorem Ow.growS {A B X Y : Heap} {U : Nat→Prop} {e : TypeId} {v : Value} {l : List Value} (h : Ow A X e v l) (g : GrowS U X Y) (hU : ∀ i,A.next≤i→¬ U i) (hn : B.next≤A.next) : Ow B Y e v l:=by
 rcases h with h|⟨i,h1,h2,h3,h4⟩
 ·exact .inl h
 ·exact .inr ⟨i,Nat.le_trans hn h1,Nat.lt_of_lt_of_le h2 g.1,h3,by rw[g.cells h2 (hU i h1)];exact h4⟩
theorem Ow.slice {A X : Heap} {e : TypeId} {v : Value} {l : List Value} (h : Ow A X e v l) : ∃ p n c,v=.slice p n c:=by
 rcases h with⟨rfl,_⟩|⟨i,_,_,rfl,_⟩<;>exact⟨_,_,_,rfl⟩
end Go.Xe
/- Rules of reasoning over the executable reading of the model's code (part Z20): slices whose elements have several cells each. Conditions: none; for every program. -/
namespace Go.Xe
open Go
inductive Sw (w : Nat) (H : Heap) : Value→List (List Value)→Prop
 | nil : Sw w H (.slice none 0 0) []
 | spot (i o s : Nat) : Sw w H (.slice (some ⟨i,o,some s⟩) 0 0) []
 | at {i o n c : Nat} {a : Array Value} {el : TypeId} {rw : Bool} {l : List (List Value)} (hi : i<H.next) (hc : H.cellsAt i=some (a,el,rw)) (hn : n≤c) (hl : l.length=n) (hs : o+n*w≤a.size) (hv : ∀ k x,l[k]?=some x→a.extract (o+k*w) (o+k*w+w)=⟨x⟩) : Sw w H (.slice (some ⟨i,o,none⟩) n c) l
theorem Sw.grow {w : Nat} {A B : Heap} (g : Grow A B) {v : Value} {l : List (List Value)} (h : Sw w A v l) : Sw w B v l:=by
 cases h with
 | nil=>exact .nil
 | spot i o s=>exact .spot i o s
 | «at» hi hc hn hl hs hv=>exact .at (Nat.lt_of_lt_of_le hi g.1) ((g.cells hi).trans hc) hn hl hs hv
theorem Sw.len {w : Nat} {H : Heap} {v : Value} {l : List (List Value)} (h : Sw w H v l) : ylen 0 H v=some (.int .i64 l.length):=by
 cases h with
 | nil=>rfl
 | spot=>rfl
 | «at» hi hc hn hl hs hv=>simp only[ylen,hl]
theorem Sw.get {w : Nat} {H : Heap} {v : Value} {l : List (List Value)} (h : Sw w H v l) (hw : 0<w) {n : Int} {k : Nat} {x : List Value} (hx : l[k]?=some x) (hn : n=(k : Int)) {kd : IntKind} : ∃ p,yindexAddr none w v (.int kd n)=some p∧∀ H',Grow H H'→yloadN w H' p=some (.agg ⟨x⟩):=by
 have hk : k<l.length:=(List.getElem?_eq_some_iff.1 hx).1
 cases h with
 | nil=>cases hx
 | spot=>cases hx
 | «at» hi hc hn' hl hs hv=>
  rename_i i o n0 c a el rw
  subst hn
  refine⟨.pointer (some ⟨i,o+k*w,none⟩),?_,fun H' g=>?_⟩
  ·simp only[yindexAddr]
   rw[if_pos ⟨by omega,by omega⟩]
   simp
  ·simp only[yloadN,(g.cells hi).trans hc]
   have h1 : k*w+w≤n0*w:=by
    have : (k+1)*w≤n0*w:=Nat.mul_le_mul_right w (by omega)
    rw[Nat.succ_mul] at this;exact this
   rw[if_pos ⟨by omega,by omega⟩,hv k x hx]
theorem Sw.one {w : Nat} {H : Heap} {i : Nat} {c : List Value} {e : TypeId} (h : Bx H i c e) (hc : c.length=w) : Sw w H (.slice (some ⟨i,0,none⟩) 1 1) [c]:=by
 refine .at h.1 h.2 (Nat.le_refl _) rfl (by show 0+1*w≤c.length;omega) ?_
 intro k x hx
 cases k with
 | zero=>
  simp only[List.getElem?_cons_zero,Option.some.injEq] at hx
  subst hx
  subst hc
  apply Array.ext'
  simp
 | succ k=>simp at hx
end Go.Xe
