/- Rules of reasoning over the executable reading of the model's code (part Z22): slices of slices. Conditions: none; for every program. -/
import Derived.Test.YtelfbgmhleneiaaZu
namespace Go.Xe
open Go
def blkN : Value→Option Nat
 | .slice (some ⟨i,_,none⟩) _ _=>some i
 | _=>none
def SepN (s x : Value) : Prop:=∀ i,blkN x=some i→blk s≠some i
theorem Sl.apart {A B : Heap} {s x : Value} {l : List Value} (h : Apart A B s) (hs : SepN s x) (k : Sl A x l) : Sl B x l:=by
 cases k with
 | nil=>exact .nil
 | spot i o s=>exact .spot i o s
 | «at» hi hc hn hl hss hv=>
  rename_i i o n c a el rw
  refine .at (el:=el) (rw:=rw) (Nat.lt_of_lt_of_le hi h.1) ?_ hn hl hss hv
  have:=h.2 i hi (fun o n c e=>by subst e;exact hs i rfl rfl)
  unfold Heap.cellsAt at hc ⊢
  rw[this];exact hc
theorem Sw.apart {w : Nat} {A B : Heap} {s x : Value} {l : List (List Value)} (h : Apart A B s) (hs : SepN s x) (k : Sw w A x l) : Sw w B x l:=by
 cases k with
 | nil=>exact .nil
 | spot i o s=>exact .spot i o s
 | «at» hi hc hn hl hss hv=>
  rename_i i o n c a el rw
  refine .at (el:=el) (rw:=rw) (Nat.lt_of_lt_of_le hi h.1) ?_ hn hl hss hv
  have:=h.2 i hi (fun o n c e=>by subst e;exact hs i rfl rfl)
  unfold Heap.cellsAt at hc ⊢
  rw[this];exact hc
structure RP {α : Type} (R : Heap→Value→α→Prop) : Prop where
 grow : ∀ {A B x r},Grow A B→R A x r→R B x r
 apart : ∀ {A B s x r},Apart A B s→SepN s x→R A x r→R B x r
 lt : ∀ {A x r i},R A x r→blkN x=some i→i<A.next
 loc : ∀ {A B x r},R A x r→A.next≤B.next→(∀ i,blkN x=some i→B.get i=A.get i)→R B x r
 sl : ∀ {A x r},R A x r→∃ p n c,x=.slice p n c
theorem Sl.isS {H : Heap} {x : Value} {l : List Value} (h : Sl H x l) : ∃ p n c,x=.slice p n c:=by cases h<;>exact⟨_,_,_,rfl⟩
theorem Sw.isS {w : Nat} {H : Heap} {x : Value} {l : List (List Value)} (h : Sw w H x l) : ∃ p n c,x=.slice p n c:=by cases h<;>exact⟨_,_,_,rfl⟩
def Nest {α : Type} (R : Heap→Value→α→Prop) (H : Heap) (v : Value) (L : List α) : Prop:=∃ vs : List Value,Sl H v vs∧vs.length=L.length∧∀ (k : Nat) (x : Value) (r : α),vs[k]?=some x→L[k]?=some r→R H x r
theorem Nest.grow {α : Type} {R : Heap→Value→α→Prop} (hR : RP R) {A B : Heap} (g : Grow A B) {v : Value} {L : List α} (h : Nest R A v L) : Nest R B v L:=by
 obtain⟨vs,h1,h2,h3⟩:=h
 exact⟨vs,h1.grow g,h2,fun k x r hx hr=>hR.grow g (h3 k x r hx hr)⟩
theorem Nest.len {α : Type} {R : Heap→Value→α→Prop} {H : Heap} {v : Value} {L : List α} (h : Nest R H v L) (X : Heap) : ylen 0 X v=some (.int .i64 L.length):=by
 obtain⟨vs,h1,h2,h3⟩:=h
 have:=h1.len
 rw[h2] at this
 cases h1<;>exact this
theorem Nest.isS {α : Type} {R : Heap→Value→α→Prop} {H : Heap} {v : Value} {L : List α} (h : Nest R H v L) : ∃ p n c,v=.slice p n c:=by
 obtain⟨vs,h1,_,_⟩:=h
 exact h1.isS
theorem Nest.at {α : Type} {R : Heap→Value→α→Prop} (hR : RP R) {H : Heap} {v : Value} {L : List α} (h : Nest R H v L) {k : Nat} (hk : k<L.length) :
  ∃ p x,(∀ kd,yindexAddr none 1 v (.int kd k)=some p)∧∀ H',Grow H H'→yload1 H' p=some x∧R H' x L[k]:=by
 obtain⟨vs,h1,h2,h3⟩:=h
 have e : vs[k]?=some vs[k]:=by simp[h2,hk]
 have hx:=h3 k _ L[k] e (by simp[hk])
 have:=h1.get e rfl (kd:=.i64)
 obtain⟨p,q1,q2⟩:=this
 refine⟨p,vs[k],fun kd=>?_,fun H' g=>⟨q2 H' g,hR.grow g hx⟩⟩
 cases h1 with
 | nil=>simp at e
 | spot=>simp at e
 | «at»=>simpa only[yindexAddr] using q1
def OwN {α : Type} (R : Heap→Value→α→Prop) (H0 H : Heap) (e : TypeId) (s : Value) (L : List α) : Prop:=∃ vs : List Value,Ow H0 H e s vs∧vs.length=L.length∧∀ (k : Nat) (x : Value) (r : α),vs[k]?=some x→L[k]?=some r→R H x r∧SepN s x
theorem OwN.nil {α : Type} {R : Heap→Value→α→Prop} {H0 H : Heap} {e : TypeId} : OwN R H0 H e (.slice none 0 0) []:=⟨[],.nil,rfl,fun k x r h=>by simp at h⟩
theorem OwN.keep {α : Type} {R : Heap→Value→α→Prop} (hR : RP R) {H0 H H' : Heap} {e : TypeId} {s : Value} {L : List α} (h : OwN R H0 H e s L) (g : Grow H H') : OwN R H0 H' e s L:=by
 obtain⟨vs,h1,h2,h3⟩:=h
 exact⟨vs,h1.keep g,h2,fun k x r hx hr=>⟨hR.grow g (h3 k x r hx hr).1,(h3 k x r hx hr).2⟩⟩
theorem OwN.base {α : Type} {R : Heap→Value→α→Prop} {A B H : Heap} {e : TypeId} {s : Value} {L : List α} (h : OwN R A H e s L) (hn : B.next≤A.next) : OwN R B H e s L:=by
 obtain⟨vs,h1,h2,h3⟩:=h
 refine⟨vs,?_,h2,h3⟩
 rcases h1 with h|⟨i,h1,h2,h3,h4⟩
 ·exact .inl h
 ·exact .inr ⟨i,by omega,h2,h3,h4⟩
theorem Nest.weak {α : Type} {R S : Heap→Value→α→Prop} {H : Heap} {v : Value} {L : List α} (h : Nest R H v L) (k : ∀ x r,R H x r→S H x r) : Nest S H v L:=by
 obtain⟨vs,h1,h2,h3⟩:=h
 exact⟨vs,h1,h2,fun j x r hx hr=>k x r (h3 j x r hx hr)⟩
theorem OwN.push {α : Type} {R : Heap→Value→α→Prop} (hR : RP R) {H0 H : Heap} {e : TypeId} {bytes : Nat} {s x : Value} {L : List α} {r : α} (g : Grow H0 H) (hs : OwN R H0 H e s L) (hx : R H x r) (hsx : SepN s x) (hb : (2*(L.length+1)+256)*bytes≤281474976710656) (h2 : L.length+1≤281474976710656) :
  ∃ w H',yappend e 1 bytes (H.alloc (.cells ⟨[x]⟩ e true)) s (.slice (some ⟨H.next,0,none⟩) 1 1)=some (w,H')∧OwN R H0 H' e w (L++[r])∧Grow H0 H'∧Apart H H' s∧blk w=some (H.next+1)∧inBound H'.next 3 w=true∧H.next+1≤H'.next∧H'.cellsAt H.next=some (⟨[x]⟩,e,true):=by
 obtain⟨vs,o,hl,hv⟩:=hs
 obtain⟨p,n,c,rfl⟩:=hR.sl hx
 have hok : [Value.slice p n c].all ok1=true:=by simp[ok1_slice]
 have hb' : (2*(vs.length+1)+256)*bytes≤281474976710656:=by rw[hl];exact hb
 obtain⟨w,H',k1,k2,k3,k4,k5,k6,k7,k8⟩:=o.push (bytes:=bytes) (r:=[Value.slice p n c]) g hok (by simp) hb' (by rw[hl];exact h2)
 refine⟨w,H',k1,⟨_,k2,by simp[hl],?_⟩,k3,k4,k5,k6,k7,k8⟩
 intro k y q hy hq
 rw[List.getElem?_append] at hy hq
 have key : ∀ {y q},R H y q→SepN s y→R H' y q∧SepN w y:=by
  intro y q h1 h2
  refine⟨hR.apart k4 h2 h1,fun i hi=>?_⟩
  have:=hR.lt h1 hi
  rw[k5]
  simp only[ne_eq,Option.some.injEq]
  omega
 split at hy
 ·rename_i hk
  rw[if_pos (by omega)] at hq
  obtain⟨h1,h2⟩:=hv k y q hy hq
  exact key h1 h2
 ·rename_i hk
  rw[if_neg (by omega)] at hq
  have e0 : k-vs.length=0:=by
   have:=(List.getElem?_eq_some_iff.1 hy).1
   simp at this;omega
  rw[e0] at hy
  rw[← hl,e0] at hq
  simp only[List.getElem?_cons_zero,Option.some.injEq] at hy hq
  subst hy;subst hq
  exact key hx hsx
def Keep (n : Nat) (H H' : Heap) : Prop:=H.next≤H'.next∧∀ j,j<n→H'.get j=H.get j
theorem Keep.grow {n : Nat} {B H H' : Heap} (k : Keep n H H') (g : Grow B H) (hn : B.next≤n) : Grow B H':=
 ⟨Nat.le_trans g.1 k.1,fun i hi=>by rw[k.2 i (by omega)];exact g.2 i hi⟩
theorem Keep.trans {n : Nat} {A B C : Heap} (h : Keep n A B) (k : Keep n B C) : Keep n A C:=⟨Nat.le_trans h.1 k.1,fun j hj=>(k.2 j hj).trans (h.2 j hj)⟩
end Go.Xe
/- Rules of reasoning over the executable reading of the model's code (part Z25): blocks of own memory by colors; slices of slices whose rows change. Conditions: none; for every program. -/
namespace Go.Xe
open Go
def Oc (n0 : Nat) (col : Nat→Nat) (c : Nat) (H : Heap) (e : TypeId) (v : Value) (n : Nat) (cs : List Value) : Prop:=(v=.slice none 0 0∧n=0∧cs=[])∨∃ i,n0≤i∧i<H.next∧col i=c∧v=.slice (some ⟨i,0,none⟩) n n∧H.cellsAt i=some (⟨cs⟩,e,true)
def St (n0 : Nat) (C : Nat→Prop) (col : Nat→Nat) (H : Heap) (col' : Nat→Nat) (H' : Heap) : Prop:=H.next≤H'.next∧(∀ i,i<H.next→col' i=col i)∧∀ i,i<H.next→i<n0∨¬ C (col i)→H'.get i=H.get i
def pnt (col : Nat→Nat) (i c : Nat) : Nat→Nat:=fun j=>if j=i then c else col j
section
variable {n0 : Nat} {C D : Nat→Prop} {col col' col'' : Nat→Nat} {A B H H' H'' : Heap} {c : Nat} {e : TypeId} {v : Value} {n : Nat} {cs : List Value}
theorem St.refl (n0 : Nat) (C : Nat→Prop) (col : Nat→Nat) (H : Heap) : St n0 C col H col H:=⟨Nat.le_refl _,fun _ _=>rfl,fun _ _ _=>rfl⟩
theorem St.trans (h : St n0 C col H col' H') (k : St n0 C col' H' col'' H'') : St n0 C col H col'' H'':=
 ⟨Nat.le_trans h.1 k.1,fun i hi=>(k.2.1 i (Nat.lt_of_lt_of_le hi h.1)).trans (h.2.1 i hi),fun i hi hc=>(k.2.2 i (Nat.lt_of_lt_of_le hi h.1) (hc.imp id (fun x y=>x (by rw[← h.2.1 i hi];exact y)))).trans (h.2.2 i hi hc)⟩
theorem St.mono (h : St n0 C col H col' H') (k : ∀ c,C c→D c) : St n0 D col H col' H':=⟨h.1,h.2.1,fun i hi hc=>h.2.2 i hi (hc.imp id (fun x y=>x (k _ y)))⟩
theorem St.grow (g : Grow H H') : St n0 C col H col H':=⟨g.1,fun _ _=>rfl,fun i hi _=>g.2 i hi⟩
theorem St.keep (h : St n0 C col H col' H') (hn : n0≤H.next) : Keep n0 H H':=⟨h.1,fun j hj=>h.2.2 j (by omega) (.inl hj)⟩
theorem Oc.put (h : Oc n0 col c H e v n cs) {i : Nat} (hi : i<n0) (o : AO) : Oc n0 col c (H.set i o) e v n cs:=by
 rcases h with h|⟨j,h1,h2,h3,h4,h5⟩
 ·exact .inl h
 ·exact .inr ⟨j,h1,h2,h3,h4,(cells_set_ne H o (by omega)).trans h5⟩
theorem Oc.nil : Oc n0 col c H e (.slice none 0 0) 0 []:=.inl ⟨rfl,rfl,rfl⟩
theorem Oc.st (h : Oc n0 col c H e v n cs) (k : St n0 C col H col' H') (hc : ¬ C c) : Oc n0 col' c H' e v n cs:=by
 rcases h with h|⟨j,h1,h2,h3,h4,h5⟩
 ·exact .inl h
 ·refine .inr ⟨j,h1,Nat.lt_of_lt_of_le h2 k.1,(k.2.1 j h2).trans h3,h4,?_⟩
  unfold Heap.cellsAt at h5 ⊢
  rw[k.2.2 j h2 (.inr (by rw[h3];exact hc))];exact h5
theorem Oc.grow (h : Oc n0 col c H e v n cs) (g : Grow H H') : Oc n0 col c H' e v n cs:=h.st (C:=fun _=>False) (.grow g) id
theorem Oc.growS {U : Nat→Prop} (h : Oc n0 col c H e v n cs) (g : GrowS U H H') (hU : ∀ i,n0≤i→¬ U i) : Oc n0 col c H' e v n cs:=by
 rcases h with h|⟨j,h1,h2,h3,h4,h5⟩
 ·exact .inl h
 ·exact .inr ⟨j,h1,Nat.lt_of_lt_of_le h2 g.1,h3,h4,by rw[g.cells h2 (hU j h1)];exact h5⟩
theorem Oc.slice (h : Oc n0 col c H e v n cs) : ∃ p m k,v=.slice p m k:=by
 rcases h with⟨rfl,_⟩|⟨j,_,_,_,rfl,_⟩
 ·exact⟨_,_,_,rfl⟩
 ·exact⟨_,_,_,rfl⟩
theorem Oc.len (h : Oc n0 col c H e v n cs) (X : Heap) : ylen 0 X v=some (.int .i64 n):=by
 rcases h with⟨rfl,rfl,_⟩|⟨j,_,_,_,rfl,_⟩<;>rfl
theorem Oc.w {w : Nat} {H0 : Heap} {l : List (List Value)} (h : Oc n0 col c H e v l.length l.flatten) (hn : H0.next≤n0) : OwW w H0 H e v l:=by
 rcases h with⟨h1,h2,_⟩|⟨j,h1,h2,h3,h4,h5⟩
 ·exact .inl ⟨h1,List.length_eq_zero_iff.1 h2⟩
 ·exact .inr ⟨j,by omega,h2,h4,h5⟩
theorem Oc.o {H0 : Heap} (h : Oc n0 col c H e v cs.length cs) (hn : H0.next≤n0) : Ow H0 H e v cs:=by
 rcases h with⟨h1,h2,h3⟩|⟨j,h1,h2,h3,h4,h5⟩
 ·exact .inl ⟨h1,h3⟩
 ·exact .inr ⟨j,by omega,h2,h4,h5⟩
theorem pnt_at (i c : Nat) : pnt col i c i=c:=by unfold pnt;rw[if_pos rfl]
theorem pnt_ne {i j c : Nat} (h : j≠i) : pnt col i c j=col j:=by unfold pnt;rw[if_neg h]
theorem Oc.push {w bytes : Nat} {x : List Value} (hw : 0<w) (hs : Oc n0 col c H e v n cs) (hn0 : n0≤H.next) (hcs : cs.length=n*w) (hx : x.length=w) (hok : x.all ok1=true) (hb : (2*(n+1)+256)*bytes≤281474976710656) (h2 : n+1≤281474976710656) :
  ∃ u H',yappend e w bytes (H.alloc (.cells ⟨x⟩ e true)) v (.slice (some ⟨H.next,0,none⟩) 1 1)=some (u,H')∧Oc n0 (pnt col (H.next+1) c) c H' e u (n+1) (cs++x)∧St n0 (·=c) col H (pnt col (H.next+1) c) H'∧Keep n0 H H'∧H.next+1≤H'.next∧H'.cellsAt H.next=some (⟨x⟩,e,true)∧∃ p,u=.slice (some ⟨p,0,none⟩) (n+1) (n+1)∧p=H.next+1:=by
 have hcell : (H.alloc (.cells ⟨x⟩ e true)).cellsAt H.next=some (⟨x⟩,e,true):=cells_alloc _ _ _ _
 have e48 : (2 : Nat) ^ 48=281474976710656:=by decide
 have hsrc : xsource (H.alloc (.cells ⟨x⟩ e true)) w 1 (some ⟨H.next,0,none⟩)=some ⟨x⟩:=by
  have hsw : Sw w (H.alloc (.cells ⟨x⟩ e true)) (.slice (some ⟨H.next,0,none⟩) 1 1) [x]:=Sw.one ⟨Nat.lt_succ_self _,hcell⟩ hx
  have:=(hsw.source (by omega) hw (by simpa using hx)).1
  simpa using this
 have hcond : ((⟨x⟩ : Array Value).toList.all fun y=>y.oneCell' && notTop y)=true:=hok
 rcases hs with⟨rfl,rfl,rfl⟩|⟨i,i1,i2,i3,rfl,i4⟩
 ·refine⟨.slice (some ⟨H.next+1,0,none⟩) 1 1,(H.alloc (.cells ⟨x⟩ e true)).alloc (.cells ⟨x⟩ e true),?_,?_,?_,?_,Nat.le_succ _,?_,H.next+1,rfl,rfl⟩
  ·simp only[yappend]
   rw[if_neg (by omega),hsrc]
   simp only[]
   rw[e48,if_pos ⟨hcond,by simp;omega,by simp⟩]
   simp
  ·refine .inr ⟨H.next+1,by omega,Nat.lt_succ_self _,pnt_at _ _,rfl,?_⟩
   rw[List.nil_append]
   exact cells_alloc _ _ _ _
  ·refine⟨by simp only[Heap.next_alloc];omega,fun j hj=>pnt_ne (by omega),fun j hj _=>?_⟩
   rw[Heap.get_alloc,if_neg (by simp only[Heap.next_alloc];omega),Heap.get_alloc,if_neg (by omega)]
  ·refine⟨by simp only[Heap.next_alloc];omega,fun j hj=>?_⟩
   rw[Heap.get_alloc,if_neg (by simp only[Heap.next_alloc];omega),Heap.get_alloc,if_neg (by omega)]
  ·rw[cells_alloc_ne _ _ (Nat.lt_succ_self _)]
   exact hcell
 ·have hi4 : (H.alloc (.cells ⟨x⟩ e true)).cellsAt i=some (⟨cs⟩,e,true):=(cells_alloc_ne _ _ i2).trans i4
  refine⟨.slice (some ⟨H.next+1,0,none⟩) (n+1) (n+1),((H.alloc (.cells ⟨x⟩ e true)).set i (lentO 0 (n*w) ⟨cs⟩ e (H.next+1))).alloc (.cells ⟨cs++x⟩ e true),?_,?_,?_,?_,by simp only[Heap.next_alloc,Heap.next_set];omega,?_,H.next+1,rfl,rfl⟩
  ·simp only[yappend]
   rw[if_neg (by omega),hsrc]
   simp only[]
   rw[e48,if_pos ⟨hcond,hb,h2⟩]
   simp only[hi4]
   have hsz : (⟨cs⟩ : Array Value).size=n*w:=hcs
   rw[if_pos ⟨trivial,by rw[hsz];omega,by rw[hsz];omega,by omega⟩,if_neg (by omega)]
   have hxx : (⟨cs⟩ : Array Value).extract 0 (0+n*w)++(⟨x⟩ : Array Value)=⟨cs++x⟩:=by
    apply Array.toList_inj.1
    rw[Nat.zero_add,← hcs]
    simp only[Array.toList_append,List.extract_toArray,List.extract_eq_take_drop,List.drop_zero,Nat.sub_zero,List.take_length]
   rw[hxx]
   simp
  ·refine .inr ⟨H.next+1,by omega,by simp only[Heap.next_alloc,Heap.next_set];omega,pnt_at _ _,rfl,?_⟩
   have:=cells_alloc ((H.alloc (.cells ⟨x⟩ e true)).set i (lentO 0 (n*w) ⟨cs⟩ e (H.next+1))) ⟨cs++x⟩ e true
   simpa only[Heap.next_set,Heap.next_alloc] using this
  ·refine⟨by simp only[Heap.next_alloc,Heap.next_set];omega,fun j hj=>pnt_ne (by omega),fun j hj hc=>?_⟩
   have hji : j≠i:=by
    rintro rfl
    rcases hc with hc|hc
    ·omega
    ·exact hc i3
   rw[Heap.get_alloc,if_neg (by simp only[Heap.next_set,Heap.next_alloc];omega),Heap.get_set,if_neg hji,Heap.get_alloc,if_neg (by omega)]
  ·refine⟨by simp only[Heap.next_alloc,Heap.next_set];omega,fun j hj=>?_⟩
   rw[Heap.get_alloc,if_neg (by simp only[Heap.next_set,Heap.next_alloc];omega),Heap.get_set,if_neg (by omega),Heap.get_alloc,if_neg (by omega)]
  ·rw[cells_alloc_ne _ _ (by simp only[Heap.next_set,Heap.next_alloc];omega),cells_set_ne _ _ (by omega)]
   exact hcell
def Rws (n0 : Nat) (col : Nat→Nat) (cr : Nat→Nat) (H : Heap) (e : TypeId) (vs : List Value) (L : List (Nat×List Value)) : Prop:=vs.length=L.length∧∀ k x r,vs[k]?=some x→L[k]?=some r→Oc n0 col (cr k) H e x r.1 r.2
variable {cr : Nat→Nat} {vs : List Value} {L : List (Nat×List Value)}
theorem Rws.st (h : Rws n0 col cr H e vs L) (k : St n0 C col H col' H') (hc : ∀ k,k<L.length→¬ C (cr k)) : Rws n0 col' cr H' e vs L:=
 ⟨h.1,fun j x r hx hr=>(h.2 j x r hx hr).st k (hc j (List.getElem?_eq_some_iff.1 hr).1)⟩
theorem Rws.grow (h : Rws n0 col cr H e vs L) (g : Grow H H') : Rws n0 col cr H' e vs L:=⟨h.1,fun j x r hx hr=>(h.2 j x r hx hr).grow g⟩
theorem Rws.growS {U : Nat→Prop} (h : Rws n0 col cr H e vs L) (g : GrowS U H H') (hU : ∀ i,n0≤i→¬ U i) : Rws n0 col cr H' e vs L:=⟨h.1,fun j x r hx hr=>(h.2 j x r hx hr).growS g hU⟩
theorem Rws.put (h : Rws n0 col cr H e vs L) {i : Nat} (hi : i<n0) (o : AO) : Rws n0 col cr (H.set i o) e vs L:=⟨h.1,fun j x r hx hr=>(h.2 j x r hx hr).put hi o⟩
theorem Rws.at (h : Rws n0 col cr H e vs L) {k : Nat} (hk : k<L.length) : ∃ x,vs[k]?=some x∧Oc n0 col (cr k) H e x L[k].1 L[k].2:=
 ⟨vs[k]'(by rw[h.1];exact hk),by simp[h.1,hk],h.2 k _ _ (by simp[h.1,hk]) (by simp[hk])⟩
theorem Rws.upd {k m : Nat} {u : Value} {cs' : List Value} (h : Rws n0 col cr H e vs L) (s : St n0 (·=cr k) col H col' H') (hi : ∀ j,j≠k→cr j≠cr k) (hu : Oc n0 col' (cr k) H' e u m cs') : Rws n0 col' cr H' e (vs.set k u) (L.set k (m,cs')):=by
 refine⟨by simp[h.1],fun j x r hx hr=>?_⟩
 by_cases hj : j=k
 ·subst hj
  have h1 : j<vs.length:=by
   have:=(List.getElem?_eq_some_iff.1 hx).1
   rwa [List.length_set] at this
  rw[List.getElem?_set_self h1] at hx
  rw[List.getElem?_set_self (by rw[← h.1];exact h1)] at hr
  rw[← Option.some.inj hx,← Option.some.inj hr]
  exact hu
 ·rw[List.getElem?_set_ne (Ne.symm hj)] at hx
  rw[List.getElem?_set_ne (Ne.symm hj)] at hr
  exact (h.2 j x r hx hr).st s (hi j hj)
theorem Rws.push {m : Nat} {u : Value} {cs' : List Value} (h : Rws n0 col cr H e vs L) (hu : Oc n0 col (cr L.length) H e u m cs') : Rws n0 col cr H e (vs++[u]) (L++[(m,cs')]):=by
 refine⟨by simp[h.1],fun j x r hx hr=>?_⟩
 by_cases hj : j<L.length
 ·rw[List.getElem?_append_left (by rw[h.1];exact hj)] at hx
  rw[List.getElem?_append_left hj] at hr
  exact h.2 j x r hx hr
 ·have hl : j=L.length:=by
   have:=(List.getElem?_eq_some_iff.1 hr).1
   simp at this;omega
  subst hl
  rw[List.getElem?_append_right (by rw[h.1];exact Nat.le_refl _),h.1,Nat.sub_self] at hx
  rw[List.getElem?_append_right (Nat.le_refl _),Nat.sub_self] at hr
  simp only[List.getElem?_cons_zero,Option.some.injEq] at hx hr
  subst hx;subst hr
  exact hu
end
def LocP (b : Nat) (X : Heap) (P : Heap→Prop) : Prop:=∀ Y,X.next≤Y.next→(∀ i,b≤i→i<X.next→Y.get i=X.get i)→P Y
theorem LocP.here {b : Nat} {X : Heap} {P : Heap→Prop} (h : LocP b X P) : P X:=h X (Nat.le_refl _) (fun _ _ _=>rfl)
end Go.Xe
