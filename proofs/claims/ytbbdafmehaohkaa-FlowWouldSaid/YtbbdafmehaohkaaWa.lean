/- Rules of reasoning over the executable reading of the model's code (part Z22): slices of slices. Conditions: none; for every program. -/
import Derived.Test.YtbbdafmehaohkaaZu
import Derived.Test.YtbbdafmehaohkaaZq
namespace Go.Xe
open Go
def blkN : Value→Option Nat
 | .slice (some ⟨i,_,none⟩) _ _=>some i
 | _=>none
def SepN (s x : Value) : Prop:=∀ i,blkN x=some i→blk s≠some i
theorem Sl.apart {A B : Heap} {s x : Value} {l : List Value} (h : Apart A B s) (hs : SepN s x) (k : Sl A x l) : Sl B x l:=by
 cases k with
 | nil=>exact .nil
 | spot i o s=>exact .spot i o s
 | «at» hi hc hn hl hss hv=>
  rename_i i o n c a el rw
  refine .at (el:=el) (rw:=rw) (Nat.lt_of_lt_of_le hi h.1) ?_ hn hl hss hv
  have:=h.2 i hi (fun o n c e=>by subst e;exact hs i rfl rfl)
  unfold Heap.cellsAt at hc ⊢
  rw[this];exact hc
theorem Sw.apart {w : Nat} {A B : Heap} {s x : Value} {l : List (List Value)} (h : Apart A B s) (hs : SepN s x) (k : Sw w A x l) : Sw w B x l:=by
 cases k with
 | nil=>exact .nil
 | spot i o s=>exact .spot i o s
 | «at» hi hc hn hl hss hv=>
  rename_i i o n c a el rw
  refine .at (el:=el) (rw:=rw) (Nat.lt_of_lt_of_le hi h.1) ?_ hn hl hss hv
  have:=h.2 i hi (fun o n c e=>by subst e;exact hs i rfl rfl)
  unfold Heap.cellsAt at hc ⊢
  rw[this];exact hc
structure RP {α : Type} (R : Heap→Value→α→Prop) : Prop where
 grow : ∀ {A B x r},Grow A B→R A x r→R B x r
 apart : ∀ {A B s x r},Apart A B s→SepN s x→R A x r→R B x r
 lt : ∀ {A x r i},R A x r→blkN x=some i→i<A.next
 loc : ∀ {A B x r},R A x r→A.next≤B.next→(∀ i,blkN x=some i→B.get i=A.get i)→R B x r
 sl : ∀ {A x r},R A x r→∃ p n c,x=.slice p n c
theorem Sl.ltN {H : Heap} {x : Value} {l : List Value} (h : Sl H x l) {i : Nat} (e : blkN x=some i) : i<H.next:=by
 cases h with
 | nil=>simp[blkN] at e
 | spot=>simp[blkN] at e
 | «at» hi=>simp only[blkN,Option.some.injEq] at e;omega
theorem Sw.ltN {w : Nat} {H : Heap} {x : Value} {l : List (List Value)} (h : Sw w H x l) {i : Nat} (e : blkN x=some i) : i<H.next:=by
 cases h with
 | nil=>simp[blkN] at e
 | spot=>simp[blkN] at e
 | «at» hi=>simp only[blkN,Option.some.injEq] at e;omega
theorem Sl.loc {A B : Heap} {x : Value} {l : List Value} (k : Sl A x l) (hn : A.next≤B.next) (h : ∀ i,blkN x=some i→B.get i=A.get i) : Sl B x l:=by
 cases k with
 | nil=>exact .nil
 | spot i o s=>exact .spot i o s
 | «at» hi hc hn' hl hss hv=>
  rename_i i o n c a el rw
  refine .at (el:=el) (rw:=rw) (Nat.lt_of_lt_of_le hi hn) ?_ hn' hl hss hv
  have:=h i rfl
  unfold Heap.cellsAt at hc ⊢
  rw[this];exact hc
theorem Sw.loc {w : Nat} {A B : Heap} {x : Value} {l : List (List Value)} (k : Sw w A x l) (hn : A.next≤B.next) (h : ∀ i,blkN x=some i→B.get i=A.get i) : Sw w B x l:=by
 cases k with
 | nil=>exact .nil
 | spot i o s=>exact .spot i o s
 | «at» hi hc hn' hl hss hv=>
  rename_i i o n c a el rw
  refine .at (el:=el) (rw:=rw) (Nat.lt_of_lt_of_le hi hn) ?_ hn' hl hss hv
  have:=h i rfl
  unfold Heap.cellsAt at hc ⊢
  rw[this];exact hc
theorem Sl.isS {H : Heap} {x : Value} {l : List Value} (h : Sl H x l) : ∃ p n c,x=.slice p n c:=by cases h<;>exact⟨_,_,_,rfl⟩
theorem Sw.isS {w : Nat} {H : Heap} {x : Value} {l : List (List Value)} (h : Sw w H x l) : ∃ p n c,x=.slice p n c:=by cases h<;>exact⟨_,_,_,rfl⟩
theorem RP.ofSl {α : Type} (f : α→List Value) : RP (fun H x (r : α)=>Sl H x (f r)) where
 grow g h:=h.grow g
 apart h s k:=k.apart h s
 lt h e:=h.ltN e
 loc h k1 k2:=h.loc k1 k2
 sl h:=h.isS
theorem RP.ofSw {α : Type} (w : Nat) (f : α→List (List Value)) : RP (fun H x (r : α)=>Sw w H x (f r)) where
 grow g h:=h.grow g
 apart h s k:=k.apart h s
 lt h e:=h.ltN e
 loc h k1 k2:=h.loc k1 k2
 sl h:=h.isS
def From {α : Type} (R : Heap→Value→α→Prop) (b : Nat) (H : Heap) (x : Value) (r : α) : Prop:=R H x r∧∀ i,blkN x=some i→b≤i
theorem RP.from {α : Type} {R : Heap→Value→α→Prop} (hR : RP R) (b : Nat) : RP (From R b) where
 grow g h:=⟨hR.grow g h.1,h.2⟩
 apart h s k:=⟨hR.apart h s k.1,k.2⟩
 lt h e:=hR.lt h.1 e
 loc h k1 k2:=⟨hR.loc h.1 k1 k2,h.2⟩
 sl h:=hR.sl h.1
def Nest {α : Type} (R : Heap→Value→α→Prop) (H : Heap) (v : Value) (L : List α) : Prop:=∃ vs : List Value,Sl H v vs∧vs.length=L.length∧∀ (k : Nat) (x : Value) (r : α),vs[k]?=some x→L[k]?=some r→R H x r
theorem Nest.grow {α : Type} {R : Heap→Value→α→Prop} (hR : RP R) {A B : Heap} (g : Grow A B) {v : Value} {L : List α} (h : Nest R A v L) : Nest R B v L:=by
 obtain⟨vs,h1,h2,h3⟩:=h
 exact⟨vs,h1.grow g,h2,fun k x r hx hr=>hR.grow g (h3 k x r hx hr)⟩
theorem Nest.len {α : Type} {R : Heap→Value→α→Prop} {H : Heap} {v : Value} {L : List α} (h : Nest R H v L) (X : Heap) : ylen 0 X v=some (.int .i64 L.length):=by
 obtain⟨vs,h1,h2,h3⟩:=h
 have:=h1.len
 rw[h2] at this
 cases h1<;>exact this
theorem Nest.isS {α : Type} {R : Heap→Value→α→Prop} {H : Heap} {v : Value} {L : List α} (h : Nest R H v L) : ∃ p n c,v=.slice p n c:=by
 obtain⟨vs,h1,_,_⟩:=h
 exact h1.isS
theorem Nest.at {α : Type} {R : Heap→Value→α→Prop} (hR : RP R) {H : Heap} {v : Value} {L : List α} (h : Nest R H v L) {k : Nat} (hk : k<L.length) :
  ∃ p x,(∀ kd,yindexAddr none 1 v (.int kd k)=some p)∧∀ H',Grow H H'→yload1 H' p=some x∧R H' x L[k]:=by
 obtain⟨vs,h1,h2,h3⟩:=h
 have e : vs[k]?=some vs[k]:=by simp[h2,hk]
 have hx:=h3 k _ L[k] e (by simp[hk])
 have:=h1.get e rfl (kd:=.i64)
 obtain⟨p,q1,q2⟩:=this
 refine⟨p,vs[k],fun kd=>?_,fun H' g=>⟨q2 H' g,hR.grow g hx⟩⟩
 cases h1 with
 | nil=>simp at e
 | spot=>simp at e
 | «at»=>simpa only[yindexAddr] using q1
def OwN {α : Type} (R : Heap→Value→α→Prop) (H0 H : Heap) (e : TypeId) (s : Value) (L : List α) : Prop:=∃ vs : List Value,Ow H0 H e s vs∧vs.length=L.length∧∀ (k : Nat) (x : Value) (r : α),vs[k]?=some x→L[k]?=some r→R H x r∧SepN s x
theorem OwN.nil {α : Type} {R : Heap→Value→α→Prop} {H0 H : Heap} {e : TypeId} : OwN R H0 H e (.slice none 0 0) []:=⟨[],.nil,rfl,fun k x r h=>by simp at h⟩
theorem OwN.nest {α : Type} {R : Heap→Value→α→Prop} {H0 H : Heap} {e : TypeId} {s : Value} {L : List α} (h : OwN R H0 H e s L) : Nest R H s L:=by
 obtain⟨vs,h1,h2,h3⟩:=h
 exact⟨vs,h1.sl,h2,fun k x r hx hr=>(h3 k x r hx hr).1⟩
theorem OwN.keep {α : Type} {R : Heap→Value→α→Prop} (hR : RP R) {H0 H H' : Heap} {e : TypeId} {s : Value} {L : List α} (h : OwN R H0 H e s L) (g : Grow H H') : OwN R H0 H' e s L:=by
 obtain⟨vs,h1,h2,h3⟩:=h
 exact⟨vs,h1.keep g,h2,fun k x r hx hr=>⟨hR.grow g (h3 k x r hx hr).1,(h3 k x r hx hr).2⟩⟩
theorem OwN.base {α : Type} {R : Heap→Value→α→Prop} {A B H : Heap} {e : TypeId} {s : Value} {L : List α} (h : OwN R A H e s L) (hn : B.next≤A.next) : OwN R B H e s L:=by
 obtain⟨vs,h1,h2,h3⟩:=h
 refine⟨vs,?_,h2,h3⟩
 rcases h1 with h|⟨i,h1,h2,h3,h4⟩
 ·exact .inl h
 ·exact .inr ⟨i,by omega,h2,h3,h4⟩
theorem OwN.loc {α : Type} {R : Heap→Value→α→Prop} (hR : RP R) {H0 A B : Heap} {e : TypeId} {s : Value} {L : List α} (h : OwN (From R H0.next) H0 A e s L) (hn : A.next≤B.next) (k : ∀ i,H0.next≤i→B.get i=A.get i) : OwN (From R H0.next) H0 B e s L:=by
 obtain⟨vs,h1,h2,h3⟩:=h
 refine⟨vs,?_,h2,fun j x r hx hr=>⟨⟨hR.loc (h3 j x r hx hr).1.1 hn (fun i hi=>k i ((h3 j x r hx hr).1.2 i hi)),(h3 j x r hx hr).1.2⟩,(h3 j x r hx hr).2⟩⟩
 rcases h1 with h|⟨i,h1,h2,h3,h4⟩
 ·exact .inl h
 ·refine .inr ⟨i,h1,Nat.lt_of_lt_of_le h2 hn,h3,?_⟩
  unfold Heap.cellsAt at h4 ⊢
  rw[k i h1];exact h4
theorem Nest.weak {α : Type} {R S : Heap→Value→α→Prop} {H : Heap} {v : Value} {L : List α} (h : Nest R H v L) (k : ∀ x r,R H x r→S H x r) : Nest S H v L:=by
 obtain⟨vs,h1,h2,h3⟩:=h
 exact⟨vs,h1,h2,fun j x r hx hr=>k x r (h3 j x r hx hr)⟩
theorem OwW.loc {w : Nat} {H0 A B : Heap} {e : TypeId} {v : Value} {l : List (List Value)} (h : OwW w H0 A e v l) (hn : A.next≤B.next) (k : ∀ i,H0.next≤i→B.get i=A.get i) : OwW w H0 B e v l:=by
 rcases h with h|⟨i,h1,h2,h3,h4⟩
 ·exact .inl h
 ·refine .inr ⟨i,h1,Nat.lt_of_lt_of_le h2 hn,h3,?_⟩
  unfold Heap.cellsAt at h4 ⊢
  rw[k i h1];exact h4
theorem Ow.loc {H0 A B : Heap} {e : TypeId} {v : Value} {l : List Value} (h : Ow H0 A e v l) (hn : A.next≤B.next) (k : ∀ i,H0.next≤i→B.get i=A.get i) : Ow H0 B e v l:=by
 rcases h with h|⟨i,h1,h2,h3,h4⟩
 ·exact .inl h
 ·refine .inr ⟨i,h1,Nat.lt_of_lt_of_le h2 hn,h3,?_⟩
  unfold Heap.cellsAt at h4 ⊢
  rw[k i h1];exact h4
theorem OwW.from {w : Nat} {H0 H : Heap} {e : TypeId} {v : Value} {l : List (List Value)} (h : OwW w H0 H e v l) : ∀ i,blkN v=some i→H0.next≤i:=by
 intro i hi
 rcases h with⟨rfl,_⟩|⟨j,h1,_,rfl,_⟩
 ·simp[blkN] at hi
 ·simp only[blkN,Option.some.injEq] at hi;omega
theorem Ow.from {H0 H : Heap} {e : TypeId} {v : Value} {l : List Value} (h : Ow H0 H e v l) : ∀ i,blkN v=some i→H0.next≤i:=by
 intro i hi
 rcases h with⟨rfl,_⟩|⟨j,h1,_,rfl,_⟩
 ·simp[blkN] at hi
 ·simp only[blkN,Option.some.injEq] at hi;omega
theorem OwN.sepNew {α : Type} {R : Heap→Value→α→Prop} {H0 H : Heap} {e : TypeId} {s x : Value} {L : List α} {b : Nat} (h : OwN R H0 H e s L) (hb : H.next≤b) (hx : ∀ i,blkN x=some i→b≤i) : SepN s x:=by
 obtain⟨vs,h1,_,_⟩:=h
 intro i hi hs
 have k1:=hx i hi
 have k2:=h1.lt hs
 omega
theorem OwN.push {α : Type} {R : Heap→Value→α→Prop} (hR : RP R) {H0 H : Heap} {e : TypeId} {bytes : Nat} {s x : Value} {L : List α} {r : α} (g : Grow H0 H) (hs : OwN R H0 H e s L) (hx : R H x r) (hsx : SepN s x) (hb : (2*(L.length+1)+256)*bytes≤281474976710656) (h2 : L.length+1≤281474976710656) :
  ∃ w H',yappend e 1 bytes (H.alloc (.cells ⟨[x]⟩ e true)) s (.slice (some ⟨H.next,0,none⟩) 1 1)=some (w,H')∧OwN R H0 H' e w (L++[r])∧Grow H0 H'∧Apart H H' s∧blk w=some (H.next+1)∧inBound H'.next 3 w=true∧H.next+1≤H'.next∧H'.cellsAt H.next=some (⟨[x]⟩,e,true):=by
 obtain⟨vs,o,hl,hv⟩:=hs
 obtain⟨p,n,c,rfl⟩:=hR.sl hx
 have hok : [Value.slice p n c].all ok1=true:=by simp[ok1_slice]
 have hb' : (2*(vs.length+1)+256)*bytes≤281474976710656:=by rw[hl];exact hb
 obtain⟨w,H',k1,k2,k3,k4,k5,k6,k7,k8⟩:=o.push (bytes:=bytes) (r:=[Value.slice p n c]) g hok (by simp) hb' (by rw[hl];exact h2)
 refine⟨w,H',k1,⟨_,k2,by simp[hl],?_⟩,k3,k4,k5,k6,k7,k8⟩
 intro k y q hy hq
 rw[List.getElem?_append] at hy hq
 have key : ∀ {y q},R H y q→SepN s y→R H' y q∧SepN w y:=by
  intro y q h1 h2
  refine⟨hR.apart k4 h2 h1,fun i hi=>?_⟩
  have:=hR.lt h1 hi
  rw[k5]
  simp only[ne_eq,Option.some.injEq]
  omega
 split at hy
 ·rename_i hk
  rw[if_pos (by omega)] at hq
  obtain⟨h1,h2⟩:=hv k y q hy hq
  exact key h1 h2
 ·rename_i hk
  rw[if_neg (by omega)] at hq
  have e0 : k-vs.length=0:=by
   have:=(List.getElem?_eq_some_iff.1 hy).1
   simp at this;omega
  rw[e0] at hy
  rw[← hl,e0] at hq
  simp only[List.getElem?_cons_zero,Option.some.injEq] at hy hq
  subst hy;subst hq
  exact key hx hsx
def Keep (n : Nat) (H H' : Heap) : Prop:=H.next≤H'.next∧∀ j,j<n→H'.get j=H.get j
theorem Keep.grow {n : Nat} {B H H' : Heap} (k : Keep n H H') (g : Grow B H) (hn : B.next≤n) : Grow B H':=
 ⟨Nat.le_trans g.1 k.1,fun i hi=>by rw[k.2 i (by omega)];exact g.2 i hi⟩
theorem Keep.bx {n : Nat} {H H' : Heap} (k : Keep n H H') {i : Nat} {c : List Value} {e : TypeId} (h : Bx H i c e) (hi : i<n) : Bx H' i c e:=by
 refine⟨Nat.lt_of_lt_of_le h.1 k.1,?_⟩
 have:=h.2
 unfold Heap.cellsAt at this ⊢
 rw[k.2 i hi];exact this
theorem Keep.trans {n : Nat} {A B C : Heap} (h : Keep n A B) (k : Keep n B C) : Keep n A C:=⟨Nat.le_trans h.1 k.1,fun j hj=>(k.2 j hj).trans (h.2 j hj)⟩
theorem Grow.keepN {A B : Heap} (g : Grow A B) {n : Nat} (hn : n≤A.next) : Keep n A B:=⟨g.1,fun j hj=>g.2 j (by omega)⟩
theorem Apart.keepN {A B : Heap} {s : Value} (h : Apart A B s) {n : Nat} (hn : n≤A.next) (hs : ∀ i,blkN s=some i→n≤i) : Keep n A B:=by
 refine⟨h.1,fun j hj=>h.2 j (by omega) (fun o m c e=>?_)⟩
 subst e
 have:=hs j rfl
 omega
theorem OwN.from {α : Type} {R : Heap→Value→α→Prop} {H0 H : Heap} {e : TypeId} {s : Value} {L : List α} (h : OwN R H0 H e s L) : ∀ i,blkN s=some i→H0.next≤i:=by
 obtain⟨vs,h1,_,_⟩:=h
 exact h1.from
theorem OwN.pushB {α : Type} {R : Heap→Value→α→Prop} (hR : RP R) {H0 H : Heap} {e : TypeId} {bytes : Nat} {s x : Value} {L : List α} {r : α} (hn : H0.next≤H.next) (hs : OwN R H0 H e s L) (hx : R H x r) (hsx : SepN s x) (hb : (2*(L.length+1)+256)*bytes≤281474976710656) (h2 : L.length+1≤281474976710656) :
  ∃ w H',yappend e 1 bytes (H.alloc (.cells ⟨[x]⟩ e true)) s (.slice (some ⟨H.next,0,none⟩) 1 1)=some (w,H')∧OwN R H0 H' e w (L++[r])∧Keep H0.next H H'∧Apart H H' s∧H.next+1≤H'.next∧H'.cellsAt H.next=some (⟨[x]⟩,e,true):=by
 obtain⟨w,H',k1,k2,k3,k4,k5,k6,k7,k8⟩:=OwN.push hR (bytes:=bytes) (cutH_grow hn) (hs.base (B:=cutH H H0.next) (Nat.le_refl _)) hx hsx hb h2
 exact⟨w,H',k1,k2.base (Nat.le_refl _),k4.keepN hn hs.from,k4,k7,k8⟩
theorem OwW.pushB {w : Nat} {H0 H : Heap} {e : TypeId} {bytes : Nat} {s : Value} {l : List (List Value)} {x : List Value} (hw : 0<w) (hn : H0.next≤H.next) (hs : OwW w H0 H e s l) (hl : ∀ x∈l,x.length=w) (hx : x.length=w) (hok : x.all ok1=true) (hb : (2*(l.length+1)+256)*bytes≤281474976710656) (h2 : l.length+1≤281474976710656) :
  ∃ v H',yappend e w bytes (H.alloc (.cells ⟨x⟩ e true)) s (.slice (some ⟨H.next,0,none⟩) 1 1)=some (v,H')∧OwW w H0 H' e v (l++[x])∧Keep H0.next H H'∧Apart H H' s∧H.next+1≤H'.next∧H'.cellsAt H.next=some (⟨x⟩,e,true):=by
 obtain⟨v,H',k1,k2,k3,k4,k5,k6⟩:=OwW.push (bytes:=bytes) hw (cutH_grow hn) (hs.base (B:=cutH H H0.next) (Nat.le_refl _)) hl hx hok hb h2
 exact⟨v,H',k1,k2.base (Nat.le_refl _),k4.keepN hn hs.from,k4,k5,k6⟩
theorem Ow.pushB {H0 H : Heap} {e : TypeId} {bytes : Nat} {s : Value} {l r : List Value} (hn : H0.next≤H.next) (hs : Ow H0 H e s l) (hok : r.all ok1=true) (hr : r≠[]) (hb : (2*(l.length+r.length)+256)*bytes≤281474976710656) (h2 : l.length+r.length≤281474976710656) :
  ∃ w H',yappend e 1 bytes (H.alloc (.cells ⟨r⟩ e true)) s (.slice (some ⟨H.next,0,none⟩) r.length r.length)=some (w,H')∧Ow H0 H' e w (l++r)∧Keep H0.next H H'∧Apart H H' s∧H.next+1≤H'.next∧H'.cellsAt H.next=some (⟨r⟩,e,true):=by
 obtain⟨w,H',k1,k2,k3,k4,k5,k6,k7,k8⟩:=Ow.push (bytes:=bytes) (cutH_grow hn) (hs.base (B:=cutH H H0.next) (Nat.le_refl _)) hok hr hb h2
 exact⟨w,H',k1,k2.base (Nat.le_refl _),k4.keepN hn hs.from,k4,k7,k8⟩
end Go.Xe
/- Sizes of groups from census to census: what is known of them. Conditions: none. -/
namespace Go.Xe.Flw
abbrev R2 : Type:=Int×Int
def few (r : R2) (n : Int) : Int:=n-(n*r.2+999)/1000
def mst (r : R2) (n : Int) : Int:=n-n*r.1/1000
def isRate (r : R2) : Prop:=0≤r.1∧r.1≤r.2∧r.2≤1000
theorem few_s {r : R2} (h : isRate r) (n : Int) : few r n≤few r (n+1)∧few r (n+1)≤few r n+1:=by
 obtain⟨a,b,c⟩:=h
 unfold few
 rw[Int.add_mul,Int.one_mul]
 omega
theorem mst_s {r : R2} (h : isRate r) (n : Int) : mst r n≤mst r (n+1)∧mst r (n+1)≤mst r n+1:=by
 obtain⟨a,b,c⟩:=h
 unfold mst
 rw[Int.add_mul,Int.one_mul]
 omega
theorem few_add {r : R2} (h : isRate r) (n : Int) : ∀ k : Nat,few r n≤few r (n+k)
 | 0=>by simp
 | k+1=>by
  have h1:=few_add h n k
  have h2:=(few_s h (n+k)).1
  have e : n+((k+1 : Nat) : Int)=n+k+1:=by omega
  rw[e];omega
theorem mst_add {r : R2} (h : isRate r) (n : Int) : ∀ k : Nat,mst r n≤mst r (n+k)
 | 0=>by simp
 | k+1=>by
  have h1:=mst_add h n k
  have h2:=(mst_s h (n+k)).1
  have e : n+((k+1 : Nat) : Int)=n+k+1:=by omega
  rw[e];omega
theorem few_mono {r : R2} (h : isRate r) {n m : Int} (k : n≤m) : few r n≤few r m:=by
 have:=few_add h n (m-n).toNat
 rw[show n+((m-n).toNat : Int)=m by omega] at this
 exact this
theorem mst_mono {r : R2} (h : isRate r) {n m : Int} (k : n≤m) : mst r n≤mst r m:=by
 have:=mst_add h n (m-n).toNat
 rw[show n+((m-n).toNat : Int)=m by omega] at this
 exact this
theorem few_mst {r : R2} (h : isRate r) {n : Int} (hn : 0≤n) : few r n≤mst r n:=by
 have:=Int.mul_le_mul_of_nonneg_left h.2.1 hn
 unfold few mst
 omega
theorem few_nn {r : R2} (h : isRate r) {n : Int} (hn : 0≤n) : 0≤few r n:=by
 have:=Int.mul_le_mul_of_nonneg_left h.2.2 hn
 unfold few
 omega
theorem mst_le {r : R2} (h : isRate r) {n : Int} (hn : 0≤n) : mst r n≤n:=by
 have:=Int.mul_nonneg hn h.1
 unfold mst
 omega
def nlo (r : R2) (need : Int) : Nat→Int→Int
 | 0,x=>x
 | k+1,x=>if mst r x<need then nlo r need k (x+1) else x
def nhi (r : R2) (allow : Int) : Nat→Int→Int
 | 0,x=>x
 | k+1,x=>if allow<few r x then nhi r allow k (x-1) else x
theorem nlo_ok {r : R2} {need : Int} : ∀ (k : Nat) (x : Int),need≤mst r (x+k)→x≤nlo r need k x∧nlo r need k x≤x+k∧need≤mst r (nlo r need k x)∧∀ z,x≤z→z<nlo r need k x→mst r z<need
 | 0,x,h=>by
  have e : x+((0 : Nat) : Int)=x:=by simp
  rw[e] at h
  exact⟨Int.le_refl _,by simp[nlo],h,fun z h1 h2=>by simp only[nlo] at h2;omega⟩
 | k+1,x,h=>by
  simp only[nlo]
  split
  ·rename_i hc
   obtain⟨h1,h2,h3,h4⟩:=nlo_ok k (x+1) (need:=need) (by rw[show x+1+(k : Int)=x+((k+1 : Nat) : Int) by omega];exact h)
   refine⟨by omega,by omega,h3,fun z h5 h6=>?_⟩
   by_cases hz : z=x
   ·subst hz;exact hc
   ·exact h4 z (by omega) h6
  ·exact⟨Int.le_refl _,by omega,by omega,fun z h1 h2=>by omega⟩
theorem nhi_ok {r : R2} {allow : Int} : ∀ (k : Nat) (x : Int),few r (x-k)≤allow→nhi r allow k x≤x∧x-k≤nhi r allow k x∧few r (nhi r allow k x)≤allow∧∀ z,z≤x→nhi r allow k x<z→allow<few r z
 | 0,x,h=>by
  have e : x-((0 : Nat) : Int)=x:=by simp
  rw[e] at h
  exact⟨Int.le_refl _,by simp[nhi],h,fun z h1 h2=>by simp only[nhi] at h2;omega⟩
 | k+1,x,h=>by
  simp only[nhi]
  split
  ·rename_i hc
   obtain⟨h1,h2,h3,h4⟩:=nhi_ok k (x-1) (allow:=allow) (by rw[show x-1-(k : Int)=x-((k+1 : Nat) : Int) by omega];exact h)
   refine⟨by omega,by omega,h3,fun z h5 h6=>?_⟩
   by_cases hz : z=x
   ·subst hz;exact hc
   ·exact h4 z (by omega) h6
  ·exact⟨Int.le_refl _,by omega,by omega,fun z h1 h2=>by omega⟩
def nar (q : R2) (r o f : R2) : R2:=(nlo q (f.1-o.2) (r.2-r.1).toNat r.1,nhi q (f.2-o.1) (r.2-r.1).toNat r.2)
structure Nar (q r o f s : R2) : Prop where
 some : s.1≤s.2
 lo : r.1≤s.1
 hi : s.2≤r.2
 least : f.1≤mst q s.2+o.2
 most : few q s.1+o.1≤f.2
 need : f.1-o.2≤mst q s.1
 allow : few q s.2≤f.2-o.1
 low : ∀ z,r.1≤z→z<s.1→mst q z<f.1-o.2
 high : ∀ z,z≤r.2→s.2<z→f.2-o.1<few q z
theorem nar_ok {q r o f : R2} (hq : isRate q) (hr : r.1≤r.2) (h0 : 0≤r.1) (ho : o.1≤o.2) (hf : f.1≤f.2) (h1 : f.1≤mst q r.2+o.2) (h2 : few q r.1+o.1≤f.2) : Nar q r o f (nar q r o f):=by
 have e1 : r.1+((r.2-r.1).toNat : Int)=r.2:=by omega
 have e2 : r.2-((r.2-r.1).toNat : Int)=r.1:=by omega
 obtain⟨a1,a2,a3,a4⟩:=nlo_ok (r:=q) (need:=f.1-o.2) (r.2-r.1).toNat r.1 (by rw[e1];omega)
 obtain⟨b1,b2,b3,b4⟩:=nhi_ok (r:=q) (allow:=f.2-o.1) (r.2-r.1).toNat r.2 (by rw[e2];omega)
 rw[e1] at a2
 rw[e2] at b2
 have s1 : (nar q r o f).1=nlo q (f.1-o.2) (r.2-r.1).toNat r.1:=rfl
 have s2 : (nar q r o f).2=nhi q (f.2-o.1) (r.2-r.1).toNat r.2:=rfl
 rw[← s1] at a1 a2 a3 a4
 rw[← s2] at b1 b2 b3 b4
 have hs : (nar q r o f).1≤(nar q r o f).2:=by
  rcases Int.lt_or_le (nar q r o f).2 (nar q r o f).1 with h|h
  ·have k1:=b4 ((nar q r o f).2+1) (by omega) (by omega)
   have k2:=a4 (nar q r o f).2 (by omega) h
   have k3:=(few_s hq (nar q r o f).2).2
   have k4:=few_mst hq (n:=(nar q r o f).2) (by omega)
   omega
  ·exact h
 refine⟨hs,a1,b1,?_,?_,a3,b3,a4,b4⟩
 ·by_cases h : (nar q r o f).2=r.2
  ·rw[h];exact h1
  ·have k1:=b4 ((nar q r o f).2+1) (by omega) (by omega)
   have k3:=(few_s hq (nar q r o f).2).2
   have k4:=few_mst hq (n:=(nar q r o f).2) (by omega)
   omega
 ·by_cases h : (nar q r o f).1=r.1
  ·rw[h];exact h2
  ·have k1:=a4 ((nar q r o f).1-1) (by omega) (by omega)
   have k3:=(mst_s hq ((nar q r o f).1-1)).2
   rw[show (nar q r o f).1-1+1=(nar q r o f).1 by omega] at k3
   have k4:=few_mst hq (n:=(nar q r o f).1) (by omega)
   omega
end Go.Xe.Flw
/- Rules of reasoning over the executable reading of the model's code (part Z27): the same rules, whose equations are found by themselves out of what is named hF, hA and zf at the place of use. Conditions: none; for every program. -/
namespace Go.Xe
open Go
abbrev tm (n : Nat) : FA:=.tmp (pth n)
section
variable {P : Program} [Gl P] [Orc P] {rnd : Option Nat} {Q : FQ} {K : List FFr} {m : List Nat}
variable {is : List FI} {t t1 : TT} {H H1 : Heap} {cs : List FC} {n : Nat} {pre Gs : List Heap} {R : TT→List Heap→Prop}
theorem V.lz (k : V P rnd Q K .normal t1 m H1) (h : Xe.din P is t H=some (t1,H1):=by simp +contextual (disch:=first|omega|simp only[Go.Xe.nx];omega) only[Go.Xe.D4,Int.reduceNegSucc,Int.reduceEq,Nat.reduceLeDiff,Nat.reduceSub,Nat.reduceAdd,Go.Xe.D5,hF,hA,↓reduceIte,Nat.reduceEqDiff,Nat.reduceLT,zf];with_reducible rfl) : V P rnd Q (.seq (.run is)::K) .normal t m H:=V.line' h k
theorem V.l0 (k : V P rnd Q K .normal t1 m H1) (h : Xe.din P is t H=some (t1,H1):=by simp +contextual (disch:=first|omega|simp only[Go.Xe.nx];omega) only[Go.Xe.D4,Int.reduceNegSucc,Int.reduceEq,Nat.reduceLeDiff,Nat.reduceSub,Nat.reduceAdd,Go.Xe.D5,hF,hA,↓reduceIte,Nat.reduceEqDiff,Nat.reduceLT];with_reducible rfl) : V P rnd Q (.seq (.run is)::K) .normal t m H:=V.line' h k
theorem VI.lz (k : V P rnd Q K .normal t1 m H1) (h : Xe.din P is t H=some (t1,H1):=by simp +contextual (disch:=first|omega|simp only[Go.Xe.nx];omega) only[Go.Xe.D4,Int.reduceNegSucc,Int.reduceEq,Nat.reduceLeDiff,Nat.reduceSub,Nat.reduceAdd,Go.Xe.D5,hF,hA,↓reduceIte,Nat.reduceEqDiff,Nat.reduceLT,zf];with_reducible rfl) : VI P rnd Q K m is t H:=VI.line' h k
theorem VI.l0 (k : V P rnd Q K .normal t1 m H1) (h : Xe.din P is t H=some (t1,H1):=by simp +contextual (disch:=first|omega|simp only[Go.Xe.nx];omega) only[Go.Xe.D4,Int.reduceNegSucc,Int.reduceEq,Nat.reduceLeDiff,Nat.reduceSub,Nat.reduceAdd,Go.Xe.D5,hF,hA,↓reduceIte,Nat.reduceEqDiff,Nat.reduceLT];with_reducible rfl) : VI P rnd Q K m is t H:=VI.line' h k
theorem VI.sz (n : Nat) (k : VI P rnd Q K m (is.drop n) t1 H1) (h : Xe.din P (is.take n) t H=some (t1,H1):=by simp +contextual (disch:=first|omega|simp only[Go.Xe.nx];omega) only[Go.Xe.D4,Int.reduceNegSucc,Int.reduceEq,Nat.reduceLeDiff,Nat.reduceSub,Nat.reduceAdd,Go.Xe.D5,hF,hA,↓reduceIte,Nat.reduceEqDiff,Nat.reduceLT,zf];with_reducible rfl) : VI P rnd Q K m is t H:=VI.steps' n h k
theorem VI.s0 (n : Nat) (k : VI P rnd Q K m (is.drop n) t1 H1) (h : Xe.din P (is.take n) t H=some (t1,H1):=by simp +contextual (disch:=first|omega|simp only[Go.Xe.nx];omega) only[Go.Xe.D4,Int.reduceNegSucc,Int.reduceEq,Nat.reduceLeDiff,Nat.reduceSub,Nat.reduceAdd,Go.Xe.D5,hF,hA,↓reduceIte,Nat.reduceEqDiff,Nat.reduceLT];with_reducible rfl) : VI P rnd Q K m is t H:=VI.steps' n h k
theorem V.dz (h1 : monoG (Gs++[H1])) (h2 : dcAll P t1 (Gs++[H1]) cs) (h3 : (Gs++[H1])[n]?=some H1) (k : V P rnd Q K .normal t1 m H1) (h : dinA P is t H []=some (t1,Gs,H1):=by simp +contextual (disch:=first|omega|simp only[Go.Xe.nx];omega) only[Go.Xe.D4,Int.reduceNegSucc,Int.reduceEq,Nat.reduceLeDiff,Nat.reduceSub,Nat.reduceAdd,Go.Xe.D5,hF,hA,↓reduceIte,Nat.reduceEqDiff,Nat.reduceLT,zf];with_reducible rfl) : V P rnd Q (.seq (.draw n is cs)::K) .normal t m H:=V.lineD' h h1 h2 h3 k
theorem V.d0 (h1 : monoG (Gs++[H1])) (h2 : dcAll P t1 (Gs++[H1]) cs) (h3 : (Gs++[H1])[n]?=some H1) (k : V P rnd Q K .normal t1 m H1) (h : dinA P is t H []=some (t1,Gs,H1):=by simp +contextual (disch:=first|omega|simp only[Go.Xe.nx];omega) only[Go.Xe.D4,Int.reduceNegSucc,Int.reduceEq,Nat.reduceLeDiff,Nat.reduceSub,Nat.reduceAdd,Go.Xe.D5,hF,hA,↓reduceIte,Nat.reduceEqDiff,Nat.reduceLT];with_reducible rfl) : V P rnd Q (.seq (.draw n is cs)::K) .normal t m H:=V.lineD' h h1 h2 h3 k
theorem VD.dz (h1 : monoG (Gs++[H1])) (h2 : dcAll P t1 (Gs++[H1]) cs) (h3 : (Gs++[H1])[n]?=some H1) (k : V P rnd Q K .normal t1 m H1) (h : dinA P is t H pre=some (t1,Gs,H1):=by simp +contextual (disch:=first|omega|simp only[Go.Xe.nx];omega) only[Go.Xe.D4,Int.reduceNegSucc,Int.reduceEq,Nat.reduceLeDiff,Nat.reduceSub,Nat.reduceAdd,Go.Xe.D5,hF,hA,↓reduceIte,Nat.reduceEqDiff,Nat.reduceLT,zf];with_reducible rfl) : VD P is t H pre (DEnd P rnd Q K m n cs):=VD.lineD' h h1 h2 h3 k
theorem VD.d0 (h1 : monoG (Gs++[H1])) (h2 : dcAll P t1 (Gs++[H1]) cs) (h3 : (Gs++[H1])[n]?=some H1) (k : V P rnd Q K .normal t1 m H1) (h : dinA P is t H pre=some (t1,Gs,H1):=by simp +contextual (disch:=first|omega|simp only[Go.Xe.nx];omega) only[Go.Xe.D4,Int.reduceNegSucc,Int.reduceEq,Nat.reduceLeDiff,Nat.reduceSub,Nat.reduceAdd,Go.Xe.D5,hF,hA,↓reduceIte,Nat.reduceEqDiff,Nat.reduceLT];with_reducible rfl) : VD P is t H pre (DEnd P rnd Q K m n cs):=VD.lineD' h h1 h2 h3 k
end
section
variable {P : Program} [Gl P] [Orc P] {is : List FI} {t T : TT} {H H1 : Heap} {pre Gs : List Heap} {R : TT→List Heap→Prop}
theorem VD.nz (n : Nat) (k : VD P (is.drop n) T H1 Gs R) (h : dinA P (is.take n) t H pre=some (T,Gs,H1):=by simp +contextual (disch:=first|omega|simp only[Go.Xe.nx];omega) only[Go.Xe.D4,Int.reduceNegSucc,Int.reduceEq,Nat.reduceLeDiff,Nat.reduceSub,Nat.reduceAdd,Go.Xe.D5,hF,hA,↓reduceIte,Nat.reduceEqDiff,Nat.reduceLT,zf];with_reducible rfl) : VD P is t H pre R:=VD.dins n h k
theorem VD.n0 (n : Nat) (k : VD P (is.drop n) T H1 Gs R) (h : dinA P (is.take n) t H pre=some (T,Gs,H1):=by simp +contextual (disch:=first|omega|simp only[Go.Xe.nx];omega) only[Go.Xe.D4,Int.reduceNegSucc,Int.reduceEq,Nat.reduceLeDiff,Nat.reduceSub,Nat.reduceAdd,Go.Xe.D5,hF,hA,↓reduceIte,Nat.reduceEqDiff,Nat.reduceLT];with_reducible rfl) : VD P is t H pre R:=VD.dins n h k
end
section
variable {p q : Prop}
theorem zS (k : q) (h : q→p:=by intro h;(repeat first|apply Go.Xe.V.seq|apply Go.Xe.V.block|apply Go.Xe.V.scope|apply Go.Xe.V.skip|apply Go.Xe.V.close);exact h) : p:=h k
theorem zX (k : q) (h : q→p:=by intro h;(repeat first|apply Go.Xe.V.pass|apply Go.Xe.V.here|(apply Go.Xe.V.out;decide));exact h) : p:=h k
theorem zA (h : p:=by simp only[Go.Xe.D6,Go.Xe.D5,hF,hA,↓reduceIte,Nat.reduceEqDiff,Nat.reduceLT];try rfl) : p:=h
theorem zP (h : p:=by simp only[Go.Xe.D6,Go.Xe.D5,hF,hA,↓reduceIte,Nat.reduceEqDiff,Nat.reduceLT];rfl) : p:=h
theorem zG (h : p:=by simp only[Go.Xe.D5,hF,hA,↓reduceIte,Nat.reduceEqDiff,Nat.reduceLT];try rfl) : p:=h
theorem zI (h : p:=by simp only[Go.Xe.D6,Go.Xe.D5,hF,hA,↓reduceIte,Nat.reduceEqDiff,Nat.reduceLT,hc,and_self,and_true,true_and,not_false_eq_true];try rfl) : p:=h
theorem zF {N : Nat} {t : TT} (h : Full N t:=by intro;simp only[Go.Xe.full_st,hF]) : Full N t:=h
theorem zK {l : List (Nat×Value)} {t : TT} (h : Kn l t:=by simp only[Go.Xe.Kn,Go.Xe.D5,hF,hA,↓reduceIte,Nat.reduceEqDiff,Nat.reduceLT,and_self,and_true,true_and];try (repeat' constructor)) : Kn l t:=h
theorem zE {N : Nat} {t : TT} (h : Full N t:=by intro i;simp only[Go.Xe.full_st,Go.Xe.Full.mk]) : Full N t:=h
theorem zY {l : List (Nat×Value)} {t : TT} (h : Kn l t:=by simp only[Go.Xe.Kn,Go.Xe.gt_st,Go.Xe.full_st,Go.Xe.Full.mk,↓reduceIte,Nat.reduceEqDiff,Nat.reduceLT,decide_true,and_self]) : Kn l t:=h
theorem zW (h : p:=by (repeat first|assumption|exact Go.Xe.Grow.refl _|refine Go.Xe.Grow.alloc ?_ _|refine Go.Xe.Grow.set ?_ (by first|omega|simp only[Go.Xe.nx];omega) _)) : p:=h
theorem zB (h : p:=by (repeat first|assumption|exact Go.Xe.Bx.new _ _ _|exact Go.Xe.Bx.newAt (by first|omega|simp only[Go.Xe.nx];omega)|refine Go.Xe.Bx.put (by first|omega|simp only[Go.Xe.nx];omega) _ _|refine Go.Xe.Bx.alloc ?_ _|refine Go.Xe.Bx.set ?_ (by first|omega|simp only[Go.Xe.nx];omega) _)) : p:=h
theorem zM (h : p:=by simp only[Go.Xe.monoG,List.cons_append,List.nil_append,Go.Xe.Heap.next_set,Go.Xe.Heap.next_alloc,Nat.le_refl,true_and,and_true]<;>omega) : p:=h
theorem zR (h : p:=by
 intro _ q hq
 simp only[List.mem_cons,List.not_mem_nil,or_false] at hq
 (repeat (rcases hq with rfl|hq;exact⟨_,_,_,rfl,(by simp +contextual (disch:=first|omega|simp only[Go.Xe.nx];omega) only[Go.Xe.D4,Int.reduceNegSucc,Int.reduceEq,Nat.reduceLeDiff,Nat.reduceSub,Nat.reduceAdd,Go.Xe.D5,hF,hA,↓reduceIte,Nat.reduceEqDiff,Nat.reduceLT,zf];with_reducible rfl),fun p hp=>by cases hp;simp only[Go.Xe.D5,hF,hA,↓reduceIte,Nat.reduceEqDiff,Nat.reduceLT];first|exact Go.Xe.vEq_An|(simp[Go.Xe.vEq,Go.Xe.vEq0,Go.Xe.all2];done)|assumption⟩))
 (try (subst hq;exact⟨_,_,_,rfl,(by simp +contextual (disch:=first|omega|simp only[Go.Xe.nx];omega) only[Go.Xe.D4,Int.reduceNegSucc,Int.reduceEq,Nat.reduceLeDiff,Nat.reduceSub,Nat.reduceAdd,Go.Xe.D5,hF,hA,↓reduceIte,Nat.reduceEqDiff,Nat.reduceLT,zf];with_reducible rfl),fun p hp=>by cases hp;simp only[Go.Xe.D5,hF,hA,↓reduceIte,Nat.reduceEqDiff,Nat.reduceLT];first|exact Go.Xe.vEq_An|(simp[Go.Xe.vEq,Go.Xe.vEq0,Go.Xe.all2];done)|assumption⟩))) : p:=h
end
end Go.Xe
