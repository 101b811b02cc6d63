/- Rules of reasoning over the executable reading of the model's code (part Z21): own slices whose elements have several cells each, and appends to them. Conditions: none; for every program. -/
import Derived.Test.YtgcdbdcnlhonfaaZm
import Derived.Test.YtgcdbdcnlhonfaaZt
namespace Go.Xe
open Go
theorem flat_at {w : Nat} : ∀ {l : List (List Value)} {k : Nat} {x : List Value},(∀ x∈l,x.length=w)→l[k]?=some x→(l.flatten.drop (k*w)).take w=x
 | [],k,x,_,h=>by simp at h
 | y::l,0,x,hl,h=>by
  simp only[List.getElem?_cons_zero,Option.some.injEq] at h
  subst h
  have:=hl y (by simp)
  subst this
  simp
 | y::l,k+1,x,hl,h=>by
  simp only[List.getElem?_cons_succ] at h
  have e:=hl y (by simp)
  rw[List.flatten_cons,Nat.succ_mul,List.drop_append,e,List.drop_eq_nil_of_le (by omega),List.nil_append,show k*w+w-w=k*w by omega]
  exact flat_at (fun z hz=>hl z (by simp[hz])) h
theorem flat_len {w : Nat} : ∀ {l : List (List Value)},(∀ x∈l,x.length=w)→l.flatten.length=l.length*w
 | [],_=>by simp
 | y::l,hl=>by
  rw[List.flatten_cons,List.length_append,hl y (by simp),flat_len (fun z hz=>hl z (by simp[hz])),List.length_cons,Nat.succ_mul]
  omega
theorem Sw.flat {w : Nat} {H : Heap} {i c : Nat} {l : List (List Value)} {el : TypeId} {rw : Bool} (hi : i<H.next) (hc : H.cellsAt i=some (⟨l.flatten⟩,el,rw)) (hl : ∀ x∈l,x.length=w) (hn : l.length≤c) : Sw w H (.slice (some ⟨i,0,none⟩) l.length c) l:=by
 refine .at hi hc hn rfl (by show 0+l.length*w≤l.flatten.length;rw[flat_len hl];omega) (fun k x hx=>?_)
 have:=flat_at hl hx
 apply Array.ext'
 simp only[Nat.zero_add,List.extract_toArray,List.extract_eq_take_drop]
 rw[show k*w+w-k*w=w by omega,this]
theorem SlN.sw {w : Nat} {H : Heap} {v : Value} {l : List (List Value)} (h : SlN H w v l) : Sw w H v l:=by
 cases h with
 | nil=>exact .nil
 | spot i o s=>exact .spot i o s
 | «at» hi hc hn hl hs hv=>
  rename_i i o n c a el rw
  refine .at hi hc hn hl hs (fun k x hx=>?_)
  obtain⟨h1,h2⟩:=hv k x hx
  have hk : k<n:=by have:=(List.getElem?_eq_some_iff.1 hx).1;omega
  have hle : k*w+w≤n*w:=by
   have:=Nat.mul_le_mul_right w (show k+1≤n by omega)
   rw[Nat.add_mul,Nat.one_mul] at this
   exact this
  apply Array.toList_inj.1
  apply List.ext_getElem?
  intro j
  have e1 : (a.extract (o+k*w) (o+k*w+w)).toList[j]?=if j<w then a[o+k*w+j]? else none:=by
   rw[Array.getElem?_toList,Array.getElem?_extract]
   by_cases hj : j<w
   ·rw[if_pos (by omega),if_pos hj]
   ·rw[if_neg (by omega),if_neg hj]
  rw[e1]
  by_cases hj : j<w
  ·rw[if_pos hj]
   have e2 : x[j]?=some x[j]:=by simp[h1,hj]
   rw[h2 j _ e2]
   exact e2.symm
  ·rw[if_neg hj]
   simp;omega
theorem Sw.at2 {w : Nat} {H : Heap} {v : Value} {l : List (List Value)} (h : Sw w H v l) (hw : 0<w) {k : Nat} {x : List Value} (hx : l[k]?=some x) :
  ∃ i o,(∀ kd,yindexAddr none w v (.int kd k)=some (.pointer (some ⟨i,o,none⟩)))∧∀ H',Grow H H'→yloadN w H' (.pointer (some ⟨i,o,none⟩))=some (.agg ⟨x⟩)∧∀ j y,x[j]?=some y→yload1 H' (.pointer (some ⟨i,o+j,none⟩))=some y:=by
 have hk : k<l.length:=(List.getElem?_eq_some_iff.1 hx).1
 cases h with
 | nil=>cases hx
 | spot=>cases hx
 | «at» hi hc hn' hl hs hv=>
  rename_i i o n0 c a el rw
  have h1 : k*w+w≤n0*w:=by
   have : (k+1)*w≤n0*w:=Nat.mul_le_mul_right w (by omega)
   rw[Nat.succ_mul] at this;exact this
  have h2:=hv k x hx
  refine⟨i,o+k*w,fun kd=>?_,fun H' g=>⟨?_,fun j y hj=>?_⟩⟩
  ·simp only[yindexAddr]
   rw[if_pos ⟨by omega,by omega⟩]
   simp
  ·simp only[yloadN,(g.cells hi).trans hc]
   rw[if_pos ⟨by omega,by omega⟩,h2]
  ·simp only[yload1,(g.cells hi).trans hc]
   have e : (⟨x⟩ : Array Value)[j]?=some y:=(arr_get x j).trans hj
   rw[← h2,Array.getElem?_extract] at e
   by_cases hjw : j<min (o+k*w+w) a.size-(o+k*w)
   ·rw[if_pos hjw] at e;exact e
   ·rw[if_neg hjw] at e;cases e
theorem Sw.source {w : Nat} {H : Heap} {n c : Nat} {a : Option Addr} {r : List (List Value)} (h : Sw w H (.slice a n c) r) (hn : n≠0) (hw : 0<w) (hr : ∀ x∈r,x.length=w) : xsource H w n a=some ⟨r.flatten⟩∧r.length=n:=by
 cases h with
 | nil=>exact absurd rfl hn
 | spot=>exact absurd rfl hn
 | «at» hi hc hnc hl hs hv=>
  rename_i i o a el rw
  refine⟨?_,hl⟩
  have hnw : n*w≠0:=by
   have:=Nat.mul_pos (Nat.pos_of_ne_zero hn) hw
   omega
  simp only[xsource,hc]
  rw[if_pos ⟨hs,hnw⟩]
  congr 1
  have hfl:=flat_len hr
  apply Array.ext_getElem?
  intro j
  rw[Array.getElem?_extract]
  by_cases hj : j<n*w
  ·rw[if_pos (by omega)]
   have hk : j/w<r.length:=by rw[hl];exact (Nat.div_lt_iff_lt_mul hw).2 hj
   have e:=hv (j/w) r[j/w] (by simp[hk])
   have e2:=flat_at hr (k:=j/w) (x:=r[j/w]) (by simp[hk])
   have hm:=Nat.mod_lt j hw
   have hd : j/w*w+j%w=j:=Nat.div_add_mod' j w
   have hle : j/w*w+w≤n*w:=by
    have:=Nat.mul_le_mul_right w (show j/w+1≤n by omega)
    rw[Nat.add_mul,Nat.one_mul] at this
    exact this
   have e3 : (r.flatten)[j]?=(r[j/w])[j%w]?:=by
    rw[← e2,List.getElem?_take,if_pos hm,List.getElem?_drop,hd]
   have e4 : (⟨r.flatten⟩ : Array Value)[j]?=(r.flatten)[j]?:=arr_get _ _
   rw[e4,e3]
   have e5 : (⟨r[j/w]⟩ : Array Value)[j%w]?=(r[j/w])[j%w]?:=arr_get _ _
   rw[← e5,← e,Array.getElem?_extract,if_pos (by omega)]
   rw[show o+j/w*w+j%w=o+j by omega]
  ·rw[if_neg (by omega)]
   symm
   apply Array.getElem?_eq_none
   show r.flatten.length≤j
   rw[hfl,hl];omega
def OwW (_ : Nat) (H0 H : Heap) (e : TypeId) (v : Value) (l : List (List Value)) : Prop:=(v=.slice none 0 0∧l=[])∨∃ i,H0.next≤i∧i<H.next∧v=.slice (some ⟨i,0,none⟩) l.length l.length∧H.cellsAt i=some (⟨l.flatten⟩,e,true)
theorem OwW.sw {w : Nat} {H0 H : Heap} {e : TypeId} {v : Value} {l : List (List Value)} (h : OwW w H0 H e v l) (hl : ∀ x∈l,x.length=w) : Sw w H v l:=by
 rcases h with⟨rfl,rfl⟩|⟨i,_,h2,rfl,h4⟩
 ·exact .nil
 ·exact .flat h2 h4 hl (Nat.le_refl _)
theorem OwW.keep {w : Nat} {H0 H H' : Heap} {e : TypeId} {v : Value} {l : List (List Value)} (h : OwW w H0 H e v l) (g : Grow H H') : OwW w H0 H' e v l:=by
 rcases h with⟨rfl,rfl⟩|⟨i,h1,h2,rfl,h4⟩
 ·exact .inl ⟨rfl,rfl⟩
 ·exact .inr ⟨i,h1,Nat.lt_of_lt_of_le h2 g.1,rfl,(g.cells h2).trans h4⟩
theorem OwW.nil {w : Nat} {H0 H : Heap} {e : TypeId} : OwW w H0 H e (.slice none 0 0) []:=.inl ⟨rfl,rfl⟩
theorem OwW.len {w : Nat} {H0 H : Heap} {e : TypeId} {v : Value} {l : List (List Value)} (h : OwW w H0 H e v l) (X : Heap) : ylen 0 X v=some (.int .i64 l.length):=by
 rcases h with⟨rfl,rfl⟩|⟨i,_,_,rfl,_⟩<;>rfl
theorem OwW.base {w : Nat} {A B H : Heap} {e : TypeId} {v : Value} {l : List (List Value)} (h : OwW w A H e v l) (hn : B.next≤A.next) : OwW w B H e v l:=by
 rcases h with h|⟨i,h1,h2,h3,h4⟩
 ·exact .inl h
 ·exact .inr ⟨i,by omega,h2,h3,h4⟩
theorem OwW.append {w : Nat} {H0 H : Heap} {e : TypeId} {bytes : Nat} {s x : Value} {l r : List (List Value)} (hw : 0<w) (g : Grow H0 H) (hs : OwW w H0 H e s l) (hl : ∀ x∈l,x.length=w) (hx : Sw w H x r) (hr : ∀ x∈r,x.length=w) (hok : r.flatten.all ok1=true) (hb : (2*(l.length+r.length)+256)*bytes≤281474976710656) (h2 : l.length+r.length≤281474976710656) :
  ∃ v H',yappend e w bytes H s x=some (v,H')∧OwW w H0 H' e v (l++r)∧Grow H0 H'∧Apart H H' s:=by
 have hsx : ∃ b m c,x=.slice b m c:=by cases hx<;>exact⟨_,_,_,rfl⟩
 obtain⟨b,m,c,rfl⟩:=hsx
 by_cases hm : m=0
 ·subst hm
  have hr : r=[]:=by
   cases hx with
   | nil=>rfl
   | spot=>rfl
   | «at» hi hc hnc hl hss hv=>exact List.length_eq_zero_iff.1 hl
  subst hr
  refine⟨s,H,?_,by simpa using hs,g,Nat.le_refl _,fun _ _ _=>rfl⟩
  rcases hs with⟨rfl,rfl⟩|⟨i,_,_,rfl,_⟩<;>simp[yappend]
 ·obtain⟨h3,h4⟩:=hx.source hm hw hr
  subst h4
  have e48 : (2 : Nat) ^ 48=281474976710656:=by decide
  have hcond : ((⟨r.flatten⟩ : Array Value).toList.all fun y=>y.oneCell' && notTop y)=true:=hok
  rcases hs with⟨rfl,rfl⟩|⟨i,i1,i2,rfl,i4⟩
  ·refine⟨.slice (some ⟨H.next,0,none⟩) r.length r.length,H.alloc (.cells ⟨r.flatten⟩ e true),?_,?_,g.alloc _,Nat.le_succ _,fun j hj _=>by rw[Heap.get_alloc,if_neg (by omega)]⟩
   ·simp only[yappend]
    rw[if_neg hm,h3]
    simp only[]
    rw[e48,if_pos ⟨hcond,by simpa using hb,by simpa using h2⟩]
    simp
   ·exact .inr ⟨H.next,g.1,Nat.lt_succ_self _,rfl,cells_alloc _ _ _ _⟩
  ·refine⟨.slice (some ⟨H.next,0,none⟩) (l.length+r.length) (l.length+r.length),(H.set i (lentO 0 (l.length*w) ⟨l.flatten⟩ e H.next)).alloc (.cells ⟨(l++r).flatten⟩ e true),?_,?_,(g.set i1 _).alloc _,Nat.le_succ _,fun j hj hne=>?_⟩
   ·have hfl:=flat_len hl
    simp only[yappend]
    rw[if_neg hm,h3]
    simp only[]
    rw[e48,if_pos ⟨hcond,hb,h2⟩]
    simp only[i4]
    have hsz : (⟨l.flatten⟩ : Array Value).size=l.length*w:=hfl
    rw[if_pos ⟨trivial,by rw[hsz];omega,by rw[hsz];omega,by omega⟩,if_neg (by omega)]
    have hxx : (⟨l.flatten⟩ : Array Value).extract 0 (0+l.length*w)++(⟨r.flatten⟩ : Array Value)=⟨(l++r).flatten⟩:=by
     apply Array.toList_inj.1
     rw[Nat.zero_add,← hfl]
     simp only[Array.toList_append,List.extract_toArray,List.extract_eq_take_drop,List.drop_zero,Nat.sub_zero,List.take_length,List.flatten_append]
    rw[hxx]
   ·have:=cells_alloc (H.set i (lentO 0 (l.length*w) ⟨l.flatten⟩ e H.next)) ⟨(l++r).flatten⟩ e true
    refine .inr ⟨H.next,g.1,Nat.lt_succ_self _,by simp,by simpa using this⟩
   ·have hji : j≠i:=fun h=>hne 0 _ _ (by rw[h])
    rw[Heap.get_alloc,if_neg (by simp;omega),Heap.get_set,if_neg hji]
theorem OwW.push {w : Nat} {H0 H : Heap} {e : TypeId} {bytes : Nat} {s : Value} {l : List (List Value)} {x : List Value} (hw : 0<w) (g : Grow H0 H) (hs : OwW w H0 H e s l) (hl : ∀ x∈l,x.length=w) (hx : x.length=w) (hok : x.all ok1=true) (hb : (2*(l.length+1)+256)*bytes≤281474976710656) (h2 : l.length+1≤281474976710656) :
  ∃ v H',yappend e w bytes (H.alloc (.cells ⟨x⟩ e true)) s (.slice (some ⟨H.next,0,none⟩) 1 1)=some (v,H')∧OwW w H0 H' e v (l++[x])∧Grow H0 H'∧Apart H H' s∧H.next+1≤H'.next∧H'.cellsAt H.next=some (⟨x⟩,e,true):=by
 have hcell : (H.alloc (.cells ⟨x⟩ e true)).cellsAt H.next=some (⟨x⟩,e,true):=cells_alloc _ _ _ _
 have g1 : Grow H (H.alloc (.cells ⟨x⟩ e true)):=(Grow.refl H).alloc _
 have hsw : Sw w (H.alloc (.cells ⟨x⟩ e true)) (.slice (some ⟨H.next,0,none⟩) 1 1) [x]:=Sw.one ⟨Nat.lt_succ_self _,hcell⟩ hx
 obtain⟨v,H',k1,k2,k3,k4⟩:=OwW.append (bytes:=bytes) hw (g.alloc _) (hs.keep g1) hl hsw (by simpa using hx) (by simpa using hok) (by simpa using hb) (by simpa using h2)
 have hn : H.next+1≤H'.next:=k4.1
 have hsep : ∀ j,j≤H.next→(∀ o n c,s≠.slice (some ⟨j,o,none⟩) n c)→H'.get j=(H.alloc (.cells ⟨x⟩ e true)).get j:=fun j hj hne=>k4.2 j (Nat.lt_succ_of_le hj) hne
 have hs0 : ∀ o n c,s≠.slice (some ⟨H.next,o,none⟩) n c:=by
  intro o n c h
  rcases hs with⟨rfl,_⟩|⟨i,_,h2,rfl,_⟩
  ·cases h
  ·cases h;omega
 refine⟨v,H',k1,k2,k3,⟨by omega,fun j hj hne=>?_⟩,hn,?_⟩
 ·rw[hsep j (by omega) hne]
  exact g1.2 j hj
 ·unfold Heap.cellsAt
  rw[hsep H.next (Nat.le_refl _) hs0]
  unfold Heap.cellsAt at hcell
  exact hcell
theorem OwW.lt {w : Nat} {H0 H : Heap} {e : TypeId} {v : Value} {l : List (List Value)} (h : OwW w H0 H e v l) {i : Nat} (hb : blk v=some i) : i<H.next:=by
 rcases h with⟨rfl,_⟩|⟨j,_,h2,rfl,_⟩
 ·simp[blk] at hb
 ·simp only[blk,Option.some.injEq] at hb;omega
end Go.Xe
/- Rules of reasoning over the executable reading of the model's code (part Z22): slices of slices. Conditions: none; for every program. -/
namespace Go.Xe
open Go
def blkN : Value→Option Nat
 | .slice (some ⟨i,_,none⟩) _ _=>some i
 | _=>none
def SepN (s x : Value) : Prop:=∀ i,blkN x=some i→blk s≠some i
theorem Sl.apart {A B : Heap} {s x : Value} {l : List Value} (h : Apart A B s) (hs : SepN s x) (k : Sl A x l) : Sl B x l:=by
 cases k with
 | nil=>exact .nil
 | spot i o s=>exact .spot i o s
 | «at» hi hc hn hl hss hv=>
  rename_i i o n c a el rw
  refine .at (el:=el) (rw:=rw) (Nat.lt_of_lt_of_le hi h.1) ?_ hn hl hss hv
  have:=h.2 i hi (fun o n c e=>by subst e;exact hs i rfl rfl)
  unfold Heap.cellsAt at hc ⊢
  rw[this];exact hc
theorem Sw.apart {w : Nat} {A B : Heap} {s x : Value} {l : List (List Value)} (h : Apart A B s) (hs : SepN s x) (k : Sw w A x l) : Sw w B x l:=by
 cases k with
 | nil=>exact .nil
 | spot i o s=>exact .spot i o s
 | «at» hi hc hn hl hss hv=>
  rename_i i o n c a el rw
  refine .at (el:=el) (rw:=rw) (Nat.lt_of_lt_of_le hi h.1) ?_ hn hl hss hv
  have:=h.2 i hi (fun o n c e=>by subst e;exact hs i rfl rfl)
  unfold Heap.cellsAt at hc ⊢
  rw[this];exact hc
structure RP {α : Type} (R : Heap→Value→α→Prop) : Prop where
 grow : ∀ {A B x r},Grow A B→R A x r→R B x r
 apart : ∀ {A B s x r},Apart A B s→SepN s x→R A x r→R B x r
 lt : ∀ {A x r i},R A x r→blkN x=some i→i<A.next
 loc : ∀ {A B x r},R A x r→A.next≤B.next→(∀ i,blkN x=some i→B.get i=A.get i)→R B x r
 sl : ∀ {A x r},R A x r→∃ p n c,x=.slice p n c
theorem Sl.loc {A B : Heap} {x : Value} {l : List Value} (k : Sl A x l) (hn : A.next≤B.next) (h : ∀ i,blkN x=some i→B.get i=A.get i) : Sl B x l:=by
 cases k with
 | nil=>exact .nil
 | spot i o s=>exact .spot i o s
 | «at» hi hc hn' hl hss hv=>
  rename_i i o n c a el rw
  refine .at (el:=el) (rw:=rw) (Nat.lt_of_lt_of_le hi hn) ?_ hn' hl hss hv
  have:=h i rfl
  unfold Heap.cellsAt at hc ⊢
  rw[this];exact hc
theorem Sw.loc {w : Nat} {A B : Heap} {x : Value} {l : List (List Value)} (k : Sw w A x l) (hn : A.next≤B.next) (h : ∀ i,blkN x=some i→B.get i=A.get i) : Sw w B x l:=by
 cases k with
 | nil=>exact .nil
 | spot i o s=>exact .spot i o s
 | «at» hi hc hn' hl hss hv=>
  rename_i i o n c a el rw
  refine .at (el:=el) (rw:=rw) (Nat.lt_of_lt_of_le hi hn) ?_ hn' hl hss hv
  have:=h i rfl
  unfold Heap.cellsAt at hc ⊢
  rw[this];exact hc
theorem Sl.isS {H : Heap} {x : Value} {l : List Value} (h : Sl H x l) : ∃ p n c,x=.slice p n c:=by cases h<;>exact⟨_,_,_,rfl⟩
theorem Sw.isS {w : Nat} {H : Heap} {x : Value} {l : List (List Value)} (h : Sw w H x l) : ∃ p n c,x=.slice p n c:=by cases h<;>exact⟨_,_,_,rfl⟩
def From {α : Type} (R : Heap→Value→α→Prop) (b : Nat) (H : Heap) (x : Value) (r : α) : Prop:=R H x r∧∀ i,blkN x=some i→b≤i
theorem RP.from {α : Type} {R : Heap→Value→α→Prop} (hR : RP R) (b : Nat) : RP (From R b) where
 grow g h:=⟨hR.grow g h.1,h.2⟩
 apart h s k:=⟨hR.apart h s k.1,k.2⟩
 lt h e:=hR.lt h.1 e
 loc h k1 k2:=⟨hR.loc h.1 k1 k2,h.2⟩
 sl h:=hR.sl h.1
def Nest {α : Type} (R : Heap→Value→α→Prop) (H : Heap) (v : Value) (L : List α) : Prop:=∃ vs : List Value,Sl H v vs∧vs.length=L.length∧∀ (k : Nat) (x : Value) (r : α),vs[k]?=some x→L[k]?=some r→R H x r
theorem Nest.grow {α : Type} {R : Heap→Value→α→Prop} (hR : RP R) {A B : Heap} (g : Grow A B) {v : Value} {L : List α} (h : Nest R A v L) : Nest R B v L:=by
 obtain⟨vs,h1,h2,h3⟩:=h
 exact⟨vs,h1.grow g,h2,fun k x r hx hr=>hR.grow g (h3 k x r hx hr)⟩
theorem Nest.len {α : Type} {R : Heap→Value→α→Prop} {H : Heap} {v : Value} {L : List α} (h : Nest R H v L) (X : Heap) : ylen 0 X v=some (.int .i64 L.length):=by
 obtain⟨vs,h1,h2,h3⟩:=h
 have:=h1.len
 rw[h2] at this
 cases h1<;>exact this
theorem Nest.isS {α : Type} {R : Heap→Value→α→Prop} {H : Heap} {v : Value} {L : List α} (h : Nest R H v L) : ∃ p n c,v=.slice p n c:=by
 obtain⟨vs,h1,_,_⟩:=h
 exact h1.isS
theorem Nest.at {α : Type} {R : Heap→Value→α→Prop} (hR : RP R) {H : Heap} {v : Value} {L : List α} (h : Nest R H v L) {k : Nat} (hk : k<L.length) :
  ∃ p x,(∀ kd,yindexAddr none 1 v (.int kd k)=some p)∧∀ H',Grow H H'→yload1 H' p=some x∧R H' x L[k]:=by
 obtain⟨vs,h1,h2,h3⟩:=h
 have e : vs[k]?=some vs[k]:=by simp[h2,hk]
 have hx:=h3 k _ L[k] e (by simp[hk])
 have:=h1.get e rfl (kd:=.i64)
 obtain⟨p,q1,q2⟩:=this
 refine⟨p,vs[k],fun kd=>?_,fun H' g=>⟨q2 H' g,hR.grow g hx⟩⟩
 cases h1 with
 | nil=>simp at e
 | spot=>simp at e
 | «at»=>simpa only[yindexAddr] using q1
def OwN {α : Type} (R : Heap→Value→α→Prop) (H0 H : Heap) (e : TypeId) (s : Value) (L : List α) : Prop:=∃ vs : List Value,Ow H0 H e s vs∧vs.length=L.length∧∀ (k : Nat) (x : Value) (r : α),vs[k]?=some x→L[k]?=some r→R H x r∧SepN s x
theorem OwN.nil {α : Type} {R : Heap→Value→α→Prop} {H0 H : Heap} {e : TypeId} : OwN R H0 H e (.slice none 0 0) []:=⟨[],.nil,rfl,fun k x r h=>by simp at h⟩
theorem OwN.keep {α : Type} {R : Heap→Value→α→Prop} (hR : RP R) {H0 H H' : Heap} {e : TypeId} {s : Value} {L : List α} (h : OwN R H0 H e s L) (g : Grow H H') : OwN R H0 H' e s L:=by
 obtain⟨vs,h1,h2,h3⟩:=h
 exact⟨vs,h1.keep g,h2,fun k x r hx hr=>⟨hR.grow g (h3 k x r hx hr).1,(h3 k x r hx hr).2⟩⟩
theorem OwN.base {α : Type} {R : Heap→Value→α→Prop} {A B H : Heap} {e : TypeId} {s : Value} {L : List α} (h : OwN R A H e s L) (hn : B.next≤A.next) : OwN R B H e s L:=by
 obtain⟨vs,h1,h2,h3⟩:=h
 refine⟨vs,?_,h2,h3⟩
 rcases h1 with h|⟨i,h1,h2,h3,h4⟩
 ·exact .inl h
 ·exact .inr ⟨i,by omega,h2,h3,h4⟩
theorem OwN.loc {α : Type} {R : Heap→Value→α→Prop} (hR : RP R) {H0 A B : Heap} {e : TypeId} {s : Value} {L : List α} (h : OwN (From R H0.next) H0 A e s L) (hn : A.next≤B.next) (k : ∀ i,H0.next≤i→B.get i=A.get i) : OwN (From R H0.next) H0 B e s L:=by
 obtain⟨vs,h1,h2,h3⟩:=h
 refine⟨vs,?_,h2,fun j x r hx hr=>⟨⟨hR.loc (h3 j x r hx hr).1.1 hn (fun i hi=>k i ((h3 j x r hx hr).1.2 i hi)),(h3 j x r hx hr).1.2⟩,(h3 j x r hx hr).2⟩⟩
 rcases h1 with h|⟨i,h1,h2,h3,h4⟩
 ·exact .inl h
 ·refine .inr ⟨i,h1,Nat.lt_of_lt_of_le h2 hn,h3,?_⟩
  unfold Heap.cellsAt at h4 ⊢
  rw[k i h1];exact h4
theorem OwW.loc {w : Nat} {H0 A B : Heap} {e : TypeId} {v : Value} {l : List (List Value)} (h : OwW w H0 A e v l) (hn : A.next≤B.next) (k : ∀ i,H0.next≤i→B.get i=A.get i) : OwW w H0 B e v l:=by
 rcases h with h|⟨i,h1,h2,h3,h4⟩
 ·exact .inl h
 ·refine .inr ⟨i,h1,Nat.lt_of_lt_of_le h2 hn,h3,?_⟩
  unfold Heap.cellsAt at h4 ⊢
  rw[k i h1];exact h4
theorem Ow.loc {H0 A B : Heap} {e : TypeId} {v : Value} {l : List Value} (h : Ow H0 A e v l) (hn : A.next≤B.next) (k : ∀ i,H0.next≤i→B.get i=A.get i) : Ow H0 B e v l:=by
 rcases h with h|⟨i,h1,h2,h3,h4⟩
 ·exact .inl h
 ·refine .inr ⟨i,h1,Nat.lt_of_lt_of_le h2 hn,h3,?_⟩
  unfold Heap.cellsAt at h4 ⊢
  rw[k i h1];exact h4
theorem OwW.from {w : Nat} {H0 H : Heap} {e : TypeId} {v : Value} {l : List (List Value)} (h : OwW w H0 H e v l) : ∀ i,blkN v=some i→H0.next≤i:=by
 intro i hi
 rcases h with⟨rfl,_⟩|⟨j,h1,_,rfl,_⟩
 ·simp[blkN] at hi
 ·simp only[blkN,Option.some.injEq] at hi;omega
theorem Ow.from {H0 H : Heap} {e : TypeId} {v : Value} {l : List Value} (h : Ow H0 H e v l) : ∀ i,blkN v=some i→H0.next≤i:=by
 intro i hi
 rcases h with⟨rfl,_⟩|⟨j,h1,_,rfl,_⟩
 ·simp[blkN] at hi
 ·simp only[blkN,Option.some.injEq] at hi;omega
theorem OwN.push {α : Type} {R : Heap→Value→α→Prop} (hR : RP R) {H0 H : Heap} {e : TypeId} {bytes : Nat} {s x : Value} {L : List α} {r : α} (g : Grow H0 H) (hs : OwN R H0 H e s L) (hx : R H x r) (hsx : SepN s x) (hb : (2*(L.length+1)+256)*bytes≤281474976710656) (h2 : L.length+1≤281474976710656) :
  ∃ w H',yappend e 1 bytes (H.alloc (.cells ⟨[x]⟩ e true)) s (.slice (some ⟨H.next,0,none⟩) 1 1)=some (w,H')∧OwN R H0 H' e w (L++[r])∧Grow H0 H'∧Apart H H' s∧blk w=some (H.next+1)∧inBound H'.next 3 w=true∧H.next+1≤H'.next∧H'.cellsAt H.next=some (⟨[x]⟩,e,true):=by
 obtain⟨vs,o,hl,hv⟩:=hs
 obtain⟨p,n,c,rfl⟩:=hR.sl hx
 have hok : [Value.slice p n c].all ok1=true:=by simp[ok1_slice]
 have hb' : (2*(vs.length+1)+256)*bytes≤281474976710656:=by rw[hl];exact hb
 obtain⟨w,H',k1,k2,k3,k4,k5,k6,k7,k8⟩:=o.push (bytes:=bytes) (r:=[Value.slice p n c]) g hok (by simp) hb' (by rw[hl];exact h2)
 refine⟨w,H',k1,⟨_,k2,by simp[hl],?_⟩,k3,k4,k5,k6,k7,k8⟩
 intro k y q hy hq
 rw[List.getElem?_append] at hy hq
 have key : ∀ {y q},R H y q→SepN s y→R H' y q∧SepN w y:=by
  intro y q h1 h2
  refine⟨hR.apart k4 h2 h1,fun i hi=>?_⟩
  have:=hR.lt h1 hi
  rw[k5]
  simp only[ne_eq,Option.some.injEq]
  omega
 split at hy
 ·rename_i hk
  rw[if_pos (by omega)] at hq
  obtain⟨h1,h2⟩:=hv k y q hy hq
  exact key h1 h2
 ·rename_i hk
  rw[if_neg (by omega)] at hq
  have e0 : k-vs.length=0:=by
   have:=(List.getElem?_eq_some_iff.1 hy).1
   simp at this;omega
  rw[e0] at hy
  rw[← hl,e0] at hq
  simp only[List.getElem?_cons_zero,Option.some.injEq] at hy hq
  subst hy;subst hq
  exact key hx hsx
def Keep (n : Nat) (H H' : Heap) : Prop:=H.next≤H'.next∧∀ j,j<n→H'.get j=H.get j
theorem Keep.grow {n : Nat} {B H H' : Heap} (k : Keep n H H') (g : Grow B H) (hn : B.next≤n) : Grow B H':=
 ⟨Nat.le_trans g.1 k.1,fun i hi=>by rw[k.2 i (by omega)];exact g.2 i hi⟩
theorem Keep.trans {n : Nat} {A B C : Heap} (h : Keep n A B) (k : Keep n B C) : Keep n A C:=⟨Nat.le_trans h.1 k.1,fun j hj=>(k.2 j hj).trans (h.2 j hj)⟩
theorem OwN.from {α : Type} {R : Heap→Value→α→Prop} {H0 H : Heap} {e : TypeId} {s : Value} {L : List α} (h : OwN R H0 H e s L) : ∀ i,blkN s=some i→H0.next≤i:=by
 obtain⟨vs,h1,_,_⟩:=h
 exact h1.from
end Go.Xe
