/- Rules of reasoning over the executable reading of the model's code (part Z25): blocks of own memory by colors; slices of slices whose rows change. Conditions: none; for every program. -/
import Derived.Test.YtgcdbdcnlhonfaaZv
import Derived.Test.YtgcdbdcnlhonfaaZt
namespace Go.Xe
open Go
def Oc (n0 : Nat) (col : Nat→Nat) (c : Nat) (H : Heap) (e : TypeId) (v : Value) (n : Nat) (cs : List Value) : Prop:=(v=.slice none 0 0∧n=0∧cs=[])∨∃ i,n0≤i∧i<H.next∧col i=c∧v=.slice (some ⟨i,0,none⟩) n n∧H.cellsAt i=some (⟨cs⟩,e,true)
def St (n0 : Nat) (C : Nat→Prop) (col : Nat→Nat) (H : Heap) (col' : Nat→Nat) (H' : Heap) : Prop:=H.next≤H'.next∧(∀ i,i<H.next→col' i=col i)∧∀ i,i<H.next→i<n0∨¬ C (col i)→H'.get i=H.get i
def pnt (col : Nat→Nat) (i c : Nat) : Nat→Nat:=fun j=>if j=i then c else col j
section
variable {n0 : Nat} {C D : Nat→Prop} {col col' col'' : Nat→Nat} {A B H H' H'' : Heap} {c : Nat} {e : TypeId} {v : Value} {n : Nat} {cs : List Value}
theorem St.refl (n0 : Nat) (C : Nat→Prop) (col : Nat→Nat) (H : Heap) : St n0 C col H col H:=⟨Nat.le_refl _,fun _ _=>rfl,fun _ _ _=>rfl⟩
theorem St.trans (h : St n0 C col H col' H') (k : St n0 C col' H' col'' H'') : St n0 C col H col'' H'':=
 ⟨Nat.le_trans h.1 k.1,fun i hi=>(k.2.1 i (Nat.lt_of_lt_of_le hi h.1)).trans (h.2.1 i hi),fun i hi hc=>(k.2.2 i (Nat.lt_of_lt_of_le hi h.1) (hc.imp id (fun x y=>x (by rw[← h.2.1 i hi];exact y)))).trans (h.2.2 i hi hc)⟩
theorem St.mono (h : St n0 C col H col' H') (k : ∀ c,C c→D c) : St n0 D col H col' H':=⟨h.1,h.2.1,fun i hi hc=>h.2.2 i hi (hc.imp id (fun x y=>x (k _ y)))⟩
theorem St.grow (g : Grow H H') : St n0 C col H col H':=⟨g.1,fun _ _=>rfl,fun i hi _=>g.2 i hi⟩
theorem St.keep (h : St n0 C col H col' H') (hn : n0≤H.next) : Keep n0 H H':=⟨h.1,fun j hj=>h.2.2 j (by omega) (.inl hj)⟩
theorem Oc.put (h : Oc n0 col c H e v n cs) {i : Nat} (hi : i<n0) (o : AO) : Oc n0 col c (H.set i o) e v n cs:=by
 rcases h with h|⟨j,h1,h2,h3,h4,h5⟩
 ·exact .inl h
 ·exact .inr ⟨j,h1,h2,h3,h4,(cells_set_ne H o (by omega)).trans h5⟩
theorem Oc.nil : Oc n0 col c H e (.slice none 0 0) 0 []:=.inl ⟨rfl,rfl,rfl⟩
theorem Oc.st (h : Oc n0 col c H e v n cs) (k : St n0 C col H col' H') (hc : ¬ C c) : Oc n0 col' c H' e v n cs:=by
 rcases h with h|⟨j,h1,h2,h3,h4,h5⟩
 ·exact .inl h
 ·refine .inr ⟨j,h1,Nat.lt_of_lt_of_le h2 k.1,(k.2.1 j h2).trans h3,h4,?_⟩
  unfold Heap.cellsAt at h5 ⊢
  rw[k.2.2 j h2 (.inr (by rw[h3];exact hc))];exact h5
theorem Oc.grow (h : Oc n0 col c H e v n cs) (g : Grow H H') : Oc n0 col c H' e v n cs:=h.st (C:=fun _=>False) (.grow g) id
theorem Oc.growS {U : Nat→Prop} (h : Oc n0 col c H e v n cs) (g : GrowS U H H') (hU : ∀ i,n0≤i→¬ U i) : Oc n0 col c H' e v n cs:=by
 rcases h with h|⟨j,h1,h2,h3,h4,h5⟩
 ·exact .inl h
 ·exact .inr ⟨j,h1,Nat.lt_of_lt_of_le h2 g.1,h3,h4,by rw[g.cells h2 (hU j h1)];exact h5⟩
theorem Oc.slice (h : Oc n0 col c H e v n cs) : ∃ p m k,v=.slice p m k:=by
 rcases h with⟨rfl,_⟩|⟨j,_,_,_,rfl,_⟩
 ·exact⟨_,_,_,rfl⟩
 ·exact⟨_,_,_,rfl⟩
theorem Oc.len (h : Oc n0 col c H e v n cs) (X : Heap) : ylen 0 X v=some (.int .i64 n):=by
 rcases h with⟨rfl,rfl,_⟩|⟨j,_,_,_,rfl,_⟩<;>rfl
theorem Oc.loc (h : Oc n0 col c A e v n cs) (hn : A.next≤B.next) (k : ∀ i,n0≤i→i<A.next→B.get i=A.get i) : Oc n0 col c B e v n cs:=by
 rcases h with h|⟨j,h1,h2,h3,h4,h5⟩
 ·exact .inl h
 ·refine .inr ⟨j,h1,Nat.lt_of_lt_of_le h2 hn,h3,h4,?_⟩
  unfold Heap.cellsAt at h5 ⊢
  rw[k j h1 h2];exact h5
theorem Oc.w {w : Nat} {H0 : Heap} {l : List (List Value)} (h : Oc n0 col c H e v l.length l.flatten) (hn : H0.next≤n0) : OwW w H0 H e v l:=by
 rcases h with⟨h1,h2,_⟩|⟨j,h1,h2,h3,h4,h5⟩
 ·exact .inl ⟨h1,List.length_eq_zero_iff.1 h2⟩
 ·exact .inr ⟨j,by omega,h2,h4,h5⟩
theorem Oc.o {H0 : Heap} (h : Oc n0 col c H e v cs.length cs) (hn : H0.next≤n0) : Ow H0 H e v cs:=by
 rcases h with⟨h1,h2,h3⟩|⟨j,h1,h2,h3,h4,h5⟩
 ·exact .inl ⟨h1,h3⟩
 ·exact .inr ⟨j,by omega,h2,h4,h5⟩
theorem pnt_at (i c : Nat) : pnt col i c i=c:=by unfold pnt;rw[if_pos rfl]
theorem pnt_ne {i j c : Nat} (h : j≠i) : pnt col i c j=col j:=by unfold pnt;rw[if_neg h]
theorem Oc.push {w bytes : Nat} {x : List Value} (hw : 0<w) (hs : Oc n0 col c H e v n cs) (hn0 : n0≤H.next) (hcs : cs.length=n*w) (hx : x.length=w) (hok : x.all ok1=true) (hb : (2*(n+1)+256)*bytes≤281474976710656) (h2 : n+1≤281474976710656) :
  ∃ u H',yappend e w bytes (H.alloc (.cells ⟨x⟩ e true)) v (.slice (some ⟨H.next,0,none⟩) 1 1)=some (u,H')∧Oc n0 (pnt col (H.next+1) c) c H' e u (n+1) (cs++x)∧St n0 (·=c) col H (pnt col (H.next+1) c) H'∧Keep n0 H H'∧H.next+1≤H'.next∧H'.cellsAt H.next=some (⟨x⟩,e,true)∧∃ p,u=.slice (some ⟨p,0,none⟩) (n+1) (n+1)∧p=H.next+1:=by
 have hcell : (H.alloc (.cells ⟨x⟩ e true)).cellsAt H.next=some (⟨x⟩,e,true):=cells_alloc _ _ _ _
 have e48 : (2 : Nat) ^ 48=281474976710656:=by decide
 have hsrc : xsource (H.alloc (.cells ⟨x⟩ e true)) w 1 (some ⟨H.next,0,none⟩)=some ⟨x⟩:=by
  have hsw : Sw w (H.alloc (.cells ⟨x⟩ e true)) (.slice (some ⟨H.next,0,none⟩) 1 1) [x]:=Sw.one ⟨Nat.lt_succ_self _,hcell⟩ hx
  have:=(hsw.source (by omega) hw (by simpa using hx)).1
  simpa using this
 have hcond : ((⟨x⟩ : Array Value).toList.all fun y=>y.oneCell' && notTop y)=true:=hok
 rcases hs with⟨rfl,rfl,rfl⟩|⟨i,i1,i2,i3,rfl,i4⟩
 ·refine⟨.slice (some ⟨H.next+1,0,none⟩) 1 1,(H.alloc (.cells ⟨x⟩ e true)).alloc (.cells ⟨x⟩ e true),?_,?_,?_,?_,Nat.le_succ _,?_,H.next+1,rfl,rfl⟩
  ·simp only[yappend]
   rw[if_neg (by omega),hsrc]
   simp only[]
   rw[e48,if_pos ⟨hcond,by simp;omega,by simp⟩]
   simp
  ·refine .inr ⟨H.next+1,by omega,Nat.lt_succ_self _,pnt_at _ _,rfl,?_⟩
   rw[List.nil_append]
   exact cells_alloc _ _ _ _
  ·refine⟨by simp only[Heap.next_alloc];omega,fun j hj=>pnt_ne (by omega),fun j hj _=>?_⟩
   rw[Heap.get_alloc,if_neg (by simp only[Heap.next_alloc];omega),Heap.get_alloc,if_neg (by omega)]
  ·refine⟨by simp only[Heap.next_alloc];omega,fun j hj=>?_⟩
   rw[Heap.get_alloc,if_neg (by simp only[Heap.next_alloc];omega),Heap.get_alloc,if_neg (by omega)]
  ·rw[cells_alloc_ne _ _ (Nat.lt_succ_self _)]
   exact hcell
 ·have hi4 : (H.alloc (.cells ⟨x⟩ e true)).cellsAt i=some (⟨cs⟩,e,true):=(cells_alloc_ne _ _ i2).trans i4
  refine⟨.slice (some ⟨H.next+1,0,none⟩) (n+1) (n+1),((H.alloc (.cells ⟨x⟩ e true)).set i (lentO 0 (n*w) ⟨cs⟩ e (H.next+1))).alloc (.cells ⟨cs++x⟩ e true),?_,?_,?_,?_,by simp only[Heap.next_alloc,Heap.next_set];omega,?_,H.next+1,rfl,rfl⟩
  ·simp only[yappend]
   rw[if_neg (by omega),hsrc]
   simp only[]
   rw[e48,if_pos ⟨hcond,hb,h2⟩]
   simp only[hi4]
   have hsz : (⟨cs⟩ : Array Value).size=n*w:=hcs
   rw[if_pos ⟨trivial,by rw[hsz];omega,by rw[hsz];omega,by omega⟩,if_neg (by omega)]
   have hxx : (⟨cs⟩ : Array Value).extract 0 (0+n*w)++(⟨x⟩ : Array Value)=⟨cs++x⟩:=by
    apply Array.toList_inj.1
    rw[Nat.zero_add,← hcs]
    simp only[Array.toList_append,List.extract_toArray,List.extract_eq_take_drop,List.drop_zero,Nat.sub_zero,List.take_length]
   rw[hxx]
   simp
  ·refine .inr ⟨H.next+1,by omega,by simp only[Heap.next_alloc,Heap.next_set];omega,pnt_at _ _,rfl,?_⟩
   have:=cells_alloc ((H.alloc (.cells ⟨x⟩ e true)).set i (lentO 0 (n*w) ⟨cs⟩ e (H.next+1))) ⟨cs++x⟩ e true
   simpa only[Heap.next_set,Heap.next_alloc] using this
  ·refine⟨by simp only[Heap.next_alloc,Heap.next_set];omega,fun j hj=>pnt_ne (by omega),fun j hj hc=>?_⟩
   have hji : j≠i:=by
    rintro rfl
    rcases hc with hc|hc
    ·omega
    ·exact hc i3
   rw[Heap.get_alloc,if_neg (by simp only[Heap.next_set,Heap.next_alloc];omega),Heap.get_set,if_neg hji,Heap.get_alloc,if_neg (by omega)]
  ·refine⟨by simp only[Heap.next_alloc,Heap.next_set];omega,fun j hj=>?_⟩
   rw[Heap.get_alloc,if_neg (by simp only[Heap.next_set,Heap.next_alloc];omega),Heap.get_set,if_neg (by omega),Heap.get_alloc,if_neg (by omega)]
  ·rw[cells_alloc_ne _ _ (by simp only[Heap.next_set,Heap.next_alloc];omega),cells_set_ne _ _ (by omega)]
   exact hcell
def Rws (n0 : Nat) (col : Nat→Nat) (cr : Nat→Nat) (H : Heap) (e : TypeId) (vs : List Value) (L : List (Nat×List Value)) : Prop:=vs.length=L.length∧∀ k x r,vs[k]?=some x→L[k]?=some r→Oc n0 col (cr k) H e x r.1 r.2
variable {cr : Nat→Nat} {vs : List Value} {L : List (Nat×List Value)}
theorem Rws.st (h : Rws n0 col cr H e vs L) (k : St n0 C col H col' H') (hc : ∀ k,k<L.length→¬ C (cr k)) : Rws n0 col' cr H' e vs L:=
 ⟨h.1,fun j x r hx hr=>(h.2 j x r hx hr).st k (hc j (List.getElem?_eq_some_iff.1 hr).1)⟩
theorem Rws.grow (h : Rws n0 col cr H e vs L) (g : Grow H H') : Rws n0 col cr H' e vs L:=⟨h.1,fun j x r hx hr=>(h.2 j x r hx hr).grow g⟩
theorem Rws.growS {U : Nat→Prop} (h : Rws n0 col cr H e vs L) (g : GrowS U H H') (hU : ∀ i,n0≤i→¬ U i) : Rws n0 col cr H' e vs L:=⟨h.1,fun j x r hx hr=>(h.2 j x r hx hr).growS g hU⟩
theorem Rws.put (h : Rws n0 col cr H e vs L) {i : Nat} (hi : i<n0) (o : AO) : Rws n0 col cr (H.set i o) e vs L:=⟨h.1,fun j x r hx hr=>(h.2 j x r hx hr).put hi o⟩
theorem Rws.loc (h : Rws n0 col cr A e vs L) (hn : A.next≤B.next) (k : ∀ i,n0≤i→i<A.next→B.get i=A.get i) : Rws n0 col cr B e vs L:=⟨h.1,fun j x r hx hr=>(h.2 j x r hx hr).loc hn k⟩
theorem Rws.at (h : Rws n0 col cr H e vs L) {k : Nat} (hk : k<L.length) : ∃ x,vs[k]?=some x∧Oc n0 col (cr k) H e x L[k].1 L[k].2:=
 ⟨vs[k]'(by rw[h.1];exact hk),by simp[h.1,hk],h.2 k _ _ (by simp[h.1,hk]) (by simp[hk])⟩
theorem Rws.upd {k m : Nat} {u : Value} {cs' : List Value} (h : Rws n0 col cr H e vs L) (s : St n0 (·=cr k) col H col' H') (hi : ∀ j,j≠k→cr j≠cr k) (hu : Oc n0 col' (cr k) H' e u m cs') : Rws n0 col' cr H' e (vs.set k u) (L.set k (m,cs')):=by
 refine⟨by simp[h.1],fun j x r hx hr=>?_⟩
 by_cases hj : j=k
 ·subst hj
  have h1 : j<vs.length:=by
   have:=(List.getElem?_eq_some_iff.1 hx).1
   rwa [List.length_set] at this
  rw[List.getElem?_set_self h1] at hx
  rw[List.getElem?_set_self (by rw[← h.1];exact h1)] at hr
  rw[← Option.some.inj hx,← Option.some.inj hr]
  exact hu
 ·rw[List.getElem?_set_ne (Ne.symm hj)] at hx
  rw[List.getElem?_set_ne (Ne.symm hj)] at hr
  exact (h.2 j x r hx hr).st s (hi j hj)
theorem Rws.push {m : Nat} {u : Value} {cs' : List Value} (h : Rws n0 col cr H e vs L) (hu : Oc n0 col (cr L.length) H e u m cs') : Rws n0 col cr H e (vs++[u]) (L++[(m,cs')]):=by
 refine⟨by simp[h.1],fun j x r hx hr=>?_⟩
 by_cases hj : j<L.length
 ·rw[List.getElem?_append_left (by rw[h.1];exact hj)] at hx
  rw[List.getElem?_append_left hj] at hr
  exact h.2 j x r hx hr
 ·have hl : j=L.length:=by
   have:=(List.getElem?_eq_some_iff.1 hr).1
   simp at this;omega
  subst hl
  rw[List.getElem?_append_right (by rw[h.1];exact Nat.le_refl _),h.1,Nat.sub_self] at hx
  rw[List.getElem?_append_right (Nat.le_refl _),Nat.sub_self] at hr
  simp only[List.getElem?_cons_zero,Option.some.injEq] at hx hr
  subst hx;subst hr
  exact hu
theorem Oc.set1 {i : Nat} {x : Value} (h : Oc n0 col c H e v n cs) (hi : i<cs.length) : ∃ b,v=.slice (some ⟨b,0,none⟩) n n∧n0≤b∧b<H.next∧H.cellsAt b=some (⟨cs⟩,e,true)∧Oc n0 col c (H.set b (.cells ⟨cs.set i x⟩ e true)) e v n (cs.set i x)∧St n0 (·=c) col H col (H.set b (.cells ⟨cs.set i x⟩ e true)):=by
 rcases h with⟨_,_,rfl⟩|⟨b,h1,h2,h3,h4,h5⟩
 ·simp at hi
 ·refine⟨b,h4,h1,h2,h5,.inr ⟨b,h1,h2,h3,h4,cells_set _ _ _ _ _⟩,by simp only[Heap.next_set];omega,fun _ _=>rfl,fun j hj hc=>?_⟩
  rw[Heap.get_set,if_neg]
  rintro rfl
  rcases hc with hc|hc
  ·omega
  ·exact hc h3
end
def LocP (b : Nat) (X : Heap) (P : Heap→Prop) : Prop:=∀ Y,X.next≤Y.next→(∀ i,b≤i→i<X.next→Y.get i=X.get i)→P Y
theorem LocP.here {b : Nat} {X : Heap} {P : Heap→Prop} (h : LocP b X P) : P X:=h X (Nat.le_refl _) (fun _ _ _=>rfl)
end Go.Xe
/- Rules of reasoning over the executable reading of the model's code (part Z26): the first elements of a slice that came in. Conditions: none; for every program. -/
namespace Go.Xe
open Go
def Ro (A : Heap) : Prop:=∀ i c el rw,i<A.next→A.cellsAt i=some (c,el,rw)→rw=false
section
variable {P : Program} {A : Heap} {e : TypeId} {k : Nat}
theorem xb_hi {n c : Nat} (h : k≤n) (hn : n≤c) (d : Nat) : xbound (some (.int .i64 (k : Int))) d c=some k:=by
 simp only[xbound]
 rw[if_pos ⟨by omega,by omega⟩]
 simp
theorem Sl.take {v : Value} {l : List Value} (h : Sl A v l) (hr : Ro A) (hk : k≤l.length) : ∃ y,∀ X,Grow A X→yslice P e 1 X v none (some (.int .i64 (k : Int)))=some y∧Sl X y (l.take k):=by
 cases h with
 | nil=>
  have : k=0:=by simpa using hk
  subst this
  exact⟨_,fun X _=>⟨rfl,.nil⟩⟩
 | spot i o s=>
  have : k=0:=by simpa using hk
  subst this
  exact⟨_,fun X _=>⟨rfl,.spot i o s⟩⟩
 | «at» hi hc hn hl hs hv=>
  rename_i i o n c a el rw
  have hrw:=hr i a el rw hi hc
  by_cases hc0 : c=0
  ·have : k=0:=by omega
   subst this
   refine⟨.slice (some ⟨i,o,some 0⟩) 0 0,fun X g=>⟨?_,.spot i o 0⟩⟩
   have hX:=(g.cells hi).trans hc
   simp only[yslice,hX]
   rw[if_pos (.inl hrw),xb_hi (n:=n) (by omega) hn]
   simp only[xbound]
   rw[if_pos hc0]
  ·refine⟨.slice (some ⟨i,o+0*1,none⟩) (k-0) (c-0),fun X g=>?_⟩
   have hX:=(g.cells hi).trans hc
   refine⟨?_,?_⟩
   ·simp only[yslice,hX]
    rw[if_pos (.inl hrw),xb_hi (n:=n) (by omega) hn]
    simp only[xbound]
    rw[if_neg hc0]
   ·simp only[Nat.zero_mul,Nat.add_zero,Nat.sub_zero]
    refine .at (Nat.lt_of_lt_of_le hi g.1) hX (by omega) (by rw[List.length_take];omega) (by omega) (fun j x hj=>hv j x ?_)
    rw[List.getElem?_take] at hj
    split at hj
    ·exact hj
    ·cases hj
theorem Sw.take {w : Nat} {v : Value} {l : List (List Value)} (h : Sw w A v l) (hr : Ro A) (hk : k≤l.length) : ∃ y,∀ X,Grow A X→yslice P e w X v none (some (.int .i64 (k : Int)))=some y∧Sw w X y (l.take k):=by
 cases h with
 | nil=>
  have : k=0:=by simpa using hk
  subst this
  exact⟨_,fun X _=>⟨rfl,.nil⟩⟩
 | spot i o s=>
  have : k=0:=by simpa using hk
  subst this
  exact⟨_,fun X _=>⟨rfl,.spot i o s⟩⟩
 | «at» hi hc hn hl hs hv=>
  rename_i i o n c a el rw
  have hrw:=hr i a el rw hi hc
  by_cases hc0 : c=0
  ·have : k=0:=by omega
   subst this
   refine⟨.slice (some ⟨i,o,some 0⟩) 0 0,fun X g=>⟨?_,.spot i o 0⟩⟩
   have hX:=(g.cells hi).trans hc
   simp only[yslice,hX]
   rw[if_pos (.inl hrw),xb_hi (n:=n) (by omega) hn]
   simp only[xbound]
   rw[if_pos hc0]
  ·refine⟨.slice (some ⟨i,o+0*w,none⟩) (k-0) (c-0),fun X g=>?_⟩
   have hX:=(g.cells hi).trans hc
   refine⟨?_,?_⟩
   ·simp only[yslice,hX]
    rw[if_pos (.inl hrw),xb_hi (n:=n) (by omega) hn]
    simp only[xbound]
    rw[if_neg hc0]
   ·simp only[Nat.zero_mul,Nat.add_zero,Nat.sub_zero]
    have hm : k*w≤n*w:=Nat.mul_le_mul_right w (by omega)
    refine .at (Nat.lt_of_lt_of_le hi g.1) hX (by omega) (by rw[List.length_take];omega) (by omega) (fun j x hj=>hv j x ?_)
    rw[List.getElem?_take] at hj
    split at hj
    ·exact hj
    ·cases hj
theorem Nest.take {α : Type} {R : Heap→Value→α→Prop} (hR : RP R) {v : Value} {L : List α} (h : Nest R A v L) (hr : Ro A) (hk : k≤L.length) : ∃ y,∀ X,Grow A X→yslice P e 1 X v none (some (.int .i64 (k : Int)))=some y∧Nest R X y (L.take k):=by
 obtain⟨vs,h1,h2,h3⟩:=h
 obtain⟨y,k1⟩:=h1.take (P:=P) (e:=e) hr (k:=k) (by omega)
 refine⟨y,fun X g=>⟨(k1 X g).1,vs.take k,(k1 X g).2,by simp[h2],fun j x r hx hr'=>?_⟩⟩
 rw[List.getElem?_take] at hx hr'
 split at hx
 ·rename_i hj
  rw[if_pos hj] at hr'
  exact hR.grow g (h3 j x r hx hr')
 ·cases hx
end
end Go.Xe
/- Rules of reasoning over the executable reading of the model's code (part Z24): maps as functions of their keys. Conditions: none; for every program. -/
namespace Go.Xe
open Go
variable {α : Type} [DecidableEq α]
structure KeyOk (P : Program) (kt : TypeId) (ke : α→Value) (D : α→Prop) : Prop where
 keyed : keyedB P kt=true
 keyish : ∀ a,keyishV (ke a)=true
 keyOf : ∀ a,D a→(keyOf P kt (ke a)).isSome=true
 eq : ∀ a b,valEq (ke a) (ke b)=decide (a=b)
def lookE (k : Value) : List MapEntry→Option Value
 | []=>none
 | e::es=>if valEq k e.key then some e.val else lookE k es
theorem xfind_look {k : Value} : ∀ (es : List MapEntry) (n : Nat),(xfind k es n=none∧lookE k es=none)∨∃ x e,xfind k es n=some (n+x)∧es[x]?=some e∧lookE k es=some e.val
 | [],_=>.inl ⟨rfl,rfl⟩
 | e::es,n=>by
  simp only[xfind,lookE]
  by_cases h : valEq k e.key=true
  ·rw[if_pos h,if_pos h]
   exact .inr ⟨0,e,rfl,rfl,rfl⟩
  ·rw[if_neg h,if_neg h]
   rcases xfind_look es (n+1) with⟨h1,h2⟩|⟨x,e',h1,h2,h3⟩
   ·exact .inl ⟨h1,h2⟩
   ·exact .inr ⟨x+1,e',by rw[h1];congr 1;omega,by simpa using h2,h3⟩
theorem look_push {k : Value} {e : MapEntry} : ∀ (es : List MapEntry),lookE k (es++[e])=match lookE k es with
  | some v=>some v
  | none=>if valEq k e.key then some e.val else none
 | []=>by simp only[List.nil_append,lookE]
 | e'::es=>by
  simp only[List.cons_append,lookE]
  by_cases h : valEq k e'.key=true
  ·rw[if_pos h,if_pos h]
  ·rw[if_neg h,if_neg h,look_push es]
theorem look_modify {P : Program} {kt : TypeId} {ke : α→Value} {D : α→Prop} (hk : KeyOk P kt ke D) {a : α} {v : Value} : ∀ (es : List MapEntry) (n x : Nat),(∀ e∈es,∃ c,e.key=ke c)→xfind (ke a) es n=some (n+x)→∀ b,lookE (ke b) (es.modify x fun e=>{ e with key:=ke a,val:=v })=if b=a then some v else lookE (ke b) es
 | [],n,x,_,h,_=>by simp[xfind] at h
 | e::es,n,x,hes,h,b=>by
  obtain⟨c,hc⟩:=hes e (by simp)
  simp only[xfind] at h
  by_cases he : valEq (ke a) e.key=true
  ·rw[if_pos he] at h
   have hx : x=0:=by simp only[Option.some.injEq] at h;omega
   subst hx
   rw[hc,hk.eq,decide_eq_true_eq] at he
   subst he
   simp only[List.modify_zero_cons,lookE,hc,hk.eq,decide_eq_true_eq]
   by_cases hb : b=a
   ·rw[if_pos hb,if_pos hb]
   ·rw[if_neg hb,if_neg hb,if_neg hb]
  ·rw[if_neg he] at h
   obtain⟨x',rfl⟩ : ∃ x',x=x'+1:=by
    rcases xfind_look (k:=ke a) es (n+1) with⟨h1,_⟩|⟨y,_,h1,_⟩
    ·rw[h1] at h;cases h
    ·rw[h1] at h
     simp only[Option.some.injEq] at h
     exact⟨y,by omega⟩
   have h' : xfind (ke a) es (n+1)=some (n+1+x'):=by rw[h];congr 1;omega
   have ih:=look_modify hk (v:=v) es (n+1) x' (fun e he=>hes e (by simp[he])) h' b
   rw[hc,hk.eq,decide_eq_true_eq] at he
   simp only[List.modify_succ_cons,lookE,hc,hk.eq,decide_eq_true_eq]
   by_cases hb : b=c
   ·rw[if_pos hb,if_pos hb,if_neg (fun h=>he (by rw[← h,hb]))]
   ·rw[if_neg hb,if_neg hb,ih]
def MpF (H : Heap) (i : Nat) (kt : TypeId) (ke : α→Value) (f : α→Option Value) : Prop:=∃ es,Mp H i kt es∧(∀ e∈es,∃ c,e.key=ke c)∧∀ a,lookE (ke a) es=f a
omit [DecidableEq α] in
theorem MpF.lt {H : Heap} {i : Nat} {kt : TypeId} {ke : α→Value} {f : α→Option Value} (h : MpF H i kt ke f) : i<H.next:=by
 obtain⟨es,h1,_⟩:=h
 exact h1.1
omit [DecidableEq α] in
theorem MpF.grow {A B : Heap} (g : Grow A B) {i : Nat} {kt : TypeId} {ke : α→Value} {f : α→Option Value} (h : MpF A i kt ke f) : MpF B i kt ke f:=by
 obtain⟨es,h1,h2⟩:=h
 exact⟨es,h1.grow g,h2⟩
omit [DecidableEq α] in
theorem MpF.loc {A B : Heap} {i : Nat} {kt : TypeId} {ke : α→Value} {f : α→Option Value} (h : MpF A i kt ke f) (hn : A.next≤B.next) (hg : B.get i=A.get i) : MpF B i kt ke f:=by
 obtain⟨es,⟨h1,clk,h2⟩,h3⟩:=h
 refine⟨es,⟨Nat.lt_of_lt_of_le h1 hn,clk,?_⟩,h3⟩
 unfold Heap.mapAt at h2 ⊢
 rw[hg];exact h2
omit [DecidableEq α] in
theorem MpF.new (A : Heap) (kt : TypeId) (ke : α→Value) : MpF (A.alloc (.map kt #[] 0)) A.next kt ke (fun _=>none):=
 ⟨[],⟨Nat.lt_succ_self _,0,maps_alloc A kt #[] 0⟩,fun e he=>by simp at he,fun _=>rfl⟩
theorem MpF.upd {P : Program} {H : Heap} {i : Nat} {kt : TypeId} {ke : α→Value} {D : α→Prop} {f : α→Option Value} (hk : KeyOk P kt ke D) (h : MpF H i kt ke f) {a : α} (ha : D a) (v : Value) :
  ∃ o,ymapUpdate P kt H (.map (some i)) (ke a) v=some (H.set i o)∧MpF (H.set i o) i kt ke (fun b=>if b=a then some v else f b):=by
 obtain⟨es,⟨h1,clk,h2⟩,h3,h4⟩:=h
 rcases xfind_look (k:=ke a) es 0 with⟨k1,k2⟩|⟨x,e,k1,k2,k3⟩
 ·refine⟨.map kt ((⟨es⟩ : Array MapEntry).push { key:=ke a,val:=v,born:=clk }) (clk+1),upd_miss h2 hk.keyed (hk.keyish a) (hk.keyOf a ha) k1,es++[{ key:=ke a,val:=v,born:=clk }],⟨h1,clk+1,?_⟩,?_,?_⟩
  ·have:=maps_set H i kt ((⟨es⟩ : Array MapEntry).push { key:=ke a,val:=v,born:=clk }) (clk+1)
   simpa using this
  ·intro e he
   rcases List.mem_append.1 he with he|he
   ·exact h3 e he
   ·rw[List.mem_singleton.1 he];exact⟨a,rfl⟩
  ·intro b
   rw[look_push,h4 b,hk.eq]
   by_cases hb : b=a
   ·subst hb
    rw[← h4 b,k2];simp
   ·simp only[decide_eq_true_eq,if_neg hb]
    cases f b<;>rfl
 ·refine⟨.map kt ((⟨es⟩ : Array MapEntry).modify (0+x) fun e=>{ e with key:=ke a,val:=v }) clk,?_,es.modify x (fun e=>{ e with key:=ke a,val:=v }),⟨h1,clk,?_⟩,?_,?_⟩
  ·simp only[ymapUpdate,h2]
   rw[if_pos ⟨trivial,hk.keyed,hk.keyish a,hk.keyOf a ha⟩,k1]
  ·have:=maps_set H i kt ((⟨es⟩ : Array MapEntry).modify (0+x) fun e=>{ e with key:=ke a,val:=v }) clk
   have e2 : ((⟨es⟩ : Array MapEntry).modify (0+x) fun e=>{ e with key:=ke a,val:=v })=⟨es.modify x fun e=>{ e with key:=ke a,val:=v }⟩:=by
    apply Array.toList_inj.1
    simp
   rw[this,e2]
  ·intro e he
   obtain⟨j,hj,rfl⟩:=List.mem_iff_getElem.1 he
   rw[List.getElem_modify]
   split
   ·exact⟨a,rfl⟩
   ·exact h3 _ (List.getElem_mem _)
  ·intro b
   rw[look_modify hk es 0 x h3 k1 b,h4 b]
end Go.Xe
