/- Rules of reasoning over the executable reading of the model's code (part Z9): the world in which a call begins, read as a heap of objects that nobody writes; arguments. Conditions: none; for every program. -/
import Derived.Test.YtgcdbdcnlhonfaaZh
import Derived.ChangeSlices
import Derived.WideShapes
import Derived.Carry
namespace Go.Xe
open Go Go.RowKit Go.ChangeShapes Go.WideShapes
def absC (n : Nat) : Value→Value
 | .bool b=>.bool b
 | .int k z=>.int k z
 | .string s=>.string s
 | .pointer none=>.pointer none
 | .pointer (some ⟨i,o,none⟩)=>if i<n then .pointer (some ⟨i,o,none⟩) else top
 | .slice none l c=>.slice none l c
 | .slice (some ⟨i,o,s⟩) l c=>if l=0 then .slice (some ⟨i,o,some 0⟩) 0 0 else if s=none∧i<n∧l≤c then .slice (some ⟨i,o,none⟩) l c else top
 | .map none=>.map none
 | .nilFunc=>.nilFunc
 | .nilIface=>.nilIface
 | _=>top
def absV (n : Nat) : Value→Value
 | .agg cs=>.agg (cs.map (absC n))
 | v=>absC n v
def absO (w : World) (i : Nat) : AO:=match w.heap[i]? with
 | some (.cells c el _)=>.cells (c.map (absC w.heap.size)) el false
 | _=>.dead
def absT (w : World) : Th:=fun i=>if i<w.heap.size then some { blk:=i,base:=0,sz:=0,st:=0,rw:=false } else none
theorem absC_VR (w : World) (v : Value) : VR (absT w) (absC w.heap.size v) v:=by
 unfold absC
 split<;>first|exact .bool _|exact .int _ _|exact .string _|exact .pnil|exact .snil _ _|exact .mnil|exact .nilFunc|exact .nilIface|exact .top _|skip
 ·rename_i i o
  split
  ·rename_i h
   have:=VR.ptr (θ:=absT w) (i:=i) (o:=o) (p:={ blk:=i,base:=0,sz:=0,st:=0,rw:=false }) (by simp[absT,h])
   simpa using this
  ·exact .top _
 ·rename_i i o s l c
  split
  ·rename_i h;subst h;exact .sempty _ _ _ _ _
  ·split
   ·rename_i h
    obtain⟨rfl,h2,h3⟩:=h
    have:=VR.slice (θ:=absT w) (i:=i) (o:=o) (n:=l) (c:=c) (c':=c) (p:={ blk:=i,base:=0,sz:=0,st:=0,rw:=false }) (by simp[absT,h2]) h3 (Nat.le_refl _) (fun h=>by cases h)
    simpa using this
   ·exact .top _
theorem absV_VR (w : World) (v : Value) : VR (absT w) (absV w.heap.size v) v:=by
 unfold absV
 split
 ·rename_i cs
  refine .agg (by simp) (fun i a b ha hb=>?_)
  rw[Array.getElem?_map,hb] at ha
  simp at ha
  subst ha
  exact absC_VR w b
 ·exact absC_VR w _
theorem heap_of (n : Nat) (f : Nat→AO) : ∃ H : Heap,H.next=n∧∀ i,H.get i=if i<n then some (f i) else none:=by
 induction n with
 | zero=>exact⟨Heap.empty,rfl,fun i=>by simp[Heap.get,Heap.empty,Tr.get_nil]⟩
 | succ n ih=>
  obtain⟨H,h1,h2⟩:=ih
  refine⟨H.alloc (f n),by rw[Heap.next_alloc,h1],fun i=>?_⟩
  rw[Heap.get_alloc,h1,h2]
  by_cases hi : i=n
  ·subst hi;simp
  ·rw[if_neg hi]
   by_cases hl : i<n
   ·rw[if_pos hl,if_pos (by omega)]
   ·rw[if_neg hl,if_neg (by omega)]
def Abs (w : World) (H : Heap) : Prop:=H.next=w.heap.size∧∀ i,H.get i=if i<w.heap.size then some (absO w i) else none
theorem Abs.cells {w : World} {H : Heap} (h : Abs w H) {i : Nat} {c : Array Value} {el : TypeId} {fz : Nat×Nat} (hc : w.heap[i]?=some (.cells c el fz)) : i<H.next∧H.cellsAt i=some (c.map (absC w.heap.size),el,false):=by
 have hi : i<w.heap.size:=(Array.getElem?_eq_some_iff.1 hc).1
 refine⟨by rw[h.1];exact hi,?_⟩
 unfold Heap.cellsAt
 rw[h.2,if_pos hi]
 simp only[absO,hc]
theorem Abs.rel {P : Program} {w : World} {H : Heap} (h : Abs w H) : Rel P (absT w) H w:=by
 refine⟨fun i o hi ho=>?_,fun i p hp=>?_,_,.ro (fun i p hp=>?_) (fun i c el k hi=>?_)⟩
 ·rw[h.2] at hi
  split at hi
  ·rename_i hlt
   cases hi
   refine⟨{ blk:=i,base:=0,sz:=0,st:=0,rw:=false },by simp[absT,hlt],?_⟩
   unfold absO at ho ⊢
   split
   ·rename_i c el fz hc
    refine⟨c,el,fz,hc,rfl,(fun h=>by cases h),fun k v hv=>?_⟩
    rw[Array.getElem?_map] at hv
    cases hk : c[k]? with
    | none=>rw[hk] at hv;simp at hv
    | some x=>
     rw[hk] at hv
     simp at hv
     subst hv
     exact⟨x,by simpa using hk,absC_VR w x⟩
   ·rename_i hne
    split at ho
    ·rename_i c el fz hc;exact absurd hc (hne _ _ _)
    ·cases ho
  ·cases hi
 ·simp only[absT] at hp
  split at hp
  ·rename_i hlt;cases hp;exact⟨by rw[h.1];exact hlt,hlt⟩
  ·cases hp
 ·simp only[absT] at hp
  split at hp
  ·cases hp;rfl
  ·cases hp
 ·rw[h.2] at hi
  split at hi
  ·unfold absO at hi
   split at hi<;>cases hi
  ·cases hi
theorem frame {P : Program} [Gl P] [Orc P] (hgl : ∀ g,Gl.G P g=false) (hmix : P.follows .mixedOrders=true) {w : World} (hb : Orc.base P≤w.heap.size) (hI : Orc.I P w) {f : FuncId} {args : List Value}
  (h : ∀ H,Abs w H→F P f ⟨args.map (absV w.heap.size)⟩ H (fun v _=>v=.bool true)) (r : Option Nat) (n : Nat) : CallsIn (FW r) n P f ⟨args⟩ w (Quiet (.bool true) w):=by
 obtain⟨H,h1,h2⟩:=heap_of w.heap.size (absO w)
 have ha : Abs w H:=⟨h1,h2⟩
 have hno : ∀ i p,absT w i=some p→p.rw=true→False:=by
  intro i p hp hrw
  simp only[absT] at hp
  split at hp
  ·cases hp;cases hrw
  ·cases hp
 have hat : At P (absT w) w:=⟨hb,hI,fun i p hp hrw=>(hno i p hp hrw).elim,fun g hg=>by rw[hgl g] at hg;cases hg⟩
 have har : AR (absT w) ⟨args.map (absV w.heap.size)⟩ ⟨args⟩:=by
  refine⟨by simp,fun i a b hx hy=>?_⟩
  simp only[List.getElem?_toArray] at hx hy
  rw[List.getElem?_map,hy] at hx
  simp at hx
  subst hx
  exact absV_VR w b
 obtain⟨v,H',rfl,hc⟩:=(h H ha).use hmix ha.rel hat har r n
 refine hc.mono ?_
 rintro e w' ⟨v',θ',k1,k2,k3,k4⟩
 cases k4
 exact⟨k1,k2.size,fun b hb=>k2.frame b hb (fun i p hp hrw=>(hno i p hp hrw).elim),k2.os,k2.tape,k2.output⟩
section
variable {H : Type} {enc : TypeId×Value→H} {P : Program} {w : World} {A : Heap}
theorem icell_at {a : Addr} {v : Value} (h : w.cell? a=some v) : ∃ c el fz,w.heap[a.block]?=some (.cells c el fz)∧a.spot=none∧c[a.off]?=some v:=by
 unfold World.cell? at h
 split at h
 ·rename_i c el fz hc
  split at h
  ·cases h
  ·rename_i hs
   exact⟨c,el,fz,hc,by cases hx : a.spot<;>simp_all,h⟩
 ·cases h
theorem arg_ints (hA : Abs w A) {t e : TypeId} {k : IntKind} {v : Value} {d : DataW H} {ps : List MemPlace} (ht : P.underlying t=some (.slice e)) (he : P.underlying e=some (.int k)) (hc : P.cellsOf e=1)
  (hv : ∃ a l c,v=.slice a l c) (h : DataW.Trod enc P w 0 (fun _=>true) true t v d ps) : ∃ l : List Int,Sl A (absV w.heap.size v) (l.map (.int k))∧l.length≤maxLen∧∀ z∈l,(Lit.int k z).wf=true:=by
 obtain⟨a0,n0,c0,rfl⟩:=hv
 obtain⟨fuel,hf⟩:=h
 rcases open_ints ht he hc hf with⟨hcs,_⟩|⟨a,len,cap,zs,hcs,_,hl,hm,hz,_,hcell,hwz⟩
 ·simp[Value.cells] at hcs
  obtain⟨rfl,rfl,rfl⟩:=hcs
  exact⟨[],.nil,Nat.zero_le _,fun z hz=>by cases hz⟩
 ·simp[Value.cells] at hcs
  obtain⟨rfl,rfl,rfl⟩:=hcs
  simp only[if_true] at hz
  by_cases h0 : n0=0
  ·subst h0
   obtain⟨i,o,s⟩:=a
   exact⟨[],by simpa [absV,absC] using Sl.spot _ _ _,Nat.zero_le _,fun z hz=>by cases hz⟩
  ·obtain⟨i,o,s⟩:=a
   obtain⟨c,el,fz,g1,g2,g3⟩:=icell_at (hcell 0 (by omega))
   have e0 : (⟨i,o,s⟩ : Addr).add 0=⟨i,o,s⟩:=by simp[Addr.add]
   rw[e0] at g1 g2 g3
   simp only at g1 g2 g3
   subst g2
   obtain⟨q1,q2⟩:=hA.cells g1
   refine⟨zs.take n0,?_,by simp;omega,fun z hz'=>hwz z (List.mem_of_mem_take hz')⟩
   have hi : i<w.heap.size:=hA.1 ▸ q1
   have e1 : absV w.heap.size (.slice (some ⟨i,o,none⟩) n0 c0)=.slice (some ⟨i,o,none⟩) n0 c0:=by
    simp only[absV,absC]
    rw[if_neg h0,if_pos (by simp[hi,hl])]
   rw[e1]
   have hget : ∀ j,j<zs.length→c[o+j]?=some (.int k (zs.getD j 0)):=by
    intro j hj
    obtain⟨c',el',fz',k1,_,k3⟩:=icell_at (hcell j hj)
    rw[addr_add] at k1 k3
    simp only at k1 k3
    rw[g1] at k1
    cases k1
    exact k3
   refine .at q1 q2 hl (by simp;omega) ?_ ?_
   ·have:=hget (n0-1) (by omega)
    have:=(Array.getElem?_eq_some_iff.1 this).1
    simp;omega
   ·intro j x hx
    rw[List.getElem?_map,List.getElem?_take] at hx
    split at hx
    ·rename_i hj
     have hj' : j<zs.length:=by omega
     rw[Array.getElem?_map,hget j hj']
     simp[List.getElem?_eq_getElem hj',absC] at hx ⊢
     exact hx
    ·simp at hx
theorem stays_all (hl : laidOutB P=true) {W W' : World} {sp : Nat→Bool} : ∀ {ts : List TypeId} {vs : List Value} {ds : List (DataW H)} {ps : List MemPlace},(∀ t∈ts,P.readableRec t=true∧t<P.types.size) →
  DataW.TrodAll enc P W 0 (fun _=>true) true ts vs ds ps→(∀ p∈ps,W.sameAt W' p)→(∀ p∈ps,sp p.block=true)→DataW.TrodAll enc P W' 0 sp true ts vs ds ps
 | [],[],[],ps,_,h,_,_=>h
 | [],[],_::_,_,_,h,_,_=>h.elim
 | [],_::_,_,_,_,h,_,_=>h.elim
 | _::_,[],_,_,_,h,_,_=>h.elim
 | _::_,_::_,[],_,_,h,_,_=>h.elim
 | t::ts,v::vs,d::ds,ps,hr,h,h1,h2=>by
  obtain⟨p,q,ha,hb,rfl⟩:=h
  refine⟨p,q,?_,?_,rfl⟩
  ·exact WideElems.Trod_stays hl (hr t (by simp)).1 (hr t (by simp)).2 ha (fun x hx=>h1 x (by simp[hx])) (fun x hx=>h2 x (by simp[hx]))
  ·exact stays_all hl (fun t ht=>hr t (by simp[ht])) hb (fun x hx=>h1 x (by simp[hx])) (fun x hx=>h2 x (by simp[hx]))
end
end Go.Xe
/- Rules of reasoning over the executable reading of the model's code (part Z10): temporaries by their numbers, of which only some are known. Conditions: none; for every program. -/
namespace Go.Xe
open Go
def full (i : Nat) (t : TT) : Bool:=(t.at i).isSome
theorem gt_at (t : TT) (i : Nat) : gt (pth i) t=(t.at i).getD undef:=by
 rw[← gt_eq];exact getP_F (Nat.le_refl i)
theorem full_st {v : Value} {i j : Nat} {t : TT} : full i (st v (pth j) t)=full i t:=by
 unfold full
 have:=st_F (v:=v) (t:=t) (Nat.le_refl j) i
 rw[pth,this]
 split
 ·rename_i h;obtain⟨rfl,h⟩:=h;simp[h]
 ·rfl
theorem gt_st {v : Value} {i j : Nat} {t : TT} : gt (pth i) (st v (pth j) t)=if i=j then (if full j t=true then v else undef) else gt (pth i) t:=by
 have:=st_F (v:=v) (t:=t) (Nat.le_refl j) i
 rw[gt_at,gt_at,pth,this]
 by_cases h : i=j
 ·subst h
  unfold full
  by_cases k : (t.at i).isSome=true
  ·rw[if_pos ⟨rfl,k⟩,if_pos rfl,if_pos k];rfl
  ·rw[if_neg (fun x=>k x.2),if_pos rfl,if_neg k]
   have : t.at i=none:=by simpa using k
   rw[this];rfl
 ·rw[if_neg (fun x=>h x.1),if_neg h]
abbrev Full (N : Nat) (t : TT) : Prop:=∀ i,full i t=decide (i<N)
theorem Full.st {N j : Nat} {v : Value} {t : TT} (h : Full N t) : Full N (st v (pth j) t):=fun i=>full_st.trans (h i)
theorem Full.mk (N : Nat) : Full N (mkTT N):=fun i=>by
 unfold full
 rw[mkTT_TR N i,Array.getElem?_replicate]
 by_cases h : i<N<;>simp[h]
def Kn : List (Nat×Value)→TT→Prop
 | [],_=>True
 | (i,v)::l,t=>gt (pth i) t=v∧Kn l t
theorem Kn.nil {t : TT} : Kn [] t=True:=rfl
theorem Kn.cons {i : Nat} {v : Value} {l : List (Nat×Value)} {t : TT} : Kn ((i,v)::l) t=(gt (pth i) t=v∧Kn l t):=rfl
section
variable {P : Program} [Gl P] [Orc P] {rnd : Option Nat} {Q : FQ} {K : List FFr} {t : TT} {m : List Nat} {H : Heap} {e : XE}
variable {is : List FI} {d p : Pth} {w : Bool} {fa : FA} {args : List FA} {pre : List Heap} {R : TT→List Heap→Prop} {v : Value} {N : Nat}
theorem V.re (l : List (Nat×Value)) (hF : Full N t) (hA : Kn l t) (h : ∀ t',Full N t'→Kn l t'→V P rnd Q K e t' m H) : V P rnd Q K e t m H:=h t hF hA
theorem VI.re (l : List (Nat×Value)) (hF : Full N t) (hA : Kn l t) (h : ∀ t',Full N t'→Kn l t'→VI P rnd Q K m is t' H) : VI P rnd Q K m is t H:=h t hF hA
theorem VI.callA {g : FuncId} {a b l : List Value} (hf : dA t fa=.func (.func g) ⟨a⟩ ⟨b⟩) (hs : Gives P g l H v) (hl : a++args.map (dA t)++b=l) (k : ∀ H',Grow H H'→VI P rnd Q K m is (st v d t) H') : VI P rnd Q K m (.go (.call fa args) d::is) t H:=by
 subst hl;exact .callG hf hs k
theorem VI.callAT {g : FuncId} {a b l : List Value} (hp : gt p t=.bool w) (hf : dA t fa=.func (.func g) ⟨a⟩ ⟨b⟩) (hs : Gives P g l H v) (hl : a++args.map (dA t)++b=l) (k : ∀ H',Grow H H'→VI P rnd Q K m is (st v d t) H') : VI P rnd Q K m (.gd p w (.call fa args) d::is) t H:=by
 subst hl;exact .callGT hp hf hs k
theorem VI.callR {g : FuncId} {a b l : List Value} {S : Value→Heap→Prop} (hf : dA t fa=.func (.func g) ⟨a⟩ ⟨b⟩) (hs : F P g ⟨l⟩ H S) (hl : a++args.map (dA t)++b=l) (k : ∀ v H',S v H'→VI P rnd Q K m is (st v d t) H') : VI P rnd Q K m (.go (.call fa args) d::is) t H:=by
 subst hl;exact .callF hf hs k
theorem VD.callA {g : FuncId} {a b l : List Value} (hf : dA t fa=.func (.func g) ⟨a⟩ ⟨b⟩) (hs : Gives P g l H v) (hl : a++args.map (dA t)++b=l) (k : ∀ H',Grow H H'→VD P is (st v d t) H' (pre++[H]) R) : VD P (.go (.call fa args) d::is) t H pre R:=by
 subst hl;exact .callG hf hs k
theorem VD.callR {g : FuncId} {a b l : List Value} {S : Value→Heap→Prop} (hf : dA t fa=.func (.func g) ⟨a⟩ ⟨b⟩) (hs : F P g ⟨l⟩ H S) (hl : a++args.map (dA t)++b=l) (k : ∀ v H',S v H'→VD P is (st v d t) H' (pre++[H]) R) : VD P (.go (.call fa args) d::is) t H pre R:=by
 subst hl;exact .callF hf hs k
end
def blk : Value→Option Nat
 | .slice (some a) _ _=>some a.block
 | _=>none
def Sep (v w : Value) : Prop:=∀ i,blk v=some i→blk w≠some i
theorem Sep.symm {v w : Value} (h : Sep v w) : Sep w v:=fun i h1 h2=>h i h2 h1
theorem Ow.lt {H0 H : Heap} {e : TypeId} {v : Value} {l : List Value} (h : Ow H0 H e v l) {i : Nat} (hb : blk v=some i) : i<H.next:=by
 rcases h with⟨rfl,_⟩|⟨j,_,h2,rfl,_⟩
 ·cases hb
 ·cases hb;exact h2
theorem Ow.nil {H0 H : Heap} {e : TypeId} : Ow H0 H e (.slice none 0 0) []:=.inl ⟨rfl,rfl⟩
theorem Ow.length {H0 H : Heap} {e : TypeId} {v : Value} {l : List Value} (h : Ow H0 H e v l) : ylen 0 H v=some (.int .i64 l.length):=h.sl.len
theorem Ow.push {H0 H : Heap} {e : TypeId} {bytes : Nat} {s : Value} {l r : List Value} (g : Grow H0 H) (hs : Ow H0 H e s l) (hok : r.all ok1=true) (hr : r≠[]) (hb : (2*(l.length+r.length)+256)*bytes≤281474976710656) (h2 : l.length+r.length≤281474976710656) :
  ∃ w H',yappend e 1 bytes (H.alloc (.cells ⟨r⟩ e true)) s (.slice (some ⟨H.next,0,none⟩) r.length r.length)=some (w,H')∧Ow H0 H' e w (l++r)∧Grow H0 H'∧Apart H H' s∧blk w=some (H.next+1)∧inBound H'.next 3 w=true∧H.next+1≤H'.next∧H'.cellsAt H.next=some (⟨r⟩,e,true):=by
 have hpos : r.length≠0:=fun h=>hr (List.length_eq_zero_iff.1 h)
 have hcell : (H.alloc (.cells ⟨r⟩ e true)).cellsAt H.next=some (⟨r⟩,e,true):=cells_alloc _ _ _ _
 have hsl : Sl (H.alloc (.cells ⟨r⟩ e true)) (.slice (some ⟨H.next,0,none⟩) r.length r.length) r:=.at (Nat.lt_succ_self _) hcell (Nat.le_refl _) rfl (by simp) (fun k x hx=>by simpa using hx)
 obtain⟨h3,_⟩:=hsl.source hpos
 have e48 : (2 : Nat) ^ 48=281474976710656:=by decide
 have hcond : ((⟨r⟩ : Array Value).toList.all fun y=>y.oneCell' && notTop y)=true:=hok
 have hn1 : (H.alloc (.cells ⟨r⟩ e true)).next=H.next+1:=rfl
 rcases hs with⟨rfl,rfl⟩|⟨i,i1,i2,rfl,i4⟩
 ·refine⟨.slice (some ⟨H.next+1,0,none⟩) r.length r.length,(H.alloc (.cells ⟨r⟩ e true)).alloc (.cells ⟨r⟩ e true),?_,?_,(g.alloc _).alloc _,?_,rfl,?_,?_,?_⟩
  ·simp only[yappend]
   rw[if_neg hpos,h3]
   simp only[]
   rw[e48,if_pos ⟨hcond,by simpa using hb,by simpa using h2⟩]
   simp
  ·exact .inr ⟨H.next+1,Nat.le_succ_of_le g.1,Nat.lt_succ_self _,rfl,cells_alloc (H.alloc (.cells ⟨r⟩ e true)) _ _ _⟩
  ·exact⟨Nat.le_succ_of_le (Nat.le_succ _),fun j hj _=>by rw[Heap.get_alloc,if_neg (by rw[hn1];omega),Heap.get_alloc,if_neg (by omega)]⟩
  ·simp only[inBound,decide_eq_true_eq];exact Nat.lt_succ_self _
  ·exact Nat.le_succ _
  ·rw[cells_alloc_ne _ _ (by rw[hn1];omega)];exact hcell
 ·have hii : (H.alloc (.cells ⟨r⟩ e true)).cellsAt i=some (⟨l⟩,e,true):=by rw[cells_alloc_ne _ _ i2];exact i4
  have hset : ((H.alloc (.cells ⟨r⟩ e true)).set i (lentO 0 (l.length*1) ⟨l⟩ e (H.next+1))).next=H.next+1:=rfl
  refine⟨.slice (some ⟨H.next+1,0,none⟩) (l.length+r.length) (l.length+r.length),((H.alloc (.cells ⟨r⟩ e true)).set i (lentO 0 (l.length*1) ⟨l⟩ e (H.next+1))).alloc (.cells ⟨l++r⟩ e true),?_,?_,((g.alloc _).set i1 _).alloc _,?_,rfl,?_,?_,?_⟩
  ·simp only[yappend]
   rw[if_neg hpos,h3]
   simp only[]
   rw[e48,if_pos ⟨hcond,hb,h2⟩]
   simp only[hii]
   rw[if_pos ⟨trivial,by simp,by simp,by omega⟩,if_neg (by omega),hn1]
   generalize lentO _ _ _ _ _=q
   congr 3
   rw[Nat.mul_one,Nat.zero_add]
   congr 2
   apply Array.toList_inj.1
   simp
  ·refine .inr ⟨H.next+1,Nat.le_succ_of_le g.1,Nat.lt_succ_self _,by simp,?_⟩
   have:=cells_alloc ((H.alloc (.cells ⟨r⟩ e true)).set i (lentO 0 (l.length*1) ⟨l⟩ e (H.next+1))) ⟨l++r⟩ e true
   exact this
  ·refine⟨Nat.le_succ_of_le (Nat.le_succ _),fun j hj hne=>?_⟩
   have hji : j≠i:=fun h=>hne 0 _ _ (by rw[h])
   rw[Heap.get_alloc,if_neg (by rw[hset];omega),Heap.get_set,if_neg hji,Heap.get_alloc,if_neg (by omega)]
  ·simp only[inBound,decide_eq_true_eq];exact Nat.lt_succ_self _
  ·exact Nat.le_succ _
  ·rw[cells_alloc_ne _ _ (by rw[hset];omega),cells_set_ne _ _ (by omega)];exact hcell
end Go.Xe
