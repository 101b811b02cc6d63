/- Rules of reasoning over the executable reading of the model's code (part Z9): the world in which a call begins, read as a heap of objects that nobody writes; arguments. Conditions: none; for every program. -/
import Derived.Test.YtimnlnfpblomnaaZh
import Derived.ChangeSlices
import Derived.WideShapes
import Derived.Carry
import Derived.OpenShut
namespace Go.Xe
open Go Go.RowKit Go.ChangeShapes Go.WideShapes
def absC (n : Nat) : Value→Value
 | .bool b=>.bool b
 | .int k z=>.int k z
 | .string s=>.string s
 | .pointer none=>.pointer none
 | .pointer (some ⟨i,o,none⟩)=>if i<n then .pointer (some ⟨i,o,none⟩) else top
 | .slice none l c=>.slice none l c
 | .slice (some ⟨i,o,s⟩) l c=>if l=0 then .slice (some ⟨i,o,some 0⟩) 0 0 else if s=none∧i<n∧l≤c then .slice (some ⟨i,o,none⟩) l c else top
 | .map none=>.map none
 | .nilFunc=>.nilFunc
 | .nilIface=>.nilIface
 | _=>top
def absV (n : Nat) : Value→Value
 | .agg cs=>.agg (cs.map (absC n))
 | v=>absC n v
def absO (w : World) (i : Nat) : AO:=match w.heap[i]? with
 | some (.cells c el _)=>.cells (c.map (absC w.heap.size)) el false
 | _=>.dead
def absT (w : World) : Th:=fun i=>if i<w.heap.size then some { blk:=i,base:=0,sz:=0,st:=0,rw:=false } else none
theorem absC_VR (w : World) (v : Value) : VR (absT w) (absC w.heap.size v) v:=by
 unfold absC
 split<;>first|exact .bool _|exact .int _ _|exact .string _|exact .pnil|exact .snil _ _|exact .mnil|exact .nilFunc|exact .nilIface|exact .top _|skip
 ·rename_i i o
  split
  ·rename_i h
   have:=VR.ptr (θ:=absT w) (i:=i) (o:=o) (p:={ blk:=i,base:=0,sz:=0,st:=0,rw:=false }) (by simp[absT,h])
   simpa using this
  ·exact .top _
 ·rename_i i o s l c
  split
  ·rename_i h;subst h;exact .sempty _ _ _ _ _
  ·split
   ·rename_i h
    obtain⟨rfl,h2,h3⟩:=h
    have:=VR.slice (θ:=absT w) (i:=i) (o:=o) (n:=l) (c:=c) (c':=c) (p:={ blk:=i,base:=0,sz:=0,st:=0,rw:=false }) (by simp[absT,h2]) h3 (Nat.le_refl _) (fun h=>by cases h)
    simpa using this
   ·exact .top _
theorem absV_VR (w : World) (v : Value) : VR (absT w) (absV w.heap.size v) v:=by
 unfold absV
 split
 ·rename_i cs
  refine .agg (by simp) (fun i a b ha hb=>?_)
  rw[Array.getElem?_map,hb] at ha
  simp at ha
  subst ha
  exact absC_VR w b
 ·exact absC_VR w _
theorem heap_of (n : Nat) (f : Nat→AO) : ∃ H : Heap,H.next=n∧∀ i,H.get i=if i<n then some (f i) else none:=by
 induction n with
 | zero=>exact⟨Heap.empty,rfl,fun i=>by simp[Heap.get,Heap.empty,Tr.get_nil]⟩
 | succ n ih=>
  obtain⟨H,h1,h2⟩:=ih
  refine⟨H.alloc (f n),by rw[Heap.next_alloc,h1],fun i=>?_⟩
  rw[Heap.get_alloc,h1,h2]
  by_cases hi : i=n
  ·subst hi;simp
  ·rw[if_neg hi]
   by_cases hl : i<n
   ·rw[if_pos hl,if_pos (by omega)]
   ·rw[if_neg hl,if_neg (by omega)]
def Abs (w : World) (H : Heap) : Prop:=H.next=w.heap.size∧∀ i,H.get i=if i<w.heap.size then some (absO w i) else none
theorem Abs.cells {w : World} {H : Heap} (h : Abs w H) {i : Nat} {c : Array Value} {el : TypeId} {fz : Nat×Nat} (hc : w.heap[i]?=some (.cells c el fz)) : i<H.next∧H.cellsAt i=some (c.map (absC w.heap.size),el,false):=by
 have hi : i<w.heap.size:=(Array.getElem?_eq_some_iff.1 hc).1
 refine⟨by rw[h.1];exact hi,?_⟩
 unfold Heap.cellsAt
 rw[h.2,if_pos hi]
 simp only[absO,hc]
theorem Abs.rel {P : Program} {w : World} {H : Heap} (h : Abs w H) : Rel P (absT w) H w:=by
 refine⟨fun i o hi ho=>?_,fun i p hp=>?_,_,.ro (fun i p hp=>?_) (fun i c el k hi=>?_)⟩
 ·rw[h.2] at hi
  split at hi
  ·rename_i hlt
   cases hi
   refine⟨{ blk:=i,base:=0,sz:=0,st:=0,rw:=false },by simp[absT,hlt],?_⟩
   unfold absO at ho ⊢
   split
   ·rename_i c el fz hc
    refine⟨c,el,fz,hc,rfl,(fun h=>by cases h),fun k v hv=>?_⟩
    rw[Array.getElem?_map] at hv
    cases hk : c[k]? with
    | none=>rw[hk] at hv;simp at hv
    | some x=>
     rw[hk] at hv
     simp at hv
     subst hv
     exact⟨x,by simpa using hk,absC_VR w x⟩
   ·rename_i hne
    split at ho
    ·rename_i c el fz hc;exact absurd hc (hne _ _ _)
    ·cases ho
  ·cases hi
 ·simp only[absT] at hp
  split at hp
  ·rename_i hlt;cases hp;exact⟨by rw[h.1];exact hlt,hlt⟩
  ·cases hp
 ·simp only[absT] at hp
  split at hp
  ·cases hp;rfl
  ·cases hp
 ·rw[h.2] at hi
  split at hi
  ·unfold absO at hi
   split at hi<;>cases hi
  ·cases hi
theorem frame {P : Program} [Gl P] [Orc P] (hgl : ∀ g,Gl.G P g=false) (hmix : P.follows .mixedOrders=true) {w : World} (hb : Orc.base P≤w.heap.size) (hI : Orc.I P w) {f : FuncId} {args : List Value}
  (h : ∀ H,Abs w H→F P f ⟨args.map (absV w.heap.size)⟩ H (fun v _=>v=.bool true)) (r : Option Nat) (n : Nat) : CallsIn (FW r) n P f ⟨args⟩ w (Quiet (.bool true) w):=by
 obtain⟨H,h1,h2⟩:=heap_of w.heap.size (absO w)
 have ha : Abs w H:=⟨h1,h2⟩
 have hno : ∀ i p,absT w i=some p→p.rw=true→False:=by
  intro i p hp hrw
  simp only[absT] at hp
  split at hp
  ·cases hp;cases hrw
  ·cases hp
 have hat : At P (absT w) w:=⟨hb,hI,fun i p hp hrw=>(hno i p hp hrw).elim,fun g hg=>by rw[hgl g] at hg;cases hg⟩
 have har : AR (absT w) ⟨args.map (absV w.heap.size)⟩ ⟨args⟩:=by
  refine⟨by simp,fun i a b hx hy=>?_⟩
  simp only[List.getElem?_toArray] at hx hy
  rw[List.getElem?_map,hy] at hx
  simp at hx
  subst hx
  exact absV_VR w b
 obtain⟨v,H',rfl,hc⟩:=(h H ha).use hmix ha.rel hat har r n
 refine hc.mono ?_
 rintro e w' ⟨v',θ',k1,k2,k3,k4⟩
 cases k4
 exact⟨k1,k2.size,fun b hb=>k2.frame b hb (fun i p hp hrw=>(hno i p hp hrw).elim),k2.os,k2.tape,k2.output⟩
section
variable {H : Type} {enc : TypeId×Value→H} {P : Program} {w : World} {A : Heap}
theorem icell_at {a : Addr} {v : Value} (h : w.cell? a=some v) : ∃ c el fz,w.heap[a.block]?=some (.cells c el fz)∧a.spot=none∧c[a.off]?=some v:=by
 unfold World.cell? at h
 split at h
 ·rename_i c el fz hc
  split at h
  ·cases h
  ·rename_i hs
   exact⟨c,el,fz,hc,by cases hx : a.spot<;>simp_all,h⟩
 ·cases h
theorem stays_all (hl : laidOutB P=true) {W W' : World} {sp : Nat→Bool} : ∀ {ts : List TypeId} {vs : List Value} {ds : List (DataW H)} {ps : List MemPlace},(∀ t∈ts,P.readableRec t=true∧t<P.types.size) →
  DataW.TrodAll enc P W 0 (fun _=>true) true ts vs ds ps→(∀ p∈ps,W.sameAt W' p)→(∀ p∈ps,sp p.block=true)→DataW.TrodAll enc P W' 0 sp true ts vs ds ps
 | [],[],[],ps,_,h,_,_=>h
 | [],[],_::_,_,_,h,_,_=>h.elim
 | [],_::_,_,_,_,h,_,_=>h.elim
 | _::_,[],_,_,_,h,_,_=>h.elim
 | _::_,_::_,[],_,_,h,_,_=>h.elim
 | t::ts,v::vs,d::ds,ps,hr,h,h1,h2=>by
  obtain⟨p,q,ha,hb,rfl⟩:=h
  refine⟨p,q,?_,?_,rfl⟩
  ·exact WideElems.Trod_stays hl (hr t (by simp)).1 (hr t (by simp)).2 ha (fun x hx=>h1 x (by simp[hx])) (fun x hx=>h2 x (by simp[hx]))
  ·exact stays_all hl (fun t ht=>hr t (by simp[ht])) hb (fun x hx=>h1 x (by simp[hx])) (fun x hx=>h2 x (by simp[hx]))
end
end Go.Xe
/- Rules of reasoning over the executable reading of the model's code (part Z10): temporaries by their numbers, of which only some are known. Conditions: none; for every program. -/
namespace Go.Xe
open Go
def full (i : Nat) (t : TT) : Bool:=(t.at i).isSome
theorem gt_at (t : TT) (i : Nat) : gt (pth i) t=(t.at i).getD undef:=by
 rw[← gt_eq];exact getP_F (Nat.le_refl i)
theorem full_st {v : Value} {i j : Nat} {t : TT} : full i (st v (pth j) t)=full i t:=by
 unfold full
 have:=st_F (v:=v) (t:=t) (Nat.le_refl j) i
 rw[pth,this]
 split
 ·rename_i h;obtain⟨rfl,h⟩:=h;simp[h]
 ·rfl
theorem gt_st {v : Value} {i j : Nat} {t : TT} : gt (pth i) (st v (pth j) t)=if i=j then (if full j t=true then v else undef) else gt (pth i) t:=by
 have:=st_F (v:=v) (t:=t) (Nat.le_refl j) i
 rw[gt_at,gt_at,pth,this]
 by_cases h : i=j
 ·subst h
  unfold full
  by_cases k : (t.at i).isSome=true
  ·rw[if_pos ⟨rfl,k⟩,if_pos rfl,if_pos k];rfl
  ·rw[if_neg (fun x=>k x.2),if_pos rfl,if_neg k]
   have : t.at i=none:=by simpa using k
   rw[this];rfl
 ·rw[if_neg (fun x=>h x.1),if_neg h]
abbrev Full (N : Nat) (t : TT) : Prop:=∀ i,full i t=decide (i<N)
theorem Full.st {N j : Nat} {v : Value} {t : TT} (h : Full N t) : Full N (st v (pth j) t):=fun i=>full_st.trans (h i)
theorem Full.mk (N : Nat) : Full N (mkTT N):=fun i=>by
 unfold full
 rw[mkTT_TR N i,Array.getElem?_replicate]
 by_cases h : i<N<;>simp[h]
def Kn : List (Nat×Value)→TT→Prop
 | [],_=>True
 | (i,v)::l,t=>gt (pth i) t=v∧Kn l t
theorem Kn.nil {t : TT} : Kn [] t=True:=rfl
theorem Kn.cons {i : Nat} {v : Value} {l : List (Nat×Value)} {t : TT} : Kn ((i,v)::l) t=(gt (pth i) t=v∧Kn l t):=rfl
section
variable {P : Program} [Gl P] [Orc P] {rnd : Option Nat} {Q : FQ} {K : List FFr} {t : TT} {m : List Nat} {H : Heap} {e : XE}
variable {is : List FI} {d p : Pth} {w : Bool} {fa : FA} {args : List FA} {pre : List Heap} {R : TT→List Heap→Prop} {v : Value} {N : Nat}
theorem V.re (l : List (Nat×Value)) (hF : Full N t) (hA : Kn l t) (h : ∀ t',Full N t'→Kn l t'→V P rnd Q K e t' m H) : V P rnd Q K e t m H:=h t hF hA
theorem VI.re (l : List (Nat×Value)) (hF : Full N t) (hA : Kn l t) (h : ∀ t',Full N t'→Kn l t'→VI P rnd Q K m is t' H) : VI P rnd Q K m is t H:=h t hF hA
theorem VI.callA {g : FuncId} {a b l : List Value} (hf : dA t fa=.func (.func g) ⟨a⟩ ⟨b⟩) (hs : Gives P g l H v) (hl : a++args.map (dA t)++b=l) (k : ∀ H',Grow H H'→VI P rnd Q K m is (st v d t) H') : VI P rnd Q K m (.go (.call fa args) d::is) t H:=by
 subst hl;exact .callG hf hs k
theorem VI.callAT {g : FuncId} {a b l : List Value} (hp : gt p t=.bool w) (hf : dA t fa=.func (.func g) ⟨a⟩ ⟨b⟩) (hs : Gives P g l H v) (hl : a++args.map (dA t)++b=l) (k : ∀ H',Grow H H'→VI P rnd Q K m is (st v d t) H') : VI P rnd Q K m (.gd p w (.call fa args) d::is) t H:=by
 subst hl;exact .callGT hp hf hs k
theorem VI.callR {g : FuncId} {a b l : List Value} {S : Value→Heap→Prop} (hf : dA t fa=.func (.func g) ⟨a⟩ ⟨b⟩) (hs : F P g ⟨l⟩ H S) (hl : a++args.map (dA t)++b=l) (k : ∀ v H',S v H'→VI P rnd Q K m is (st v d t) H') : VI P rnd Q K m (.go (.call fa args) d::is) t H:=by
 subst hl;exact .callF hf hs k
theorem VD.callA {g : FuncId} {a b l : List Value} (hf : dA t fa=.func (.func g) ⟨a⟩ ⟨b⟩) (hs : Gives P g l H v) (hl : a++args.map (dA t)++b=l) (k : ∀ H',Grow H H'→VD P is (st v d t) H' (pre++[H]) R) : VD P (.go (.call fa args) d::is) t H pre R:=by
 subst hl;exact .callG hf hs k
theorem VD.callR {g : FuncId} {a b l : List Value} {S : Value→Heap→Prop} (hf : dA t fa=.func (.func g) ⟨a⟩ ⟨b⟩) (hs : F P g ⟨l⟩ H S) (hl : a++args.map (dA t)++b=l) (k : ∀ v H',S v H'→VD P is (st v d t) H' (pre++[H]) R) : VD P (.go (.call fa args) d::is) t H pre R:=by
 subst hl;exact .callF hf hs k
end
def blk : Value→Option Nat
 | .slice (some a) _ _=>some a.block
 | _=>none
def Sep (v w : Value) : Prop:=∀ i,blk v=some i→blk w≠some i
theorem Sep.symm {v w : Value} (h : Sep v w) : Sep w v:=fun i h1 h2=>h i h2 h1
theorem Ow.lt {H0 H : Heap} {e : TypeId} {v : Value} {l : List Value} (h : Ow H0 H e v l) {i : Nat} (hb : blk v=some i) : i<H.next:=by
 rcases h with⟨rfl,_⟩|⟨j,_,h2,rfl,_⟩
 ·cases hb
 ·cases hb;exact h2
theorem Ow.nil {H0 H : Heap} {e : TypeId} : Ow H0 H e (.slice none 0 0) []:=.inl ⟨rfl,rfl⟩
theorem Ow.length {H0 H : Heap} {e : TypeId} {v : Value} {l : List Value} (h : Ow H0 H e v l) : ylen 0 H v=some (.int .i64 l.length):=h.sl.len
theorem Ow.push {H0 H : Heap} {e : TypeId} {bytes : Nat} {s : Value} {l r : List Value} (g : Grow H0 H) (hs : Ow H0 H e s l) (hok : r.all ok1=true) (hr : r≠[]) (hb : (2*(l.length+r.length)+256)*bytes≤281474976710656) (h2 : l.length+r.length≤281474976710656) :
  ∃ w H',yappend e 1 bytes (H.alloc (.cells ⟨r⟩ e true)) s (.slice (some ⟨H.next,0,none⟩) r.length r.length)=some (w,H')∧Ow H0 H' e w (l++r)∧Grow H0 H'∧Apart H H' s∧blk w=some (H.next+1)∧inBound H'.next 3 w=true∧H.next+1≤H'.next∧H'.cellsAt H.next=some (⟨r⟩,e,true):=by
 have hpos : r.length≠0:=fun h=>hr (List.length_eq_zero_iff.1 h)
 have hcell : (H.alloc (.cells ⟨r⟩ e true)).cellsAt H.next=some (⟨r⟩,e,true):=cells_alloc _ _ _ _
 have hsl : Sl (H.alloc (.cells ⟨r⟩ e true)) (.slice (some ⟨H.next,0,none⟩) r.length r.length) r:=.at (Nat.lt_succ_self _) hcell (Nat.le_refl _) rfl (by simp) (fun k x hx=>by simpa using hx)
 obtain⟨h3,_⟩:=hsl.source hpos
 have e48 : (2 : Nat) ^ 48=281474976710656:=by decide
 have hcond : ((⟨r⟩ : Array Value).toList.all fun y=>y.oneCell' && notTop y)=true:=hok
 have hn1 : (H.alloc (.cells ⟨r⟩ e true)).next=H.next+1:=rfl
 rcases hs with⟨rfl,rfl⟩|⟨i,i1,i2,rfl,i4⟩
 ·refine⟨.slice (some ⟨H.next+1,0,none⟩) r.length r.length,(H.alloc (.cells ⟨r⟩ e true)).alloc (.cells ⟨r⟩ e true),?_,?_,(g.alloc _).alloc _,?_,rfl,?_,?_,?_⟩
  ·simp only[yappend]
   rw[if_neg hpos,h3]
   simp only[]
   rw[e48,if_pos ⟨hcond,by simpa using hb,by simpa using h2⟩]
   simp
  ·exact .inr ⟨H.next+1,Nat.le_succ_of_le g.1,Nat.lt_succ_self _,rfl,cells_alloc (H.alloc (.cells ⟨r⟩ e true)) _ _ _⟩
  ·exact⟨Nat.le_succ_of_le (Nat.le_succ _),fun j hj _=>by rw[Heap.get_alloc,if_neg (by rw[hn1];omega),Heap.get_alloc,if_neg (by omega)]⟩
  ·simp only[inBound,decide_eq_true_eq];exact Nat.lt_succ_self _
  ·exact Nat.le_succ _
  ·rw[cells_alloc_ne _ _ (by rw[hn1];omega)];exact hcell
 ·have hii : (H.alloc (.cells ⟨r⟩ e true)).cellsAt i=some (⟨l⟩,e,true):=by rw[cells_alloc_ne _ _ i2];exact i4
  have hset : ((H.alloc (.cells ⟨r⟩ e true)).set i (lentO 0 (l.length*1) ⟨l⟩ e (H.next+1))).next=H.next+1:=rfl
  refine⟨.slice (some ⟨H.next+1,0,none⟩) (l.length+r.length) (l.length+r.length),((H.alloc (.cells ⟨r⟩ e true)).set i (lentO 0 (l.length*1) ⟨l⟩ e (H.next+1))).alloc (.cells ⟨l++r⟩ e true),?_,?_,((g.alloc _).set i1 _).alloc _,?_,rfl,?_,?_,?_⟩
  ·simp only[yappend]
   rw[if_neg hpos,h3]
   simp only[]
   rw[e48,if_pos ⟨hcond,hb,h2⟩]
   simp only[hii]
   rw[if_pos ⟨trivial,by simp,by simp,by omega⟩,if_neg (by omega),hn1]
   generalize lentO _ _ _ _ _=q
   congr 3
   rw[Nat.mul_one,Nat.zero_add]
   congr 2
   apply Array.toList_inj.1
   simp
  ·refine .inr ⟨H.next+1,Nat.le_succ_of_le g.1,Nat.lt_succ_self _,by simp,?_⟩
   have:=cells_alloc ((H.alloc (.cells ⟨r⟩ e true)).set i (lentO 0 (l.length*1) ⟨l⟩ e (H.next+1))) ⟨l++r⟩ e true
   exact this
  ·refine⟨Nat.le_succ_of_le (Nat.le_succ _),fun j hj hne=>?_⟩
   have hji : j≠i:=fun h=>hne 0 _ _ (by rw[h])
   rw[Heap.get_alloc,if_neg (by rw[hset];omega),Heap.get_set,if_neg hji,Heap.get_alloc,if_neg (by omega)]
  ·simp only[inBound,decide_eq_true_eq];exact Nat.lt_succ_self _
  ·exact Nat.le_succ _
  ·rw[cells_alloc_ne _ _ (by rw[hset];omega),cells_set_ne _ _ (by omega)];exact hcell
end Go.Xe
/- Rules of reasoning over the executable reading of the model's code (part Z11): slices of rows of cells, and arguments of any shape. Conditions: none; for every program. -/
namespace Go.Xe
open Go Go.RowKit Go.ChangeShapes Go.WideShapes
inductive SlN (H : Heap) (es : Nat) : Value→List (List Value)→Prop
 | nil : SlN H es (.slice none 0 0) []
 | spot (i o s : Nat) : SlN H es (.slice (some ⟨i,o,some s⟩) 0 0) []
 | at {i o n c : Nat} {a : Array Value} {el : TypeId} {rw : Bool} {l : List (List Value)} (hi : i<H.next) (hc : H.cellsAt i=some (a,el,rw)) (hn : n≤c) (hl : l.length=n) (hs : o+n*es≤a.size)
   (hv : ∀ k r,l[k]?=some r→r.length=es∧∀ j x,r[j]?=some x→a[o+k*es+j]?=some x) : SlN H es (.slice (some ⟨i,o,none⟩) n c) l
theorem SlN.grow {A B : Heap} (g : Grow A B) {es : Nat} {v : Value} {l : List (List Value)} (h : SlN A es v l) : SlN B es v l:=by
 cases h with
 | nil=>exact .nil
 | spot i o s=>exact .spot i o s
 | «at» hi hc hn hl hs hv=>exact .at (Nat.lt_of_lt_of_le hi g.1) ((g.cells hi).trans hc) hn hl hs hv
theorem SlN.len {H : Heap} {es : Nat} {v : Value} {l : List (List Value)} (h : SlN H es v l) : ylen 0 H v=some (.int .i64 l.length):=by
 cases h with
 | nil=>rfl
 | spot=>rfl
 | «at» _ _ _ hl=>rw[hl];rfl
theorem SlN.one {H : Heap} {v : Value} {l : List Value} (h : SlN H 1 v (l.map fun x=>[x])) : Sl H v l:=by
 generalize he : l.map (fun x=>[x])=r at h
 cases h with
 | nil=>rw[List.map_eq_nil_iff.1 he];exact .nil
 | spot i o s=>rw[List.map_eq_nil_iff.1 he];exact .spot i o s
 | «at» hi hc hn hl hs hv=>
  subst he
  refine .at hi hc hn (by simpa using hl) (by simpa using hs) (fun k x hx=>?_)
  have:=(hv k [x] (by rw[List.getElem?_map,hx];rfl)).2 0 x rfl
  simpa using this
theorem SlN.get {H : Heap} {es : Nat} {v : Value} {l : List (List Value)} (h : SlN H es v l) {k : Nat} {r : List Value} (hx : l[k]?=some r) :
  ∃ i o,(∀ kd,yindexAddr none es v (.int kd k)=some (.pointer (some ⟨i,o,none⟩)))∧(∀ H',Grow H H'→es≠0→yloadN es H' (.pointer (some ⟨i,o,none⟩))=some (.agg ⟨r⟩)) ∧
   (∀ H',Grow H H'→∀ j x,r[j]?=some x→yload1 H' (.pointer (some ⟨i,o+j,none⟩))=some x):=by
 cases h with
 | nil=>simp at hx
 | spot=>simp at hx
 | «at» hi hc hn hl hs hv=>
  rename_i i o n c a el rw
  have hk : k<n:=by
   have:=(List.getElem?_eq_some_iff.1 hx).1
   omega
  obtain⟨h1,h2⟩:=hv k r hx
  have hle : k*es+es≤n*es:=by
   have:=Nat.mul_le_mul_right es (show k+1≤n by omega)
   rw[Nat.add_mul,Nat.one_mul] at this
   exact this
  refine⟨i,o+k*es,fun kd=>?_,fun H' g he=>?_,fun H' g j x hj=>?_⟩
  ·simp only[yindexAddr]
   rw[if_pos ⟨by omega,by omega⟩]
   simp
  ·simp only[yloadN]
   rw[(g.cells hi).trans hc]
   simp only
   rw[if_pos ⟨by omega,he⟩]
   congr 2
   apply Array.toList_inj.1
   apply List.ext_getElem?
   intro j
   have e1 : (a.extract (o+k*es) (o+k*es+es)).toList[j]?=if j<es then a[o+k*es+j]? else none:=by
    rw[Array.getElem?_toList,Array.getElem?_extract]
    by_cases hj : j<es
    ·rw[if_pos (by omega),if_pos hj]
    ·rw[if_neg (by omega),if_neg hj]
   rw[e1]
   by_cases hj : j<es
   ·rw[if_pos hj]
    have e2 : r[j]?=some r[j]:=by simp[h1,hj]
    rw[h2 j _ e2]
    exact e2.symm
   ·rw[if_neg hj]
    simp;omega
  ·simp only[yload1]
   rw[(g.cells hi).trans hc]
   exact h2 j x hj
inductive Sh where
 | int (k : IntKind)|bool|str|unit|pair (a b : Sh)|slice (es : Nat) (s : Sh)
@[reducible] def Ty : Sh→Type
 | .int _=>Int
 | .bool=>Bool
 | .str=>ByteArray
 | .unit=>Unit
 | .pair a b=>Ty a×Ty b
 | .slice _ s=>List (Ty s)
def Sem (H : Heap) : (s : Sh)→List Value→Ty s→Prop
 | .int k,cs,n=>cs=[.int k n]∧(Lit.int k n).wf=true
 | .bool,cs,b=>cs=[.bool b]
 | .str,cs,s=>cs=[.string s]∧s.size≤maxLen
 | .unit,cs,_=>cs=[]
 | .pair a b,cs,x=>∃ c1 c2,cs=c1++c2∧Sem H a c1 x.1∧Sem H b c2 x.2
 | .slice es s,cs,(l : List (Ty s))=>∃ (v : Value) (rows : List (List Value)),cs=[v]∧SlN H es v rows∧rows.length=l.length∧l.length≤maxLen∧∀ (k : Nat) (r : List Value) (x : Ty s),rows[k]?=some r→l[k]?=some x→Sem H s r x
def fieldsSh (P : Program) (f : TypeId→Option Sh) (tot : Nat) : List Field→Nat→Option Sh
 | [],off=>if off=tot then some .unit else none
 | g::gs,off=>if g.offset=off then match f g.type,fieldsSh P f tot gs (off+P.cellsOf g.type) with
   | some a,some b=>some (.pair a b)
   | _,_=>none
  else none
def shOf (P : Program) : Nat→TypeId→Option Sh
 | 0,_=>none
 | n+1,t=>match P.underlying t with
  | some (.int k)=>some (.int k)
  | some .bool=>some .bool
  | some .string=>some .str
  | some (.slice e)=>if P.cellsOf e=0 then none else (shOf P n e).map (.slice (P.cellsOf e))
  | some (.struct fs)=>fieldsSh P (shOf P n) (P.cellsOf t) fs.toList 0
  | _=>none
theorem list_of {α : Type} {p : Nat→α→Prop} : ∀ (n : Nat),(∀ i,i<n→∃ x,p i x)→∃ l : List α,l.length=n∧∀ i x,l[i]?=some x→p i x
 | 0,_=>⟨[],rfl,fun i x h=>by simp at h⟩
 | n+1,h=>by
  obtain⟨l,h1,h2⟩:=list_of n (fun i hi=>h i (by omega))
  obtain⟨x,hx⟩:=h n (by omega)
  refine⟨l++[x],by simp[h1],fun i y hy=>?_⟩
  rw[List.getElem?_append] at hy
  split at hy
  ·exact h2 i y hy
  ·rename_i hi
   have : i=n:=by
    have:=(List.getElem?_eq_some_iff.1 hy).1
    simp at this;omega
   subst this
   rw[h1,Nat.sub_self] at hy
   cases hy
   exact hx
section
variable {H : Type} {enc : TypeId×Value→H} {P : Program} {w : World} {A : Heap}
theorem cells_get {a : Addr} {n : Nat} {l : List Value} (h : w.cells? 0 a n=some l) : l.length=n∧∀ j,j<n→w.cell? (a.add j)=l[j]?:=by
 unfold World.cells? at h
 rw[if_pos (Nat.zero_le _)] at h
 exact⟨by simpa using mapM_some_length h,fun j hj=>mapM_some_get h j j (by simp[hj])⟩
theorem arg_fields {f : TypeId→Option Sh} {m : Nat} (ih : ∀ t s,f t=some s→∀ cs (x : DataW H×List MemPlace),DataW.trod enc P w 0 (fun _=>true) true m t cs=some x→∃ y : Ty s,Sem A s (cs.map (absC w.heap.size)) y) {cs : List Value} {tot : Nat} (hl : cs.length=tot) :
  ∀ (gs : List Field) (off : Nat) (s : Sh),fieldsSh P f tot gs off=some s→(∀ g∈gs,∃ x,DataW.trod enc P w 0 (fun _=>true) true m g.type ((cs.drop g.offset).take (P.cellsOf g.type))=some x)→∃ y : Ty s,Sem A s ((cs.drop off).map (absC w.heap.size)) y
 | [],off,s,h,_=>by
  simp only[fieldsSh] at h
  split at h
  ·rename_i e
   cases h
   exact⟨(),by rw[List.drop_eq_nil_of_le (by omega)];rfl⟩
  ·cases h
 | g::gs,off,s,h,hx=>by
  simp only[fieldsSh] at h
  split at h
  ·rename_i e
   split at h
   ·rename_i a b ha hb
    cases h
    obtain⟨x,hx1⟩:=hx g (by simp)
    obtain⟨y1,h1⟩:=ih _ _ ha _ _ hx1
    obtain⟨y2,h2⟩:=arg_fields ih hl gs _ b hb (fun g' hg=>hx g' (by simp[hg]))
    refine⟨(y1,y2),_,_,?_,h1,h2⟩
    have e2 : cs.drop off=(cs.drop off).take (P.cellsOf g.type)++cs.drop (off+P.cellsOf g.type):=by rw[← List.drop_drop];exact (List.take_append_drop _ _).symm
    rw[e,← List.map_append,← e2]
   ·cases h
  ·cases h
theorem arg_any (hA : Abs w A) : ∀ (m : Nat) (t : TypeId) (s : Sh),shOf P m t=some s→∀ (fuel : Nat) (cs : List Value) (x : DataW H×List MemPlace),DataW.trod enc P w 0 (fun _=>true) true fuel t cs=some x→∃ y : Ty s,Sem A s (cs.map (absC w.heap.size)) y
 | 0,t,s,h,_,_,_,_=>by simp[shOf] at h
 | m+1,t,s,h,fuel,cs,x,hx=>by
  unfold shOf at h
  split at h
  ·rename_i k hu
   cases h
   obtain⟨n,rfl,_,hw⟩:=DataW.trod_int hu hx
   exact⟨n,rfl,hw⟩
  ·rename_i hu
   cases h
   obtain⟨b,rfl,_⟩:=DataW.trod_bool hu hx
   exact⟨b,by simp only[List.map_cons,List.map_nil,absC];rfl⟩
  ·rename_i hu
   cases h
   obtain⟨b,rfl,_,hb⟩:=DataW.trod_string hu hx
   exact⟨b,by simp only[List.map_cons,List.map_nil,absC],hb⟩
  ·rename_i e hu
   split at h
   ·cases h
   ·rename_i hes
    cases hse : shOf P m e with
    | none=>rw[hse] at h;cases h
    | some se=>
     rw[hse] at h
     cases h
     rcases DataW.trod_slice hu hx with⟨rfl,_⟩|⟨a,len,cap,elems,rest,n,_,rfl,_,_,hlc,hcm,hel,hget,_,_⟩
     ·exact⟨[],.slice none 0 0,[],rfl,.nil,rfl,Nat.zero_le _,fun k r x hr=>by simp at hr⟩
     ·have each : ∀ i,i<len→∃ q : List Value×Ty se,w.cells? 0 (a.add (i*P.cellsOf e)) (P.cellsOf e)=some q.1∧Sem A se (q.1.map (absC w.heap.size)) q.2:=by
       intro i hi
       have h1:=hget i hi
       have h2 : elems[i]?=some elems[i]:=by simp[hel,hi]
       rw[h2,Option.bind_eq_some_iff] at h1
       obtain⟨c,hc1,hc2⟩:=h1
       obtain⟨y,hy⟩:=arg_any hA m e se hse n c _ hc2
       exact⟨(c,y),hc1,hy⟩
      obtain⟨L,hL1,hL2⟩:=list_of len each
      by_cases h0 : len=0
      ·subst h0
       obtain⟨i,o,sp⟩:=a
       exact⟨[],.slice (some ⟨i,o,some 0⟩) 0 0,[],by simp[absC],.spot _ _ _,rfl,Nat.zero_le _,fun k r x hr=>by simp at hr⟩
      ·obtain⟨i,o,sp⟩:=a
       have hsp : sp=none:=by
        obtain⟨q0,hq0⟩ : ∃ q,L[0]?=some q:=⟨L[0]'(by omega),by simp⟩
        obtain⟨g1,g2⟩:=cells_get (hL2 0 q0 hq0).1
        have h3:=g2 0 (by omega)
        have h4 : q0.1[0]?=some (q0.1[0]'(by omega)):=by simp
        rw[h4] at h3
        obtain⟨_,_,_,_,k2,_⟩:=icell_at h3
        simpa [Addr.add] using k2
       subst hsp
       have row : ∀ (k : Nat) (q : List Value×Ty se),L[k]?=some q→q.1.length=P.cellsOf e∧∀ j,j<P.cellsOf e→∃ c el fz,w.heap[i]?=some (.cells c el fz)∧c[o+k*P.cellsOf e+j]?=q.1[j]?:=by
        intro k q hq
        obtain⟨g1,g2⟩:=cells_get (hL2 k q hq).1
        refine⟨g1,fun j hj=>?_⟩
        have h3:=g2 j hj
        have h4 : q.1[j]?=some q.1[j]:=by simp[g1,hj]
        rw[h4] at h3
        obtain⟨c,el,fz,k1,k2,k3⟩:=icell_at h3
        rw[addr_add,addr_add] at k1 k3
        exact⟨c,el,fz,k1,by rw[h4];exact k3⟩
       have l0 : L[0]?=some (L[0]'(by omega)):=by simp
       obtain⟨c,el,fz,k1,_⟩:=(row 0 _ l0).2 0 (by omega)
       obtain⟨q1,q2⟩:=hA.cells k1
       have hi : i<w.heap.size:=hA.1 ▸ q1
       refine⟨L.map (·.2),.slice (some ⟨i,o,none⟩) len cap,L.map (fun q=>q.1.map (absC w.heap.size)),?_,?_,by simp,by simp[hL1];omega,?_⟩
       ·simp only[List.map_cons,List.map_nil,absC]
        rw[if_neg h0,if_pos ⟨trivial,hi,hlc⟩]
       ·refine .at q1 q2 hlc (by simp[hL1]) ?_ ?_
        ·have hl : L[len-1]?=some (L[len-1]'(by omega)):=by simp
         obtain⟨g1,g2⟩:=row _ _ hl
         obtain⟨c',el',fz',k1',k3⟩:=g2 (P.cellsOf e-1) (by omega)
         rw[k1] at k1'
         cases k1'
         have h5 : (L[len-1]'(by omega)).1[P.cellsOf e-1]?=some ((L[len-1]'(by omega)).1[P.cellsOf e-1]'(by omega)):=by simp
         rw[h5] at k3
         have:=(Array.getElem?_eq_some_iff.1 k3).1
         have h6 : (len-1)*P.cellsOf e+P.cellsOf e=len*P.cellsOf e:=by
          obtain⟨z,rfl⟩ : ∃ z,len=z+1:=⟨len-1,by omega⟩
          rw[Nat.add_sub_cancel,Nat.add_mul,Nat.one_mul]
         rw[Array.size_map]
         omega
        ·intro k r hr
         rw[List.getElem?_map] at hr
         cases hq : L[k]? with
         | none=>rw[hq] at hr;cases hr
         | some q=>
          rw[hq] at hr
          cases hr
          obtain⟨g1,g2⟩:=row k q hq
          refine⟨by rw[List.length_map,g1],fun j y hy=>?_⟩
          have hj : j<P.cellsOf e:=by
           have:=(List.getElem?_eq_some_iff.1 hy).1
           rw[List.length_map,g1] at this
           exact this
          obtain⟨c',el',fz',k1',k3⟩:=g2 j hj
          rw[k1] at k1'
          cases k1'
          rw[Array.getElem?_map,k3,← List.getElem?_map]
          exact hy
       ·intro k r y hr hy
        rw[List.getElem?_map] at hr hy
        cases hq : L[k]? with
        | none=>rw[hq] at hr;cases hr
        | some q=>
         rw[hq] at hr hy
         cases hr;cases hy
         exact (hL2 k q hq).2
  ·rename_i fs hu
   obtain⟨xs,n,_,_,hl,hxl,hf⟩:=DataW.trod_struct hu hx
   have:=arg_fields (f:=shOf P m) (m:=n) (A:=A) (fun t s ht cs x hx=>arg_any hA m t s ht n cs x hx) hl fs.toList 0 s h (fun g hg=>by
    obtain⟨i,hi⟩:=List.getElem?_of_mem hg
    have hi' : fs[i]?=some g:=by simpa using hi
    have:=hf i g hi'
    have hlt : i<xs.length:=by
     have:=(List.getElem?_eq_some_iff.1 hi).1
     rw[hxl];simpa using this
    exact⟨xs[i],this.trans (by simp)⟩)
   simpa using this
  ·cases h
theorem arg_agg (hA : Abs w A) {t : TypeId} {s : Sh} (m : Nat) (hs : shOf P m t=some s) {cs : Array Value} {d : DataW H} {ps : List MemPlace} (h : DataW.Trod enc P w 0 (fun _=>true) true t (.agg cs) d ps) :
  ∃ l y,absV w.heap.size (.agg cs)=.agg ⟨l⟩∧Sem A s l y:=by
 obtain⟨fuel,hf⟩:=h
 obtain⟨y,hy⟩:=arg_any hA m t s hs fuel _ _ hf
 refine⟨_,y,?_,hy⟩
 simp only[absV]
 congr 1
 apply Array.toList_inj.1
 simp[Value.cells]
end
end Go.Xe
/- Rules of reasoning over the executable reading of the model's code (part Z12): the equations of one step, as one. Conditions: none; for every program. -/
namespace Go.Xe
open Go
theorem D1 : type_of% (And.intro @ypick_b<|And.intro @Option.map_some.{0,0}<|And.intro @Option.map_none.{0,0}<|And.intro @bin_add<|And.intro @bin_sub<|And.intro @bin_mul<|And.intro @bin_quo<|And.intro @bin_rem<|And.intro @bin_eql<|And.intro @bin_neq<|And.intro @bin_lss<|And.intro @bin_leq<|And.intro @bin_gtr<|And.intro @bin_geq<|And.intro @un_not<|And.intro @un_neg<|And.intro @ex_tup<|And.intro @yconv_int<|And.intro @List.getElem?_cons_zero.{0}<|And.intro @List.getElem?_cons_succ.{0}<|And.intro @List.map_cons.{0,0}<|And.intro @List.map_nil.{0,0}<|And.intro @List.getElem?_toArray.{0}<|And.intro @if_true.{1}<|And.intro @if_false.{1}<|And.intro @Bool.false_eq_true<|And.intro @Bool.true_eq_false<|And.intro @Bool.not_true<|And.intro @Bool.not_false<|And.intro @decide_true<|And.intro @decide_false<|And.intro @wrap_i64<|And.intro @ite_self.{1}<|And.intro @List.take_succ_cons.{0}<|And.intro @List.take_zero.{0}<|And.intro @Int.ofNat_eq_natCast<|And.intro @Int.cast_ofNat_Int<|And.intro @yfill_cons<|And.intro @yfill_nil<|And.intro @yfV_int<|And.intro @yfV_bool<|And.intro @yfV_string<|And.intro @yfV_slice<|And.intro @yfV_ptr<|And.intro @yfV_map<|And.intro @yfV_func<|And.intro @yfV_agg<|And.intro @ystE<|And.intro @ystC_int<|And.intro @ystC_bool<|And.intro @ystC_string<|And.intro @ystC_slice<|And.intro @ystC_ptr<|And.intro @ystC_map<|And.intro @ystC_func<|And.intro @ystC_agg<|And.intro @ok1_int<|And.intro @ok1_bool<|And.intro @ok1_string<|And.intro @ok1_slice<|And.intro @ok1_ptr<|And.intro @ok1_map<|And.intro @ok1_func<|And.intro @List.all_cons.{0}<|And.intro @List.all_nil.{0}<|And.intro @Bool.and_self<|And.intro @Bool.and_true<|And.intro @setC_nil<|And.intro @setC_cons<|And.intro @ldN<|And.intro @arr_size<|And.intro @arr_ext<|And.intro @List.length_cons.{0}<|And.intro @List.length_nil.{0}<|And.intro @List.set_cons_zero.{0}<|And.intro @List.set_cons_succ.{0}<|And.intro @List.drop_zero.{0}<|And.intro @List.drop_succ_cons.{0}<|And.intro @Nat.sub_zero<|And.intro @ne_eq.{1}<|And.intro @not_false_eq_true<|And.intro @and_self<|And.intro @and_true<|And.intro @true_and<|And.intro @Nat.succ_ne_self<|And.intro @cells_set<|And.intro @Heap.next_alloc<|And.intro @Heap.next_set<|And.intro @eq_self.{1}<|And.intro @xbox_agg<|And.intro @ld1<|And.intro @Option.bind_some.{0,0}<|And.intro @cells_alloc<|And.intro @arr_get<|And.intro @Nat.add_zero<|And.intro @Nat.zero_add<|And.intro @gt_st<|@full_st):=
 And.intro @ypick_b<|And.intro @Option.map_some.{0,0}<|And.intro @Option.map_none.{0,0}<|And.intro @bin_add<|And.intro @bin_sub<|And.intro @bin_mul<|And.intro @bin_quo<|And.intro @bin_rem<|And.intro @bin_eql<|And.intro @bin_neq<|And.intro @bin_lss<|And.intro @bin_leq<|And.intro @bin_gtr<|And.intro @bin_geq<|And.intro @un_not<|And.intro @un_neg<|And.intro @ex_tup<|And.intro @yconv_int<|And.intro @List.getElem?_cons_zero.{0}<|And.intro @List.getElem?_cons_succ.{0}<|And.intro @List.map_cons.{0,0}<|And.intro @List.map_nil.{0,0}<|And.intro @List.getElem?_toArray.{0}<|And.intro @if_true.{1}<|And.intro @if_false.{1}<|And.intro @Bool.false_eq_true<|And.intro @Bool.true_eq_false<|And.intro @Bool.not_true<|And.intro @Bool.not_false<|And.intro @decide_true<|And.intro @decide_false<|And.intro @wrap_i64<|And.intro @ite_self.{1}<|And.intro @List.take_succ_cons.{0}<|And.intro @List.take_zero.{0}<|And.intro @Int.ofNat_eq_natCast<|And.intro @Int.cast_ofNat_Int<|And.intro @yfill_cons<|And.intro @yfill_nil<|And.intro @yfV_int<|And.intro @yfV_bool<|And.intro @yfV_string<|And.intro @yfV_slice<|And.intro @yfV_ptr<|And.intro @yfV_map<|And.intro @yfV_func<|And.intro @yfV_agg<|And.intro @ystE<|And.intro @ystC_int<|And.intro @ystC_bool<|And.intro @ystC_string<|And.intro @ystC_slice<|And.intro @ystC_ptr<|And.intro @ystC_map<|And.intro @ystC_func<|And.intro @ystC_agg<|And.intro @ok1_int<|And.intro @ok1_bool<|And.intro @ok1_string<|And.intro @ok1_slice<|And.intro @ok1_ptr<|And.intro @ok1_map<|And.intro @ok1_func<|And.intro @List.all_cons.{0}<|And.intro @List.all_nil.{0}<|And.intro @Bool.and_self<|And.intro @Bool.and_true<|And.intro @setC_nil<|And.intro @setC_cons<|And.intro @ldN<|And.intro @arr_size<|And.intro @arr_ext<|And.intro @List.length_cons.{0}<|And.intro @List.length_nil.{0}<|And.intro @List.set_cons_zero.{0}<|And.intro @List.set_cons_succ.{0}<|And.intro @List.drop_zero.{0}<|And.intro @List.drop_succ_cons.{0}<|And.intro @Nat.sub_zero<|And.intro @ne_eq.{1}<|And.intro @not_false_eq_true<|And.intro @and_self<|And.intro @and_true<|And.intro @true_and<|And.intro @Nat.succ_ne_self<|And.intro @cells_set<|And.intro @Heap.next_alloc<|And.intro @Heap.next_set<|And.intro @eq_self.{1}<|And.intro @xbox_agg<|And.intro @ld1<|And.intro @Option.bind_some.{0,0}<|And.intro @cells_alloc<|And.intro @arr_get<|And.intro @Nat.add_zero<|And.intro @Nat.zero_add<|And.intro @gt_st<|@full_st
end Go.Xe
