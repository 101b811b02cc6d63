/- Rules of reasoning over the executable reading of the model's code (part Z11): slices of rows of cells, and arguments of any shape. Conditions: none; for every program. -/
import Derived.Test.YtgcdbdcnlhonfaaZj
import Derived.OpenShut
namespace Go.Xe
open Go Go.RowKit Go.ChangeShapes Go.WideShapes
inductive SlN (H : Heap) (es : Nat) : Value→List (List Value)→Prop
 | nil : SlN H es (.slice none 0 0) []
 | spot (i o s : Nat) : SlN H es (.slice (some ⟨i,o,some s⟩) 0 0) []
 | at {i o n c : Nat} {a : Array Value} {el : TypeId} {rw : Bool} {l : List (List Value)} (hi : i<H.next) (hc : H.cellsAt i=some (a,el,rw)) (hn : n≤c) (hl : l.length=n) (hs : o+n*es≤a.size)
   (hv : ∀ k r,l[k]?=some r→r.length=es∧∀ j x,r[j]?=some x→a[o+k*es+j]?=some x) : SlN H es (.slice (some ⟨i,o,none⟩) n c) l
theorem SlN.grow {A B : Heap} (g : Grow A B) {es : Nat} {v : Value} {l : List (List Value)} (h : SlN A es v l) : SlN B es v l:=by
 cases h with
 | nil=>exact .nil
 | spot i o s=>exact .spot i o s
 | «at» hi hc hn hl hs hv=>exact .at (Nat.lt_of_lt_of_le hi g.1) ((g.cells hi).trans hc) hn hl hs hv
theorem SlN.len {H : Heap} {es : Nat} {v : Value} {l : List (List Value)} (h : SlN H es v l) : ylen 0 H v=some (.int .i64 l.length):=by
 cases h with
 | nil=>rfl
 | spot=>rfl
 | «at» _ _ _ hl=>rw[hl];rfl
theorem SlN.one {H : Heap} {v : Value} {l : List Value} (h : SlN H 1 v (l.map fun x=>[x])) : Sl H v l:=by
 generalize he : l.map (fun x=>[x])=r at h
 cases h with
 | nil=>rw[List.map_eq_nil_iff.1 he];exact .nil
 | spot i o s=>rw[List.map_eq_nil_iff.1 he];exact .spot i o s
 | «at» hi hc hn hl hs hv=>
  subst he
  refine .at hi hc hn (by simpa using hl) (by simpa using hs) (fun k x hx=>?_)
  have:=(hv k [x] (by rw[List.getElem?_map,hx];rfl)).2 0 x rfl
  simpa using this
theorem SlN.get {H : Heap} {es : Nat} {v : Value} {l : List (List Value)} (h : SlN H es v l) {k : Nat} {r : List Value} (hx : l[k]?=some r) :
  ∃ i o,(∀ kd,yindexAddr none es v (.int kd k)=some (.pointer (some ⟨i,o,none⟩)))∧(∀ H',Grow H H'→es≠0→yloadN es H' (.pointer (some ⟨i,o,none⟩))=some (.agg ⟨r⟩)) ∧
   (∀ H',Grow H H'→∀ j x,r[j]?=some x→yload1 H' (.pointer (some ⟨i,o+j,none⟩))=some x):=by
 cases h with
 | nil=>simp at hx
 | spot=>simp at hx
 | «at» hi hc hn hl hs hv=>
  rename_i i o n c a el rw
  have hk : k<n:=by
   have:=(List.getElem?_eq_some_iff.1 hx).1
   omega
  obtain⟨h1,h2⟩:=hv k r hx
  have hle : k*es+es≤n*es:=by
   have:=Nat.mul_le_mul_right es (show k+1≤n by omega)
   rw[Nat.add_mul,Nat.one_mul] at this
   exact this
  refine⟨i,o+k*es,fun kd=>?_,fun H' g he=>?_,fun H' g j x hj=>?_⟩
  ·simp only[yindexAddr]
   rw[if_pos ⟨by omega,by omega⟩]
   simp
  ·simp only[yloadN]
   rw[(g.cells hi).trans hc]
   simp only
   rw[if_pos ⟨by omega,he⟩]
   congr 2
   apply Array.toList_inj.1
   apply List.ext_getElem?
   intro j
   have e1 : (a.extract (o+k*es) (o+k*es+es)).toList[j]?=if j<es then a[o+k*es+j]? else none:=by
    rw[Array.getElem?_toList,Array.getElem?_extract]
    by_cases hj : j<es
    ·rw[if_pos (by omega),if_pos hj]
    ·rw[if_neg (by omega),if_neg hj]
   rw[e1]
   by_cases hj : j<es
   ·rw[if_pos hj]
    have e2 : r[j]?=some r[j]:=by simp[h1,hj]
    rw[h2 j _ e2]
    exact e2.symm
   ·rw[if_neg hj]
    simp;omega
  ·simp only[yload1]
   rw[(g.cells hi).trans hc]
   exact h2 j x hj
inductive Sh where
 | int (k : IntKind)|bool|str|unit|pair (a b : Sh)|slice (es : Nat) (s : Sh)
@[reducible] def Ty : Sh→Type
 | .int _=>Int
 | .bool=>Bool
 | .str=>ByteArray
 | .unit=>Unit
 | .pair a b=>Ty a×Ty b
 | .slice _ s=>List (Ty s)
def Sem (H : Heap) : (s : Sh)→List Value→Ty s→Prop
 | .int k,cs,n=>cs=[.int k n]∧(Lit.int k n).wf=true
 | .bool,cs,b=>cs=[.bool b]
 | .str,cs,s=>cs=[.string s]∧s.size≤maxLen
 | .unit,cs,_=>cs=[]
 | .pair a b,cs,x=>∃ c1 c2,cs=c1++c2∧Sem H a c1 x.1∧Sem H b c2 x.2
 | .slice es s,cs,(l : List (Ty s))=>∃ (v : Value) (rows : List (List Value)),cs=[v]∧SlN H es v rows∧rows.length=l.length∧l.length≤maxLen∧∀ (k : Nat) (r : List Value) (x : Ty s),rows[k]?=some r→l[k]?=some x→Sem H s r x
def fieldsSh (P : Program) (f : TypeId→Option Sh) (tot : Nat) : List Field→Nat→Option Sh
 | [],off=>if off=tot then some .unit else none
 | g::gs,off=>if g.offset=off then match f g.type,fieldsSh P f tot gs (off+P.cellsOf g.type) with
   | some a,some b=>some (.pair a b)
   | _,_=>none
  else none
def shOf (P : Program) : Nat→TypeId→Option Sh
 | 0,_=>none
 | n+1,t=>match P.underlying t with
  | some (.int k)=>some (.int k)
  | some .bool=>some .bool
  | some .string=>some .str
  | some (.slice e)=>if P.cellsOf e=0 then none else (shOf P n e).map (.slice (P.cellsOf e))
  | some (.struct fs)=>fieldsSh P (shOf P n) (P.cellsOf t) fs.toList 0
  | _=>none
theorem list_of {α : Type} {p : Nat→α→Prop} : ∀ (n : Nat),(∀ i,i<n→∃ x,p i x)→∃ l : List α,l.length=n∧∀ i x,l[i]?=some x→p i x
 | 0,_=>⟨[],rfl,fun i x h=>by simp at h⟩
 | n+1,h=>by
  obtain⟨l,h1,h2⟩:=list_of n (fun i hi=>h i (by omega))
  obtain⟨x,hx⟩:=h n (by omega)
  refine⟨l++[x],by simp[h1],fun i y hy=>?_⟩
  rw[List.getElem?_append] at hy
  split at hy
  ·exact h2 i y hy
  ·rename_i hi
   have : i=n:=by
    have:=(List.getElem?_eq_some_iff.1 hy).1
    simp at this;omega
   subst this
   rw[h1,Nat.sub_self] at hy
   cases hy
   exact hx
section
variable {H : Type} {enc : TypeId×Value→H} {P : Program} {w : World} {A : Heap}
theorem cells_get {a : Addr} {n : Nat} {l : List Value} (h : w.cells? 0 a n=some l) : l.length=n∧∀ j,j<n→w.cell? (a.add j)=l[j]?:=by
 unfold World.cells? at h
 rw[if_pos (Nat.zero_le _)] at h
 exact⟨by simpa using mapM_some_length h,fun j hj=>mapM_some_get h j j (by simp[hj])⟩
theorem arg_fields {f : TypeId→Option Sh} {m : Nat} (ih : ∀ t s,f t=some s→∀ cs (x : DataW H×List MemPlace),DataW.trod enc P w 0 (fun _=>true) true m t cs=some x→∃ y : Ty s,Sem A s (cs.map (absC w.heap.size)) y) {cs : List Value} {tot : Nat} (hl : cs.length=tot) :
  ∀ (gs : List Field) (off : Nat) (s : Sh),fieldsSh P f tot gs off=some s→(∀ g∈gs,∃ x,DataW.trod enc P w 0 (fun _=>true) true m g.type ((cs.drop g.offset).take (P.cellsOf g.type))=some x)→∃ y : Ty s,Sem A s ((cs.drop off).map (absC w.heap.size)) y
 | [],off,s,h,_=>by
  simp only[fieldsSh] at h
  split at h
  ·rename_i e
   cases h
   exact⟨(),by rw[List.drop_eq_nil_of_le (by omega)];rfl⟩
  ·cases h
 | g::gs,off,s,h,hx=>by
  simp only[fieldsSh] at h
  split at h
  ·rename_i e
   split at h
   ·rename_i a b ha hb
    cases h
    obtain⟨x,hx1⟩:=hx g (by simp)
    obtain⟨y1,h1⟩:=ih _ _ ha _ _ hx1
    obtain⟨y2,h2⟩:=arg_fields ih hl gs _ b hb (fun g' hg=>hx g' (by simp[hg]))
    refine⟨(y1,y2),_,_,?_,h1,h2⟩
    have e2 : cs.drop off=(cs.drop off).take (P.cellsOf g.type)++cs.drop (off+P.cellsOf g.type):=by rw[← List.drop_drop];exact (List.take_append_drop _ _).symm
    rw[e,← List.map_append,← e2]
   ·cases h
  ·cases h
theorem arg_any (hA : Abs w A) : ∀ (m : Nat) (t : TypeId) (s : Sh),shOf P m t=some s→∀ (fuel : Nat) (cs : List Value) (x : DataW H×List MemPlace),DataW.trod enc P w 0 (fun _=>true) true fuel t cs=some x→∃ y : Ty s,Sem A s (cs.map (absC w.heap.size)) y
 | 0,t,s,h,_,_,_,_=>by simp[shOf] at h
 | m+1,t,s,h,fuel,cs,x,hx=>by
  unfold shOf at h
  split at h
  ·rename_i k hu
   cases h
   obtain⟨n,rfl,_,hw⟩:=DataW.trod_int hu hx
   exact⟨n,rfl,hw⟩
  ·rename_i hu
   cases h
   obtain⟨b,rfl,_⟩:=DataW.trod_bool hu hx
   exact⟨b,by simp only[List.map_cons,List.map_nil,absC];rfl⟩
  ·rename_i hu
   cases h
   obtain⟨b,rfl,_,hb⟩:=DataW.trod_string hu hx
   exact⟨b,by simp only[List.map_cons,List.map_nil,absC],hb⟩
  ·rename_i e hu
   split at h
   ·cases h
   ·rename_i hes
    cases hse : shOf P m e with
    | none=>rw[hse] at h;cases h
    | some se=>
     rw[hse] at h
     cases h
     rcases DataW.trod_slice hu hx with⟨rfl,_⟩|⟨a,len,cap,elems,rest,n,_,rfl,_,_,hlc,hcm,hel,hget,_,_⟩
     ·exact⟨[],.slice none 0 0,[],rfl,.nil,rfl,Nat.zero_le _,fun k r x hr=>by simp at hr⟩
     ·have each : ∀ i,i<len→∃ q : List Value×Ty se,w.cells? 0 (a.add (i*P.cellsOf e)) (P.cellsOf e)=some q.1∧Sem A se (q.1.map (absC w.heap.size)) q.2:=by
       intro i hi
       have h1:=hget i hi
       have h2 : elems[i]?=some elems[i]:=by simp[hel,hi]
       rw[h2,Option.bind_eq_some_iff] at h1
       obtain⟨c,hc1,hc2⟩:=h1
       obtain⟨y,hy⟩:=arg_any hA m e se hse n c _ hc2
       exact⟨(c,y),hc1,hy⟩
      obtain⟨L,hL1,hL2⟩:=list_of len each
      by_cases h0 : len=0
      ·subst h0
       obtain⟨i,o,sp⟩:=a
       exact⟨[],.slice (some ⟨i,o,some 0⟩) 0 0,[],by simp[absC],.spot _ _ _,rfl,Nat.zero_le _,fun k r x hr=>by simp at hr⟩
      ·obtain⟨i,o,sp⟩:=a
       have hsp : sp=none:=by
        obtain⟨q0,hq0⟩ : ∃ q,L[0]?=some q:=⟨L[0]'(by omega),by simp⟩
        obtain⟨g1,g2⟩:=cells_get (hL2 0 q0 hq0).1
        have h3:=g2 0 (by omega)
        have h4 : q0.1[0]?=some (q0.1[0]'(by omega)):=by simp
        rw[h4] at h3
        obtain⟨_,_,_,_,k2,_⟩:=icell_at h3
        simpa [Addr.add] using k2
       subst hsp
       have row : ∀ (k : Nat) (q : List Value×Ty se),L[k]?=some q→q.1.length=P.cellsOf e∧∀ j,j<P.cellsOf e→∃ c el fz,w.heap[i]?=some (.cells c el fz)∧c[o+k*P.cellsOf e+j]?=q.1[j]?:=by
        intro k q hq
        obtain⟨g1,g2⟩:=cells_get (hL2 k q hq).1
        refine⟨g1,fun j hj=>?_⟩
        have h3:=g2 j hj
        have h4 : q.1[j]?=some q.1[j]:=by simp[g1,hj]
        rw[h4] at h3
        obtain⟨c,el,fz,k1,k2,k3⟩:=icell_at h3
        rw[addr_add,addr_add] at k1 k3
        exact⟨c,el,fz,k1,by rw[h4];exact k3⟩
       have l0 : L[0]?=some (L[0]'(by omega)):=by simp
       obtain⟨c,el,fz,k1,_⟩:=(row 0 _ l0).2 0 (by omega)
       obtain⟨q1,q2⟩:=hA.cells k1
       have hi : i<w.heap.size:=hA.1 ▸ q1
       refine⟨L.map (·.2),.slice (some ⟨i,o,none⟩) len cap,L.map (fun q=>q.1.map (absC w.heap.size)),?_,?_,by simp,by simp[hL1];omega,?_⟩
       ·simp only[List.map_cons,List.map_nil,absC]
        rw[if_neg h0,if_pos ⟨trivial,hi,hlc⟩]
       ·refine .at q1 q2 hlc (by simp[hL1]) ?_ ?_
        ·have hl : L[len-1]?=some (L[len-1]'(by omega)):=by simp
         obtain⟨g1,g2⟩:=row _ _ hl
         obtain⟨c',el',fz',k1',k3⟩:=g2 (P.cellsOf e-1) (by omega)
         rw[k1] at k1'
         cases k1'
         have h5 : (L[len-1]'(by omega)).1[P.cellsOf e-1]?=some ((L[len-1]'(by omega)).1[P.cellsOf e-1]'(by omega)):=by simp
         rw[h5] at k3
         have:=(Array.getElem?_eq_some_iff.1 k3).1
         have h6 : (len-1)*P.cellsOf e+P.cellsOf e=len*P.cellsOf e:=by
          obtain⟨z,rfl⟩ : ∃ z,len=z+1:=⟨len-1,by omega⟩
          rw[Nat.add_sub_cancel,Nat.add_mul,Nat.one_mul]
         rw[Array.size_map]
         omega
        ·intro k r hr
         rw[List.getElem?_map] at hr
         cases hq : L[k]? with
         | none=>rw[hq] at hr;cases hr
         | some q=>
          rw[hq] at hr
          cases hr
          obtain⟨g1,g2⟩:=row k q hq
          refine⟨by rw[List.length_map,g1],fun j y hy=>?_⟩
          have hj : j<P.cellsOf e:=by
           have:=(List.getElem?_eq_some_iff.1 hy).1
           rw[List.length_map,g1] at this
           exact this
          obtain⟨c',el',fz',k1',k3⟩:=g2 j hj
          rw[k1] at k1'
          cases k1'
          rw[Array.getElem?_map,k3,← List.getElem?_map]
          exact hy
       ·intro k r y hr hy
        rw[List.getElem?_map] at hr hy
        cases hq : L[k]? with
        | none=>rw[hq] at hr;cases hr
        | some q=>
         rw[hq] at hr hy
         cases hr;cases hy
         exact (hL2 k q hq).2
  ·rename_i fs hu
   obtain⟨xs,n,_,_,hl,hxl,hf⟩:=DataW.trod_struct hu hx
   have:=arg_fields (f:=shOf P m) (m:=n) (A:=A) (fun t s ht cs x hx=>arg_any hA m t s ht n cs x hx) hl fs.toList 0 s h (fun g hg=>by
    obtain⟨i,hi⟩:=List.getElem?_of_mem hg
    have hi' : fs[i]?=some g:=by simpa using hi
    have:=hf i g hi'
    have hlt : i<xs.length:=by
     have:=(List.getElem?_eq_some_iff.1 hi).1
     rw[hxl];simpa using this
    exact⟨xs[i],this.trans (by simp)⟩)
   simpa using this
  ·cases h
theorem arg_agg (hA : Abs w A) {t : TypeId} {s : Sh} (m : Nat) (hs : shOf P m t=some s) {cs : Array Value} {d : DataW H} {ps : List MemPlace} (h : DataW.Trod enc P w 0 (fun _=>true) true t (.agg cs) d ps) :
  ∃ l y,absV w.heap.size (.agg cs)=.agg ⟨l⟩∧Sem A s l y:=by
 obtain⟨fuel,hf⟩:=h
 obtain⟨y,hy⟩:=arg_any hA m t s hs fuel _ _ hf
 refine⟨_,y,?_,hy⟩
 simp only[absV]
 congr 1
 apply Array.toList_inj.1
 simp[Value.cells]
end
end Go.Xe
/- Rules of reasoning over the executable reading of the model's code (part Z12): the equations of one step, as one. Conditions: none; for every program. -/
namespace Go.Xe
open Go
theorem D1 : type_of% (And.intro @ypick_b<|And.intro @Option.map_some.{0,0}<|And.intro @Option.map_none.{0,0}<|And.intro @bin_add<|And.intro @bin_sub<|And.intro @bin_mul<|And.intro @bin_quo<|And.intro @bin_rem<|And.intro @bin_eql<|And.intro @bin_neq<|And.intro @bin_lss<|And.intro @bin_leq<|And.intro @bin_gtr<|And.intro @bin_geq<|And.intro @un_not<|And.intro @un_neg<|And.intro @ex_tup<|And.intro @yconv_int<|And.intro @List.getElem?_cons_zero.{0}<|And.intro @List.getElem?_cons_succ.{0}<|And.intro @List.map_cons.{0,0}<|And.intro @List.map_nil.{0,0}<|And.intro @List.getElem?_toArray.{0}<|And.intro @if_true.{1}<|And.intro @if_false.{1}<|And.intro @Bool.false_eq_true<|And.intro @Bool.true_eq_false<|And.intro @Bool.not_true<|And.intro @Bool.not_false<|And.intro @decide_true<|And.intro @decide_false<|And.intro @wrap_i64<|And.intro @ite_self.{1}<|And.intro @List.take_succ_cons.{0}<|And.intro @List.take_zero.{0}<|And.intro @Int.ofNat_eq_natCast<|And.intro @Int.cast_ofNat_Int<|And.intro @yfill_cons<|And.intro @yfill_nil<|And.intro @yfV_int<|And.intro @yfV_bool<|And.intro @yfV_string<|And.intro @yfV_slice<|And.intro @yfV_ptr<|And.intro @yfV_map<|And.intro @yfV_func<|And.intro @yfV_agg<|And.intro @ystE<|And.intro @ystC_int<|And.intro @ystC_bool<|And.intro @ystC_string<|And.intro @ystC_slice<|And.intro @ystC_ptr<|And.intro @ystC_map<|And.intro @ystC_func<|And.intro @ystC_agg<|And.intro @ok1_int<|And.intro @ok1_bool<|And.intro @ok1_string<|And.intro @ok1_slice<|And.intro @ok1_ptr<|And.intro @ok1_map<|And.intro @ok1_func<|And.intro @List.all_cons.{0}<|And.intro @List.all_nil.{0}<|And.intro @Bool.and_self<|And.intro @Bool.and_true<|And.intro @setC_nil<|And.intro @setC_cons<|And.intro @ldN<|And.intro @arr_size<|And.intro @arr_ext<|And.intro @List.length_cons.{0}<|And.intro @List.length_nil.{0}<|And.intro @List.set_cons_zero.{0}<|And.intro @List.set_cons_succ.{0}<|And.intro @List.drop_zero.{0}<|And.intro @List.drop_succ_cons.{0}<|And.intro @Nat.sub_zero<|And.intro @ne_eq.{1}<|And.intro @not_false_eq_true<|And.intro @and_self<|And.intro @and_true<|And.intro @true_and<|And.intro @Nat.succ_ne_self<|And.intro @cells_set<|And.intro @Heap.next_alloc<|And.intro @Heap.next_set<|And.intro @eq_self.{1}<|And.intro @xbox_agg<|And.intro @ld1<|And.intro @Option.bind_some.{0,0}<|And.intro @cells_alloc<|And.intro @arr_get<|And.intro @Nat.add_zero<|And.intro @Nat.zero_add<|And.intro @gt_st<|@full_st):=
 And.intro @ypick_b<|And.intro @Option.map_some.{0,0}<|And.intro @Option.map_none.{0,0}<|And.intro @bin_add<|And.intro @bin_sub<|And.intro @bin_mul<|And.intro @bin_quo<|And.intro @bin_rem<|And.intro @bin_eql<|And.intro @bin_neq<|And.intro @bin_lss<|And.intro @bin_leq<|And.intro @bin_gtr<|And.intro @bin_geq<|And.intro @un_not<|And.intro @un_neg<|And.intro @ex_tup<|And.intro @yconv_int<|And.intro @List.getElem?_cons_zero.{0}<|And.intro @List.getElem?_cons_succ.{0}<|And.intro @List.map_cons.{0,0}<|And.intro @List.map_nil.{0,0}<|And.intro @List.getElem?_toArray.{0}<|And.intro @if_true.{1}<|And.intro @if_false.{1}<|And.intro @Bool.false_eq_true<|And.intro @Bool.true_eq_false<|And.intro @Bool.not_true<|And.intro @Bool.not_false<|And.intro @decide_true<|And.intro @decide_false<|And.intro @wrap_i64<|And.intro @ite_self.{1}<|And.intro @List.take_succ_cons.{0}<|And.intro @List.take_zero.{0}<|And.intro @Int.ofNat_eq_natCast<|And.intro @Int.cast_ofNat_Int<|And.intro @yfill_cons<|And.intro @yfill_nil<|And.intro @yfV_int<|And.intro @yfV_bool<|And.intro @yfV_string<|And.intro @yfV_slice<|And.intro @yfV_ptr<|And.intro @yfV_map<|And.intro @yfV_func<|And.intro @yfV_agg<|And.intro @ystE<|And.intro @ystC_int<|And.intro @ystC_bool<|And.intro @ystC_string<|And.intro @ystC_slice<|And.intro @ystC_ptr<|And.intro @ystC_map<|And.intro @ystC_func<|And.intro @ystC_agg<|And.intro @ok1_int<|And.intro @ok1_bool<|And.intro @ok1_string<|And.intro @ok1_slice<|And.intro @ok1_ptr<|And.intro @ok1_map<|And.intro @ok1_func<|And.intro @List.all_cons.{0}<|And.intro @List.all_nil.{0}<|And.intro @Bool.and_self<|And.intro @Bool.and_true<|And.intro @setC_nil<|And.intro @setC_cons<|And.intro @ldN<|And.intro @arr_size<|And.intro @arr_ext<|And.intro @List.length_cons.{0}<|And.intro @List.length_nil.{0}<|And.intro @List.set_cons_zero.{0}<|And.intro @List.set_cons_succ.{0}<|And.intro @List.drop_zero.{0}<|And.intro @List.drop_succ_cons.{0}<|And.intro @Nat.sub_zero<|And.intro @ne_eq.{1}<|And.intro @not_false_eq_true<|And.intro @and_self<|And.intro @and_true<|And.intro @true_and<|And.intro @Nat.succ_ne_self<|And.intro @cells_set<|And.intro @Heap.next_alloc<|And.intro @Heap.next_set<|And.intro @eq_self.{1}<|And.intro @xbox_agg<|And.intro @ld1<|And.intro @Option.bind_some.{0,0}<|And.intro @cells_alloc<|And.intro @arr_get<|And.intro @Nat.add_zero<|And.intro @Nat.zero_add<|And.intro @gt_st<|@full_st
end Go.Xe
/- Rules of reasoning over the executable reading of the model's code (part Z13): memory of a function's own, by what lies in it. Conditions: none; for every program. -/
namespace Go.Xe
open Go
def Bx (H : Heap) (i : Nat) (c : List Value) (e : TypeId) : Prop:=i<H.next∧H.cellsAt i=some (⟨c⟩,e,true)
theorem Bx.grow {A B : Heap} (g : Grow A B) {i : Nat} {c : List Value} {e : TypeId} (h : Bx A i c e) : Bx B i c e:=⟨Nat.lt_of_lt_of_le h.1 g.1,(g.cells h.1).trans h.2⟩
theorem Bx.alloc {A : Heap} {i : Nat} {c : List Value} {e : TypeId} (h : Bx A i c e) (o : AO) : Bx (A.alloc o) i c e:=h.grow ((Grow.refl A).alloc o)
theorem Bx.new (A : Heap) (c : List Value) (e : TypeId) : Bx (A.alloc (.cells ⟨c⟩ e true)) A.next c e:=⟨Nat.lt_succ_self _,cells_alloc _ _ _ _⟩
theorem Bx.newAt {A : Heap} {c : List Value} {e : TypeId} {i : Nat} (h : i=A.next) : Bx (A.alloc (.cells ⟨c⟩ e true)) i c e:=by subst h;exact .new A c e
theorem Bx.set {A : Heap} {i j : Nat} {c : List Value} {e : TypeId} (h : Bx A i c e) (hij : i≠j) (o : AO) : Bx (A.set j o) i c e:=⟨h.1,(cells_set_ne A o hij).trans h.2⟩
theorem Bx.put {A : Heap} {i : Nat} (h : i<A.next) (c : List Value) (e : TypeId) : Bx (A.set i (.cells ⟨c⟩ e true)) i c e:=⟨h,cells_set _ _ _ _ _⟩
section
variable {P : Program} [Gl P] [Orc P] {rnd : Option Nat} {Q : FQ} {K : List FFr} {t : TT} {m : List Nat} {H : Heap} {e : XE} {is : List FI}
theorem V.heap (S : Heap→Prop) (hS : S H) (h : ∀ H',S H'→V P rnd Q K e t m H') : V P rnd Q K e t m H:=h H hS
theorem VI.heap (S : Heap→Prop) (hS : S H) (h : ∀ H',S H'→VI P rnd Q K m is t H') : VI P rnd Q K m is t H:=h H hS
end
theorem cells_alloc_at (H : Heap) (c : Array Value) (el : TypeId) (rw : Bool) {i : Nat} (h : H.next≤i) (h' : i≤H.next) : (H.alloc (.cells c el rw)).cellsAt i=some (c,el,rw):=by
 obtain rfl : i=H.next:=by omega
 exact cells_alloc H c el rw
theorem cells_set_at (H : Heap) (c : Array Value) (el : TypeId) (rw : Bool) {i j : Nat} (h : j≤i) (h' : i≤j) : (H.set j (.cells c el rw)).cellsAt i=some (c,el,rw):=by
 obtain rfl : i=j:=by omega
 exact cells_set H i c el rw
theorem mm_max {k : IntKind} {a b : Int} : xmm true [.int k a,.int k b]=some (.int k (if b > a then b else a)):=rfl
theorem mm_min {k : IntKind} {a b : Int} : xmm false [.int k a,.int k b]=some (.int k (if b<a then b else a)):=rfl
def gsV : Value→Bool→Option (Value×Heap)→Heap→Option (Value×Heap)
 | .bool b,w,o,H=>if b=w then o else some (undef,H)
 | .tuple ⟨[]⟩,_,_,H=>some (undef,H)
 | _,_,_,_=>none
def din (P : Program) : List FI→TT→Heap→Option (TT×Heap)
 | [],t,H=>some (t,H)
 | .go f d::is,t,H=>match dop P f t H with
  | some (v,H1)=>din P is (st v d t) H1
  | none=>none
 | .gd p w f d::is,t,H=>match gsV (gt p t) w (dop P f t H) H with
  | some (v,H1)=>din P is (st v d t) H1
  | none=>none
 | .un f::is,t,H=>match f with
  | .store n a x=>match dop P (.store n a x) t H with
   | some (_,H1)=>din P is t H1
   | none=>none
  | .mapUpdate kt a k x=>match dop P (.mapUpdate kt a k x) t H with
   | some (_,H1)=>din P is t H1
   | none=>none
  | .nilCheck x=>match dop P (.nilCheck x) t H with
   | some (_,H1)=>din P is t H1
   | none=>none
  | .clear es z x=>match dop P (.clear es z x) t H with
   | some (_,H1)=>din P is t H1
   | none=>none
  | _=>none
 | .gu ..::_,_,_=>none
theorem gsV_cases {x v : Value} {w : Bool} {o : Option (Value×Heap)} {H H1 : Heap} (h : gsV x w o H=some (v,H1)) : (x=.bool w∧o=some (v,H1))∨(x=.bool (!w)∧v=undef∧H1=H)∨(x=undef∧v=undef∧H1=H):=by
 unfold gsV at h
 split at h
 ·rename_i b w' o' H'
  split at h
  ·rename_i e;subst e;exact .inl ⟨rfl,h⟩
  ·rename_i e
   cases h
   refine .inr (.inl ⟨?_,rfl,rfl⟩)
   cases b<;>cases w<;>simp_all
 ·cases h;exact .inr (.inr ⟨rfl,rfl,rfl⟩)
 ·cases h
section
variable {P : Program} [Gl P] [Orc P] {rnd : Option Nat} {Q : FQ} {K : List FFr} {m : List Nat}
theorem VI.din {is' : List FI} : ∀ {is1 : List FI} {t t1 : TT} {H H1 : Heap},Xe.din P is1 t H=some (t1,H1)→VI P rnd Q K m is' t1 H1→VI P rnd Q K m (is1++is') t H
 | [],t,t1,H,H1,h,k=>by simp only[Xe.din] at h;cases h;exact k
 | .go f d::is,t,t1,H,H1,h,k=>by
  simp only[Xe.din] at h
  split at h
  ·rename_i v H2 hd;exact VI.go hd (VI.din h k)
  ·cases h
 | .gd p w f d::is,t,t1,H,H1,h,k=>by
  simp only[Xe.din] at h
  split at h
  ·rename_i v H2 hd
   rcases gsV_cases hd with⟨h1,h2⟩|⟨h1,rfl,rfl⟩|⟨h1,rfl,rfl⟩
   ·exact VI.gdT h1 (.of h2) (VI.din h k)
   ·exact VI.gdF h1 (VI.din h k)
   ·exact VI.gdN h1 (VI.din h k)
  ·cases h
 | .un f::is,t,t1,H,H1,h,k=>by
  simp only[Xe.din] at h
  split at h
  ·split at h
   ·rename_i v H2 hd;exact VI.un hd (by simp[badOp]) (VI.din h k)
   ·cases h
  ·split at h
   ·rename_i v H2 hd;exact VI.un hd (by simp[badOp]) (VI.din h k)
   ·cases h
  ·split at h
   ·rename_i v H2 hd;exact VI.un hd (by simp[badOp]) (VI.din h k)
   ·cases h
  ·split at h
   ·rename_i v H2 hd;exact VI.un hd (by simp[badOp]) (VI.din h k)
   ·cases h
  ·cases h
 | .gu p w f::is,t,t1,H,H1,h,k=>by simp[Xe.din] at h
theorem VI.steps' (n : Nat) {is : List FI} {t t1 : TT} {H H1 : Heap} (h : Xe.din P (is.take n) t H=some (t1,H1)) (k : VI P rnd Q K m (is.drop n) t1 H1) : VI P rnd Q K m is t H:=by
 rw[← List.take_append_drop n is]
 exact .din h k
theorem V.line' {is : List FI} {t t1 : TT} {H H1 : Heap} (h : Xe.din P is t H=some (t1,H1)) (k : V P rnd Q K .normal t1 m H1) : V P rnd Q (.seq (.run is)::K) .normal t m H:=by
 refine .run ?_
 rw[← List.append_nil is]
 exact .din h (.done k)
theorem VI.line' {is : List FI} {t t1 : TT} {H H1 : Heap} (h : Xe.din P is t H=some (t1,H1)) (k : V P rnd Q K .normal t1 m H1) : VI P rnd Q K m is t H:=by
 rw[← List.append_nil is]
 exact .din h (.done k)
end
def dinA (P : Program) : List FI→TT→Heap→List Heap→Option (TT×List Heap×Heap)
 | [],t,H,pre=>some (t,pre,H)
 | .go f d::is,t,H,pre=>match dop P f t H with
  | some (v,H1)=>dinA P is (st v d t) H1 (pre++[H])
  | none=>none
 | .gd p w f d::is,t,H,pre=>match gsV (gt p t) w (dop P f t H) H with
  | some (v,H1)=>dinA P is (st v d t) H1 (pre++[H])
  | none=>none
 | .un f::is,t,H,pre=>match dop P f t H with
  | some (_,H1)=>dinA P is t H1 (pre++[H])
  | none=>none
 | .gu ..::_,_,_,_=>none
section
variable {P : Program} [Gl P] [Orc P] {rnd : Option Nat} {Q : FQ} {K : List FFr} {m : List Nat} {R : TT→List Heap→Prop}
theorem VD.gdN {is : List FI} {p d : Pth} {w : Bool} {f : FOp} {t : TT} {H : Heap} {pre : List Heap} (hp : gt p t=undef) (k : VD P is (st undef d t) H (pre++[H]) R) : VD P (.gd p w f d::is) t H pre R:=by
 intro ops l tm hl ht
 obtain⟨j,l',rfl,hj,hl'⟩:=list_cons hl
 obtain⟨o,ho,j0,g,i,hg,hjg,rfl,hd,rfl,hf⟩:=compFI_gd hj
 obtain⟨T,Gs,t',⟨n1,k1⟩,k2,k3⟩:=k ops l' (put tm o.dst undef) hl' (by rw[hd];exact ht.st undef i)
 refine⟨T,H::Gs,t',⟨n1,fun N hN=>?_⟩,k2,by simpa using k3⟩
 have hw : xwanted ops tm o=some false:=by
  unfold xwanted
  rw[hg]
  simp only[hjg,Option.bind_some]
  cases hx : tm[g]? with
  | none=>rfl
  | some y=>
   rw[ht.gt,Array.getD_eq_getD_getElem?,hx] at hp
   have : y=undef:=hp
   subst this
   rfl
 simp only[xsteps,ho,hw,k1 N (by omega)]
theorem VD.re {N : Nat} {is : List FI} {t : TT} {H : Heap} {pre : List Heap} (l : List (Nat×Value)) (hF : Full N t) (hA : Kn l t) (h : ∀ t',Full N t'→Kn l t'→VD P is t' H pre R) : VD P is t H pre R:=h t hF hA
theorem VD.heap {is : List FI} {t : TT} {H : Heap} {pre : List Heap} (S : Heap→Prop) (hS : S H) (h : ∀ H',S H'→VD P is t H' pre R) : VD P is t H pre R:=h H hS
theorem VD.callAT {is : List FI} {p d : Pth} {w : Bool} {fa : FA} {args : List FA} {t : TT} {H : Heap} {v : Value} {pre : List Heap} {g : FuncId} {a b l : List Value} (hp : gt p t=.bool w) (hf : dA t fa=.func (.func g) ⟨a⟩ ⟨b⟩) (hs : Gives P g l H v) (hl : a++args.map (dA t)++b=l) (k : ∀ H',Grow H H'→VD P is (st v d t) H' (pre++[H]) R) : VD P (.gd p w (.call fa args) d::is) t H pre R:=by
 subst hl
 refine .callT hp hf ?_
 rw[arr_app,arr_app]
 exact hs.mono (fun v' H' ⟨e,g⟩=>by subst e;exact k H' g)
theorem VD.din : ∀ {is : List FI} {t T : TT} {H H1 : Heap} {pre Gs : List Heap},dinA P is t H pre=some (T,Gs,H1)→R T (Gs++[H1])→VD P is t H pre R
 | [],t,T,H,H1,pre,Gs,h,k=>by simp only[dinA] at h;cases h;exact .nil k
 | .go f d::is,t,T,H,H1,pre,Gs,h,k=>by
  simp only[dinA] at h
  split at h
  ·rename_i v H2 hd;exact .go hd (VD.din h k)
  ·cases h
 | .gd p w f d::is,t,T,H,H1,pre,Gs,h,k=>by
  simp only[dinA] at h
  split at h
  ·rename_i v H2 hd
   rcases gsV_cases hd with⟨h1,h2⟩|⟨h1,rfl,rfl⟩|⟨h1,rfl,rfl⟩
   ·exact .gdT h1 (.of h2) (VD.din h k)
   ·exact .gdF h1 (VD.din h k)
   ·exact .gdN h1 (VD.din h k)
  ·cases h
 | .un f::is,t,T,H,H1,pre,Gs,h,k=>by
  simp only[dinA] at h
  split at h
  ·rename_i v H2 hd;exact .un hd (VD.din h k)
  ·cases h
 | .gu p w f::is,t,T,H,H1,pre,Gs,h,k=>by simp[dinA] at h
theorem VD.dins : ∀ (n : Nat) {is : List FI} {t T : TT} {H H1 : Heap} {pre Gs : List Heap},dinA P (is.take n) t H pre=some (T,Gs,H1)→VD P (is.drop n) T H1 Gs R→VD P is t H pre R
 | 0,is,t,T,H,H1,pre,Gs,h,k=>by
  simp only[List.take_zero,dinA] at h
  cases h
  simpa using k
 | n+1,[],t,T,H,H1,pre,Gs,h,k=>by
  simp only[List.take_nil,dinA] at h
  cases h
  simpa using k
 | n+1,.go f d::is,t,T,H,H1,pre,Gs,h,k=>by
  simp only[List.take_succ_cons,dinA] at h
  split at h
  ·rename_i v H2 hd;exact .go hd (VD.dins n h k)
  ·cases h
 | n+1,.gd p w f d::is,t,T,H,H1,pre,Gs,h,k=>by
  simp only[List.take_succ_cons,dinA] at h
  split at h
  ·rename_i v H2 hd
   rcases gsV_cases hd with⟨h1,h2⟩|⟨h1,rfl,rfl⟩|⟨h1,rfl,rfl⟩
   ·exact .gdT h1 (.of h2) (VD.dins n h k)
   ·exact .gdF h1 (VD.dins n h k)
   ·exact .gdN h1 (VD.dins n h k)
  ·cases h
 | n+1,.un f::is,t,T,H,H1,pre,Gs,h,k=>by
  simp only[List.take_succ_cons,dinA] at h
  split at h
  ·rename_i v H2 hd;exact .un hd (VD.dins n h k)
  ·cases h
 | n+1,.gu p w f::is,t,T,H,H1,pre,Gs,h,k=>by simp[dinA] at h
theorem V.lineD' {is : List FI} {cs : List FC} {n : Nat} {t t1 : TT} {H H1 : Heap} {Gs : List Heap} (h : dinA P is t H []=some (t1,Gs,H1)) (h1 : monoG (Gs++[H1])) (h2 : dcAll P t1 (Gs++[H1]) cs) (h3 : (Gs++[H1])[n]?=some H1) (k : V P rnd Q K .normal t1 m H1) : V P rnd Q (.seq (.draw n is cs)::K) .normal t m H:=
 .draw (.din h ⟨h1,h2,H1,h3,k⟩)
theorem VD.lineD' {is : List FI} {cs : List FC} {n : Nat} {t t1 : TT} {H H1 : Heap} {pre Gs : List Heap} (h : dinA P is t H pre=some (t1,Gs,H1)) (h1 : monoG (Gs++[H1])) (h2 : dcAll P t1 (Gs++[H1]) cs) (h3 : (Gs++[H1])[n]?=some H1) (k : V P rnd Q K .normal t1 m H1) : VD P is t H pre (DEnd P rnd Q K m n cs):=
 .din h ⟨h1,h2,H1,h3,k⟩
end
section
variable {P : Program} {is : List FI} {d p : Pth} {t T : TT} {H H1 : Heap} {f : FOp} {w : Bool} {v : Value} {o : Option (Value×Heap)} {n : Nat} {a x k : FA} {kt : TypeId} {pre : List Heap}
def disK (P : Program) (is : List FI) (d : Pth) (t : TT) : Option (Value×Heap)→Option (TT×Heap)
 | some (v,H1)=>din P is (st v d t) H1
 | none=>none
def disU (P : Program) (is : List FI) (t : TT) : Option (Value×Heap)→Option (TT×Heap)
 | some (_,H1)=>din P is t H1
 | none=>none
theorem gs_tt : gsV (.bool true) true o H=o:=rfl
theorem gs_ff : gsV (.bool false) false o H=o:=rfl
theorem gs_tf : gsV (.bool true) false o H=some (undef,H):=rfl
theorem gs_ft : gsV (.bool false) true o H=some (undef,H):=rfl
theorem gs_un : gsV undef w o H=some (undef,H):=rfl
theorem disK_some : disK P is d t (some (v,H1))=din P is (st v d t) H1:=rfl
theorem disU_some : disU P is t (some (v,H1))=din P is t H1:=rfl
theorem dis_nil : din P [] t H=some (t,H):=rfl
theorem dis_go : din P (.go f d::is) t H=disK P is d t (dop P f t H):=by
 simp only[din]
 cases dop P f t H<;>rfl
theorem dis_gd : din P (.gd p w f d::is) t H=disK P is d t (gsV (gt p t) w (dop P f t H) H):=by
 simp only[din]
 cases gsV (gt p t) w (dop P f t H) H<;>rfl
theorem dis_st : din P (.un (.store n a x)::is) t H=disU P is t (dop P (.store n a x) t H):=by
 simp only[din]
 cases dop P (.store n a x) t H<;>rfl
theorem dis_mu : din P (.un (.mapUpdate kt a k x)::is) t H=disU P is t (dop P (.mapUpdate kt a k x) t H):=by
 simp only[din]
 cases dop P (.mapUpdate kt a k x) t H<;>rfl
theorem dis_nc : din P (.un (.nilCheck x)::is) t H=disU P is t (dop P (.nilCheck x) t H):=by
 simp only[din]
 cases dop P (.nilCheck x) t H<;>rfl
theorem dis_cl {es : Nat} {z : List Value} : din P (.un (.clear es z x)::is) t H=disU P is t (dop P (.clear es z x) t H):=by
 simp only[din]
 cases dop P (.clear es z x) t H<;>rfl
def disAK (P : Program) (is : List FI) (d : Pth) (t : TT) (pre : List Heap) : Option (Value×Heap)→Option (TT×List Heap×Heap)
 | some (v,H1)=>dinA P is (st v d t) H1 pre
 | none=>none
def disAU (P : Program) (is : List FI) (t : TT) (pre : List Heap) : Option (Value×Heap)→Option (TT×List Heap×Heap)
 | some (_,H1)=>dinA P is t H1 pre
 | none=>none
theorem disAK_some : disAK P is d t pre (some (v,H1))=dinA P is (st v d t) H1 pre:=rfl
theorem disAU_some : disAU P is t pre (some (v,H1))=dinA P is t H1 pre:=rfl
theorem disA_nil : dinA P [] t H pre=some (t,pre,H):=rfl
theorem disA_go : dinA P (.go f d::is) t H pre=disAK P is d t (pre++[H]) (dop P f t H):=by
 simp only[dinA]
 cases dop P f t H<;>rfl
theorem disA_gd : dinA P (.gd p w f d::is) t H pre=disAK P is d t (pre++[H]) (gsV (gt p t) w (dop P f t H) H):=by
 simp only[dinA]
 cases gsV (gt p t) w (dop P f t H) H<;>rfl
theorem disA_un : dinA P (.un f::is) t H pre=disAU P is t (pre++[H]) (dop P f t H):=by
 simp only[dinA]
 cases dop P f t H<;>rfl
end
theorem D2 : type_of% (And.intro D1<|And.intro @gs_tt<|And.intro @gs_ff<|And.intro @gs_tf<|And.intro @gs_ft<|And.intro @gs_un<|And.intro @disK_some<|And.intro @disU_some<|And.intro @dis_nil<|And.intro @dis_go<|And.intro @dis_gd<|And.intro @dis_st<|And.intro @dis_mu<|And.intro @dis_nc<|And.intro @dis_cl<| And.intro @disAK_some<|And.intro @disAU_some<|And.intro @disA_nil<|And.intro @disA_go<|And.intro @disA_un<|And.intro @disA_gd<|And.intro @List.nil_append.{0} @List.cons_append.{0}):=
 And.intro D1<|And.intro @gs_tt<|And.intro @gs_ff<|And.intro @gs_tf<|And.intro @gs_ft<|And.intro @gs_un<|And.intro @disK_some<|And.intro @disU_some<|And.intro @dis_nil<|And.intro @dis_go<|And.intro @dis_gd<|And.intro @dis_st<|And.intro @dis_mu<|And.intro @dis_nc<|And.intro @dis_cl<| And.intro @disAK_some<|And.intro @disAU_some<|And.intro @disA_nil<|And.intro @disA_go<|And.intro @disA_un<|And.intro @disA_gd<|And.intro @List.nil_append.{0} @List.cons_append.{0}
end Go.Xe
