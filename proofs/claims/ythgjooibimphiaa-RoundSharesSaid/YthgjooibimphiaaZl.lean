/- Rules of reasoning over the executable reading of the model's code (part Z11): slices of rows of cells, and arguments of any shape. Conditions: none; for every program. -/
import Derived.Test.YthgjooibimphiaaZj
import Derived.OpenShut
namespace Go.Xe
open Go Go.RowKit Go.ChangeShapes Go.WideShapes
inductive SlN (H : Heap) (es : Nat) : Value→List (List Value)→Prop
 | nil : SlN H es (.slice none 0 0) []
 | spot (i o s : Nat) : SlN H es (.slice (some ⟨i,o,some s⟩) 0 0) []
 | at {i o n c : Nat} {a : Array Value} {el : TypeId} {rw : Bool} {l : List (List Value)} (hi : i<H.next) (hc : H.cellsAt i=some (a,el,rw)) (hn : n≤c) (hl : l.length=n) (hs : o+n*es≤a.size)
   (hv : ∀ k r,l[k]?=some r→r.length=es∧∀ j x,r[j]?=some x→a[o+k*es+j]?=some x) : SlN H es (.slice (some ⟨i,o,none⟩) n c) l
theorem SlN.grow {A B : Heap} (g : Grow A B) {es : Nat} {v : Value} {l : List (List Value)} (h : SlN A es v l) : SlN B es v l:=by
 cases h with
 | nil=>exact .nil
 | spot i o s=>exact .spot i o s
 | «at» hi hc hn hl hs hv=>exact .at (Nat.lt_of_lt_of_le hi g.1) ((g.cells hi).trans hc) hn hl hs hv
theorem SlN.len {H : Heap} {es : Nat} {v : Value} {l : List (List Value)} (h : SlN H es v l) : ylen 0 H v=some (.int .i64 l.length):=by
 cases h with
 | nil=>rfl
 | spot=>rfl
 | «at» _ _ _ hl=>rw[hl];rfl
theorem SlN.one {H : Heap} {v : Value} {l : List Value} (h : SlN H 1 v (l.map fun x=>[x])) : Sl H v l:=by
 generalize he : l.map (fun x=>[x])=r at h
 cases h with
 | nil=>rw[List.map_eq_nil_iff.1 he];exact .nil
 | spot i o s=>rw[List.map_eq_nil_iff.1 he];exact .spot i o s
 | «at» hi hc hn hl hs hv=>
  subst he
  refine .at hi hc hn (by simpa using hl) (by simpa using hs) (fun k x hx=>?_)
  have:=(hv k [x] (by rw[List.getElem?_map,hx];rfl)).2 0 x rfl
  simpa using this
theorem SlN.get {H : Heap} {es : Nat} {v : Value} {l : List (List Value)} (h : SlN H es v l) {k : Nat} {r : List Value} (hx : l[k]?=some r) :
  ∃ i o,(∀ kd,yindexAddr none es v (.int kd k)=some (.pointer (some ⟨i,o,none⟩)))∧(∀ H',Grow H H'→es≠0→yloadN es H' (.pointer (some ⟨i,o,none⟩))=some (.agg ⟨r⟩)) ∧
   (∀ H',Grow H H'→∀ j x,r[j]?=some x→yload1 H' (.pointer (some ⟨i,o+j,none⟩))=some x):=by
 cases h with
 | nil=>simp at hx
 | spot=>simp at hx
 | «at» hi hc hn hl hs hv=>
  rename_i i o n c a el rw
  have hk : k<n:=by
   have:=(List.getElem?_eq_some_iff.1 hx).1
   omega
  obtain⟨h1,h2⟩:=hv k r hx
  have hle : k*es+es≤n*es:=by
   have:=Nat.mul_le_mul_right es (show k+1≤n by omega)
   rw[Nat.add_mul,Nat.one_mul] at this
   exact this
  refine⟨i,o+k*es,fun kd=>?_,fun H' g he=>?_,fun H' g j x hj=>?_⟩
  ·simp only[yindexAddr]
   rw[if_pos ⟨by omega,by omega⟩]
   simp
  ·simp only[yloadN]
   rw[(g.cells hi).trans hc]
   simp only
   rw[if_pos ⟨by omega,he⟩]
   congr 2
   apply Array.toList_inj.1
   apply List.ext_getElem?
   intro j
   have e1 : (a.extract (o+k*es) (o+k*es+es)).toList[j]?=if j<es then a[o+k*es+j]? else none:=by
    rw[Array.getElem?_toList,Array.getElem?_extract]
    by_cases hj : j<es
    ·rw[if_pos (by omega),if_pos hj]
    ·rw[if_neg (by omega),if_neg hj]
   rw[e1]
   by_cases hj : j<es
   ·rw[if_pos hj]
    have e2 : r[j]?=some r[j]:=by simp[h1,hj]
    rw[h2 j _ e2]
    exact e2.symm
   ·rw[if_neg hj]
    simp;omega
  ·simp only[yload1]
   rw[(g.cells hi).trans hc]
   exact h2 j x hj
inductive Sh where
 | int (k : IntKind)|bool|str|unit|pair (a b : Sh)|slice (es : Nat) (s : Sh)
@[reducible] def Ty : Sh→Type
 | .int _=>Int
 | .bool=>Bool
 | .str=>ByteArray
 | .unit=>Unit
 | .pair a b=>Ty a×Ty b
 | .slice _ s=>List (Ty s)
def Sem (H : Heap) : (s : Sh)→List Value→Ty s→Prop
 | .int k,cs,n=>cs=[.int k n]∧(Lit.int k n).wf=true
 | .bool,cs,b=>cs=[.bool b]
 | .str,cs,s=>cs=[.string s]∧s.size≤maxLen
 | .unit,cs,_=>cs=[]
 | .pair a b,cs,x=>∃ c1 c2,cs=c1++c2∧Sem H a c1 x.1∧Sem H b c2 x.2
 | .slice es s,cs,(l : List (Ty s))=>∃ (v : Value) (rows : List (List Value)),cs=[v]∧SlN H es v rows∧rows.length=l.length∧l.length≤maxLen∧∀ (k : Nat) (r : List Value) (x : Ty s),rows[k]?=some r→l[k]?=some x→Sem H s r x
section
variable {H : Type} {enc : TypeId×Value→H} {P : Program} {w : World} {A : Heap}
end
end Go.Xe
/- Rules of reasoning over the executable reading of the model's code (part Z12): the equations of one step, as one. Conditions: none; for every program. -/
namespace Go.Xe
open Go
theorem D1 : type_of% (And.intro @ypick_b<|And.intro @Option.map_some.{0,0}<|And.intro @Option.map_none.{0,0}<|And.intro @bin_add<|And.intro @bin_sub<|And.intro @bin_mul<|And.intro @bin_quo<|And.intro @bin_rem<|And.intro @bin_eql<|And.intro @bin_neq<|And.intro @bin_lss<|And.intro @bin_leq<|And.intro @bin_gtr<|And.intro @bin_geq<|And.intro @un_not<|And.intro @un_neg<|And.intro @ex_tup<|And.intro @yconv_int<|And.intro @List.getElem?_cons_zero.{0}<|And.intro @List.getElem?_cons_succ.{0}<|And.intro @List.map_cons.{0,0}<|And.intro @List.map_nil.{0,0}<|And.intro @List.getElem?_toArray.{0}<|And.intro @if_true.{1}<|And.intro @if_false.{1}<|And.intro @Bool.false_eq_true<|And.intro @Bool.true_eq_false<|And.intro @Bool.not_true<|And.intro @Bool.not_false<|And.intro @decide_true<|And.intro @decide_false<|And.intro @wrap_i64<|And.intro @ite_self.{1}<|And.intro @List.take_succ_cons.{0}<|And.intro @List.take_zero.{0}<|And.intro @Int.ofNat_eq_natCast<|And.intro @Int.cast_ofNat_Int<|And.intro @yfill_cons<|And.intro @yfill_nil<|And.intro @yfV_int<|And.intro @yfV_bool<|And.intro @yfV_string<|And.intro @yfV_slice<|And.intro @yfV_ptr<|And.intro @yfV_map<|And.intro @yfV_func<|And.intro @yfV_agg<|And.intro @ystE<|And.intro @ystC_int<|And.intro @ystC_bool<|And.intro @ystC_string<|And.intro @ystC_slice<|And.intro @ystC_ptr<|And.intro @ystC_map<|And.intro @ystC_func<|And.intro @ystC_agg<|And.intro @ok1_int<|And.intro @ok1_bool<|And.intro @ok1_string<|And.intro @ok1_slice<|And.intro @ok1_ptr<|And.intro @ok1_map<|And.intro @ok1_func<|And.intro @List.all_cons.{0}<|And.intro @List.all_nil.{0}<|And.intro @Bool.and_self<|And.intro @Bool.and_true<|And.intro @setC_nil<|And.intro @setC_cons<|And.intro @ldN<|And.intro @arr_size<|And.intro @arr_ext<|And.intro @List.length_cons.{0}<|And.intro @List.length_nil.{0}<|And.intro @List.set_cons_zero.{0}<|And.intro @List.set_cons_succ.{0}<|And.intro @List.drop_zero.{0}<|And.intro @List.drop_succ_cons.{0}<|And.intro @Nat.sub_zero<|And.intro @ne_eq.{1}<|And.intro @not_false_eq_true<|And.intro @and_self<|And.intro @and_true<|And.intro @true_and<|And.intro @Nat.succ_ne_self<|And.intro @cells_set<|And.intro @Heap.next_alloc<|And.intro @Heap.next_set<|And.intro @eq_self.{1}<|And.intro @xbox_agg<|And.intro @ld1<|And.intro @Option.bind_some.{0,0}<|And.intro @cells_alloc<|And.intro @arr_get<|And.intro @Nat.add_zero<|And.intro @Nat.zero_add<|And.intro @gt_st<|@full_st):=
 And.intro @ypick_b<|And.intro @Option.map_some.{0,0}<|And.intro @Option.map_none.{0,0}<|And.intro @bin_add<|And.intro @bin_sub<|And.intro @bin_mul<|And.intro @bin_quo<|And.intro @bin_rem<|And.intro @bin_eql<|And.intro @bin_neq<|And.intro @bin_lss<|And.intro @bin_leq<|And.intro @bin_gtr<|And.intro @bin_geq<|And.intro @un_not<|And.intro @un_neg<|And.intro @ex_tup<|And.intro @yconv_int<|And.intro @List.getElem?_cons_zero.{0}<|And.intro @List.getElem?_cons_succ.{0}<|And.intro @List.map_cons.{0,0}<|And.intro @List.map_nil.{0,0}<|And.intro @List.getElem?_toArray.{0}<|And.intro @if_true.{1}<|And.intro @if_false.{1}<|And.intro @Bool.false_eq_true<|And.intro @Bool.true_eq_false<|And.intro @Bool.not_true<|And.intro @Bool.not_false<|And.intro @decide_true<|And.intro @decide_false<|And.intro @wrap_i64<|And.intro @ite_self.{1}<|And.intro @List.take_succ_cons.{0}<|And.intro @List.take_zero.{0}<|And.intro @Int.ofNat_eq_natCast<|And.intro @Int.cast_ofNat_Int<|And.intro @yfill_cons<|And.intro @yfill_nil<|And.intro @yfV_int<|And.intro @yfV_bool<|And.intro @yfV_string<|And.intro @yfV_slice<|And.intro @yfV_ptr<|And.intro @yfV_map<|And.intro @yfV_func<|And.intro @yfV_agg<|And.intro @ystE<|And.intro @ystC_int<|And.intro @ystC_bool<|And.intro @ystC_string<|And.intro @ystC_slice<|And.intro @ystC_ptr<|And.intro @ystC_map<|And.intro @ystC_func<|And.intro @ystC_agg<|And.intro @ok1_int<|And.intro @ok1_bool<|And.intro @ok1_string<|And.intro @ok1_slice<|And.intro @ok1_ptr<|And.intro @ok1_map<|And.intro @ok1_func<|And.intro @List.all_cons.{0}<|And.intro @List.all_nil.{0}<|And.intro @Bool.and_self<|And.intro @Bool.and_true<|And.intro @setC_nil<|And.intro @setC_cons<|And.intro @ldN<|And.intro @arr_size<|And.intro @arr_ext<|And.intro @List.length_cons.{0}<|And.intro @List.length_nil.{0}<|And.intro @List.set_cons_zero.{0}<|And.intro @List.set_cons_succ.{0}<|And.intro @List.drop_zero.{0}<|And.intro @List.drop_succ_cons.{0}<|And.intro @Nat.sub_zero<|And.intro @ne_eq.{1}<|And.intro @not_false_eq_true<|And.intro @and_self<|And.intro @and_true<|And.intro @true_and<|And.intro @Nat.succ_ne_self<|And.intro @cells_set<|And.intro @Heap.next_alloc<|And.intro @Heap.next_set<|And.intro @eq_self.{1}<|And.intro @xbox_agg<|And.intro @ld1<|And.intro @Option.bind_some.{0,0}<|And.intro @cells_alloc<|And.intro @arr_get<|And.intro @Nat.add_zero<|And.intro @Nat.zero_add<|And.intro @gt_st<|@full_st
end Go.Xe
