/- Rules of reasoning over the executable reading of the model's code (part Z18): guarded operations without cases. Conditions: none; for every program. -/
import Derived.Test.YtelfbgmhleneiaaZq
import Derived.Test.YtelfbgmhleneiaaZm
namespace Go.Xe
open Go
section
variable {P : Program} {is : List FI} {d : Pth} {t : TT} {H : Heap} {w b : Bool} {v u : Value} {o : Option (Value×Heap)} {c p : Prop} [Decidable c] [Decidable p] {pre : List Heap} {k : IntKind} {x y : Int}
theorem gs_bt : gsV (.bool b) true o H=if b=true then o else some (undef,H):=rfl
theorem gs_bf : gsV (.bool b) false o H=if b=false then o else some (undef,H):=rfl
theorem disK_ite : disK P is d t (if c then some (v,H) else some (u,H))=din P is (st (if c then v else u) d t) H:=by
 split<;>rfl
theorem disAK_ite : disAK P is d t pre (if c then some (v,H) else some (u,H))=dinA P is (st (if c then v else u) d t) H pre:=by
 split<;>rfl
theorem ite_vb {q r : Bool} : (if c then Value.bool q else Value.bool r)=.bool (if c then q else r):=by split<;>rfl
theorem ite_vi : (if c then Value.int k x else Value.int k y)=.int k (if c then x else y):=by split<;>rfl
theorem ite_dn : (if c then decide p else false)=decide (c∧p):=by by_cases h : c<;>simp[h]
theorem ite_nd : (if c then false else decide p)=decide (¬ c∧p):=by by_cases h : c<;>simp[h]
theorem ite_td : (if c then true else decide p)=decide (c∨p):=by by_cases h : c<;>simp[h]
theorem ite_dt : (if c then decide p else true)=decide (¬ c∨p):=by by_cases h : c<;>simp[h]
theorem ite_tf : (if c then true else false)=decide c:=by by_cases h : c<;>simp[h]
theorem ite_ft : (if c then false else true)=decide (¬ c):=by by_cases h : c<;>simp[h]
theorem not_dec : (!decide p)=decide (¬ p):=by by_cases h : p<;>simp[h]
theorem dec_t : (decide p=true)=p:=by simp
theorem dec_f : (decide p=false)=¬ p:=by simp
end
section
variable {P : Program} [Gl P] [Orc P] {rnd : Option Nat} {Q : FQ} {K : List FFr} {t : TT} {m : List Nat} {H : Heap}
variable {is : List FI} {d p : Pth} {fa : FA} {args : List FA} {v : Value} {g : FuncId} {a b l : List Value} {c : Prop} [Decidable c] {pre : List Heap} {R : TT→List Heap→Prop}
theorem VI.callGt (hp : gt p t=.bool (decide c)) (hf : c→dA t fa=.func (.func g) ⟨a⟩ ⟨b⟩) (hs : c→Gives P g l H v) (hl : c→a++args.map (dA t)++b=l) (k : ∀ H',Grow H H'→VI P rnd Q K m is (st (if c then v else undef) d t) H') :
  VI P rnd Q K m (.gd p true (.call fa args) d::is) t H:=by
 by_cases h : c
 ·refine .callAT (by rw[hp,decide_eq_true h]) (hf h) (hs h) (hl h) (fun H' g=>?_)
  have:=k H' g
  rwa [if_pos h] at this
 ·refine .gdF (by rw[hp,decide_eq_false h];rfl) ?_
  have:=k H (Grow.refl H)
  rwa [if_neg h] at this
theorem VI.callGf (hp : gt p t=.bool (decide c)) (hf : ¬ c→dA t fa=.func (.func g) ⟨a⟩ ⟨b⟩) (hs : ¬ c→Gives P g l H v) (hl : ¬ c→a++args.map (dA t)++b=l) (k : ∀ H',Grow H H'→VI P rnd Q K m is (st (if c then undef else v) d t) H') :
  VI P rnd Q K m (.gd p false (.call fa args) d::is) t H:=by
 by_cases h : c
 ·refine .gdF (by rw[hp,decide_eq_true h];rfl) ?_
  have:=k H (Grow.refl H)
  rwa [if_pos h] at this
 ·refine .callAT (by rw[hp,decide_eq_false h]) (hf h) (hs h) (hl h) (fun H' g=>?_)
  have:=k H' g
  rwa [if_neg h] at this
theorem VD.callGt (hp : gt p t=.bool (decide c)) (hf : c→dA t fa=.func (.func g) ⟨a⟩ ⟨b⟩) (hs : c→Gives P g l H v) (hl : c→a++args.map (dA t)++b=l) (k : ∀ H',Grow H H'→VD P is (st (if c then v else undef) d t) H' (pre++[H]) R) :
  VD P (.gd p true (.call fa args) d::is) t H pre R:=by
 by_cases h : c
 ·refine .callAT (by rw[hp,decide_eq_true h]) (hf h) (hs h) (hl h) (fun H' g=>?_)
  have:=k H' g
  rwa [if_pos h] at this
 ·refine .gdF (by rw[hp,decide_eq_false h];rfl) ?_
  have:=k H (Grow.refl H)
  rwa [if_neg h] at this
theorem VD.callGf (hp : gt p t=.bool (decide c)) (hf : ¬ c→dA t fa=.func (.func g) ⟨a⟩ ⟨b⟩) (hs : ¬ c→Gives P g l H v) (hl : ¬ c→a++args.map (dA t)++b=l) (k : ∀ H',Grow H H'→VD P is (st (if c then undef else v) d t) H' (pre++[H]) R) :
  VD P (.gd p false (.call fa args) d::is) t H pre R:=by
 by_cases h : c
 ·refine .gdF (by rw[hp,decide_eq_true h];rfl) ?_
  have:=k H (Grow.refl H)
  rwa [if_pos h] at this
 ·refine .callAT (by rw[hp,decide_eq_false h]) (hf h) (hs h) (hl h) (fun H' g=>?_)
  have:=k H' g
  rwa [if_neg h] at this
end
section
variable {H : Heap} {el : TypeId} {k : IntKind} {n : Int} {b : Bool} {p : Option Addr} {m l : Nat} {q : Option Nat} {f : Fn} {x y : Array Value}
theorem xbox_int : xbox H el (.int k n)=some (.pointer (some ⟨H.next,0,none⟩),H.alloc (.cells ⟨[.int k n]⟩ el true)):=rfl
theorem xbox_bool : xbox H el (.bool b)=some (.pointer (some ⟨H.next,0,none⟩),H.alloc (.cells ⟨[.bool b]⟩ el true)):=rfl
theorem xbox_ptr : xbox H el (.pointer p)=some (.pointer (some ⟨H.next,0,none⟩),H.alloc (.cells ⟨[.pointer p]⟩ el true)):=rfl
theorem xbox_slice : xbox H el (.slice p m l)=some (.pointer (some ⟨H.next,0,none⟩),H.alloc (.cells ⟨[.slice p m l]⟩ el true)):=rfl
theorem xbox_map : xbox H el (.map q)=some (.pointer (some ⟨H.next,0,none⟩),H.alloc (.cells ⟨[.map q]⟩ el true)):=rfl
theorem xbox_func : xbox H el (.func f x y)=some (.pointer (some ⟨H.next,0,none⟩),H.alloc (.cells ⟨[.func f x y]⟩ el true)):=rfl
end
theorem ok1_nilFunc : ok1 .nilFunc=true:=rfl
theorem xnil_ptr {a : Addr} : xnil (.pointer (some a))=some (.pointer (some a)):=rfl
theorem Lv.retM {t : TT} {H : Heap} {rs : List FRes} {S : Value→Heap→Prop} {w : Value} {d : Nat} (hd : H.get d=some (.deferred true)) (h : yres t (H.set d .dead) rs=some w) (k : S w (H.set d .dead)) : Lv rs S .ret t [d] H:=
 ⟨fun id=>by simp,H.set d .dead,w,by simp only[xunmark,hd],h,k⟩
theorem D3 : type_of% (And.intro D2<|And.intro @gs_bt<|And.intro @gs_bf<|And.intro @disK_ite<|And.intro @disAK_ite<|And.intro @ite_vb<|And.intro @ite_vi<|And.intro @ite_dn<|And.intro @ite_nd<|And.intro @ite_td<|And.intro @ite_dt<|And.intro @ite_tf<|And.intro @ite_ft<|And.intro @not_dec<|And.intro ok1_nilFunc<|And.intro @xnil_ptr<|And.intro @xbox_int<|And.intro @xbox_bool<|And.intro @xbox_ptr<|And.intro @xbox_slice<|And.intro @xbox_map<|And.intro @xbox_func<|And.intro @dec_t @dec_f):=
 And.intro D2<|And.intro @gs_bt<|And.intro @gs_bf<|And.intro @disK_ite<|And.intro @disAK_ite<|And.intro @ite_vb<|And.intro @ite_vi<|And.intro @ite_dn<|And.intro @ite_nd<|And.intro @ite_td<|And.intro @ite_dt<|And.intro @ite_tf<|And.intro @ite_ft<|And.intro @not_dec<|And.intro ok1_nilFunc<|And.intro @xnil_ptr<|And.intro @xbox_int<|And.intro @xbox_bool<|And.intro @xbox_ptr<|And.intro @xbox_slice<|And.intro @xbox_map<|And.intro @xbox_func<|And.intro @dec_t @dec_f
theorem nx : type_of% (And.intro @Heap.next_alloc @Heap.next_set):=And.intro @Heap.next_alloc @Heap.next_set
theorem D5 : type_of% (And.intro @gt_st<|And.intro @full_st<|And.intro @decide_true<|And.intro @decide_false Bool.false_eq_true):=And.intro @gt_st<|And.intro @full_st<|And.intro @decide_true<|And.intro @decide_false Bool.false_eq_true
theorem ds {α : Type} : (∀ (n : Nat) (a : α) (l : List α),(a::l).drop (n+1)=l.drop n)∧(∀ l : List α,l.drop 0=l):=⟨fun _ _ _=>rfl,fun _=>rfl⟩
theorem D4 : type_of% (And.intro D3<|And.intro @mm_max<|And.intro @mm_min<|And.intro @cells_alloc_at<|And.intro @cells_alloc_ne<|And.intro @cells_set_at<|And.intro @cells_set_ne<|And.intro @dop.eq_1<|And.intro @dop.eq_2<|And.intro @dop.eq_3<|And.intro @dop.eq_4<|And.intro @dop.eq_5<|And.intro @dop.eq_6<|And.intro @dop.eq_7<|And.intro @dop.eq_8<|And.intro @dop.eq_9<|And.intro @dop.eq_10<|And.intro @dop.eq_11<|And.intro @dop.eq_12<|And.intro @dop.eq_13<|And.intro @dop.eq_14<|And.intro @dop.eq_15<|And.intro @dop.eq_16<|And.intro @dop.eq_17<|And.intro @dop.eq_18<|And.intro @dop.eq_19<|And.intro @dop.eq_20<|And.intro @dop.eq_21<|And.intro @dop.eq_22<|And.intro @dop.eq_23<|And.intro @dop.eq_24<|And.intro @dop.eq_25<|And.intro @dop.eq_26<|And.intro @dop.eq_27<|And.intro @dop.eq_28<|And.intro @dop.eq_29<|And.intro @dop.eq_30<|And.intro @dop.eq_31<|And.intro @dop.eq_32<|And.intro @dop.eq_33<|And.intro @dop.eq_34<|And.intro @dop.eq_35<|And.intro @dop.eq_36<|And.intro @dop.eq_37<|And.intro @dop.eq_38<|And.intro @dA.eq_1<|And.intro @dA.eq_2<|And.intro @sets.eq_1<|And.intro @sets.eq_2<|And.intro @yfield1.eq_1<|And.intro @yfield1.eq_2<|And.intro @yfieldN.eq_1<|And.intro @yfieldN.eq_2<|And.intro @yfieldAddr.eq_1 @yfieldAddr.eq_2):=And.intro D3<|And.intro @mm_max<|And.intro @mm_min<|And.intro @cells_alloc_at<|And.intro @cells_alloc_ne<|And.intro @cells_set_at<|And.intro @cells_set_ne<|And.intro @dop.eq_1<|And.intro @dop.eq_2<|And.intro @dop.eq_3<|And.intro @dop.eq_4<|And.intro @dop.eq_5<|And.intro @dop.eq_6<|And.intro @dop.eq_7<|And.intro @dop.eq_8<|And.intro @dop.eq_9<|And.intro @dop.eq_10<|And.intro @dop.eq_11<|And.intro @dop.eq_12<|And.intro @dop.eq_13<|And.intro @dop.eq_14<|And.intro @dop.eq_15<|And.intro @dop.eq_16<|And.intro @dop.eq_17<|And.intro @dop.eq_18<|And.intro @dop.eq_19<|And.intro @dop.eq_20<|And.intro @dop.eq_21<|And.intro @dop.eq_22<|And.intro @dop.eq_23<|And.intro @dop.eq_24<|And.intro @dop.eq_25<|And.intro @dop.eq_26<|And.intro @dop.eq_27<|And.intro @dop.eq_28<|And.intro @dop.eq_29<|And.intro @dop.eq_30<|And.intro @dop.eq_31<|And.intro @dop.eq_32<|And.intro @dop.eq_33<|And.intro @dop.eq_34<|And.intro @dop.eq_35<|And.intro @dop.eq_36<|And.intro @dop.eq_37<|And.intro @dop.eq_38<|And.intro @dA.eq_1<|And.intro @dA.eq_2<|And.intro @sets.eq_1<|And.intro @sets.eq_2<|And.intro @yfield1.eq_1<|And.intro @yfield1.eq_2<|And.intro @yfieldN.eq_1<|And.intro @yfieldN.eq_2<|And.intro @yfieldAddr.eq_1 @yfieldAddr.eq_2
theorem D6 : type_of% (And.intro @dA.eq_1<|And.intro @dA.eq_2<|And.intro @List.map_cons.{0,0}<|And.intro @List.map_nil.{0,0}<|And.intro @List.nil_append.{0}<|And.intro @List.append_nil.{0} @List.cons_append.{0}):=And.intro @dA.eq_1<|And.intro @dA.eq_2<|And.intro @List.map_cons.{0,0}<|And.intro @List.map_nil.{0,0}<|And.intro @List.nil_append.{0}<|And.intro @List.append_nil.{0} @List.cons_append.{0}
end Go.Xe
/- Rules of reasoning over the executable reading of the model's code (part Z19): slices of one's own in loops over functions. Conditions: none; for every program. -/
namespace Go.Xe
open Go
def cutH (X : Heap) (n : Nat) : Heap:={ X with next:=n }
theorem cutH_grow {X : Heap} {n : Nat} (h : n≤X.next) : Grow (cutH X n) X:=⟨h,fun _ _=>rfl⟩
theorem Ow.base {A B X : Heap} {e : TypeId} {v : Value} {l : List Value} (h : Ow A X e v l) (hn : B.next≤A.next) : Ow B X e v l:=by
 rcases h with h|⟨i,h1,h2,h3,h4⟩
 ·exact .inl h
 ·exact .inr ⟨i,Nat.le_trans hn h1,h2,h3,h4⟩
theorem Ow.growS {A B X Y : Heap} {U : Nat→Prop} {e : TypeId} {v : Value} {l : List Value} (h : Ow A X e v l) (g : GrowS U X Y) (hU : ∀ i,A.next≤i→¬ U i) (hn : B.next≤A.next) : Ow B Y e v l:=by
 rcases h with h|⟨i,h1,h2,h3,h4⟩
 ·exact .inl h
 ·exact .inr ⟨i,Nat.le_trans hn h1,Nat.lt_of_lt_of_le h2 g.1,h3,by rw[g.cells h2 (hU i h1)];exact h4⟩
theorem Ow.slice {A X : Heap} {e : TypeId} {v : Value} {l : List Value} (h : Ow A X e v l) : ∃ p n c,v=.slice p n c:=by
 rcases h with⟨rfl,_⟩|⟨i,_,_,rfl,_⟩<;>exact⟨_,_,_,rfl⟩
theorem Grow.toS {A B : Heap} (h : Grow A B) {X : Heap} {n : Nat} (e : A=cutH X n) {U : Nat→Prop} (hU : ∀ i,n≤i→U i) (hX : X.next≤B.next) : GrowS U X B:=by
 subst e
 exact⟨hX,fun i _ hu=>h.2 i (by show i<n;exact Nat.lt_of_not_le (fun c=>hu (hU i c)))⟩
end Go.Xe
/- Rules of reasoning over the executable reading of the model's code (part Z20): slices whose elements have several cells each. Conditions: none; for every program. -/
namespace Go.Xe
open Go
inductive Sw (w : Nat) (H : Heap) : Value→List (List Value)→Prop
 | nil : Sw w H (.slice none 0 0) []
 | spot (i o s : Nat) : Sw w H (.slice (some ⟨i,o,some s⟩) 0 0) []
 | at {i o n c : Nat} {a : Array Value} {el : TypeId} {rw : Bool} {l : List (List Value)} (hi : i<H.next) (hc : H.cellsAt i=some (a,el,rw)) (hn : n≤c) (hl : l.length=n) (hs : o+n*w≤a.size) (hv : ∀ k x,l[k]?=some x→a.extract (o+k*w) (o+k*w+w)=⟨x⟩) : Sw w H (.slice (some ⟨i,o,none⟩) n c) l
theorem Sw.grow {w : Nat} {A B : Heap} (g : Grow A B) {v : Value} {l : List (List Value)} (h : Sw w A v l) : Sw w B v l:=by
 cases h with
 | nil=>exact .nil
 | spot i o s=>exact .spot i o s
 | «at» hi hc hn hl hs hv=>exact .at (Nat.lt_of_lt_of_le hi g.1) ((g.cells hi).trans hc) hn hl hs hv
theorem Sw.len {w : Nat} {H : Heap} {v : Value} {l : List (List Value)} (h : Sw w H v l) : ylen 0 H v=some (.int .i64 l.length):=by
 cases h with
 | nil=>rfl
 | spot=>rfl
 | «at» hi hc hn hl hs hv=>simp only[ylen,hl]
theorem Sw.get {w : Nat} {H : Heap} {v : Value} {l : List (List Value)} (h : Sw w H v l) (hw : 0<w) {n : Int} {k : Nat} {x : List Value} (hx : l[k]?=some x) (hn : n=(k : Int)) {kd : IntKind} : ∃ p,yindexAddr none w v (.int kd n)=some p∧∀ H',Grow H H'→yloadN w H' p=some (.agg ⟨x⟩):=by
 have hk : k<l.length:=(List.getElem?_eq_some_iff.1 hx).1
 cases h with
 | nil=>cases hx
 | spot=>cases hx
 | «at» hi hc hn' hl hs hv=>
  rename_i i o n0 c a el rw
  subst hn
  refine⟨.pointer (some ⟨i,o+k*w,none⟩),?_,fun H' g=>?_⟩
  ·simp only[yindexAddr]
   rw[if_pos ⟨by omega,by omega⟩]
   simp
  ·simp only[yloadN,(g.cells hi).trans hc]
   have h1 : k*w+w≤n0*w:=by
    have : (k+1)*w≤n0*w:=Nat.mul_le_mul_right w (by omega)
    rw[Nat.succ_mul] at this;exact this
   rw[if_pos ⟨by omega,by omega⟩,hv k x hx]
theorem Sw.one {w : Nat} {H : Heap} {i : Nat} {c : List Value} {e : TypeId} (h : Bx H i c e) (hc : c.length=w) : Sw w H (.slice (some ⟨i,0,none⟩) 1 1) [c]:=by
 refine .at h.1 h.2 (Nat.le_refl _) rfl (by show 0+1*w≤c.length;omega) ?_
 intro k x hx
 cases k with
 | zero=>
  simp only[List.getElem?_cons_zero,Option.some.injEq] at hx
  subst hx
  subst hc
  apply Array.ext'
  simp
 | succ k=>simp at hx
end Go.Xe
/- Rules of reasoning over the executable reading of the model's code (part Z21): own slices whose elements have several cells each, and appends to them. Conditions: none; for every program. -/
namespace Go.Xe
open Go
theorem flat_at {w : Nat} : ∀ {l : List (List Value)} {k : Nat} {x : List Value},(∀ x∈l,x.length=w)→l[k]?=some x→(l.flatten.drop (k*w)).take w=x
 | [],k,x,_,h=>by simp at h
 | y::l,0,x,hl,h=>by
  simp only[List.getElem?_cons_zero,Option.some.injEq] at h
  subst h
  have:=hl y (by simp)
  subst this
  simp
 | y::l,k+1,x,hl,h=>by
  simp only[List.getElem?_cons_succ] at h
  have e:=hl y (by simp)
  rw[List.flatten_cons,Nat.succ_mul,List.drop_append,e,List.drop_eq_nil_of_le (by omega),List.nil_append,show k*w+w-w=k*w by omega]
  exact flat_at (fun z hz=>hl z (by simp[hz])) h
theorem flat_len {w : Nat} : ∀ {l : List (List Value)},(∀ x∈l,x.length=w)→l.flatten.length=l.length*w
 | [],_=>by simp
 | y::l,hl=>by
  rw[List.flatten_cons,List.length_append,hl y (by simp),flat_len (fun z hz=>hl z (by simp[hz])),List.length_cons,Nat.succ_mul]
  omega
theorem Sw.flat {w : Nat} {H : Heap} {i c : Nat} {l : List (List Value)} {el : TypeId} {rw : Bool} (hi : i<H.next) (hc : H.cellsAt i=some (⟨l.flatten⟩,el,rw)) (hl : ∀ x∈l,x.length=w) (hn : l.length≤c) : Sw w H (.slice (some ⟨i,0,none⟩) l.length c) l:=by
 refine .at hi hc hn rfl (by show 0+l.length*w≤l.flatten.length;rw[flat_len hl];omega) (fun k x hx=>?_)
 have:=flat_at hl hx
 apply Array.ext'
 simp only[Nat.zero_add,List.extract_toArray,List.extract_eq_take_drop]
 rw[show k*w+w-k*w=w by omega,this]
theorem SlN.sw {w : Nat} {H : Heap} {v : Value} {l : List (List Value)} (h : SlN H w v l) : Sw w H v l:=by
 cases h with
 | nil=>exact .nil
 | spot i o s=>exact .spot i o s
 | «at» hi hc hn hl hs hv=>
  rename_i i o n c a el rw
  refine .at hi hc hn hl hs (fun k x hx=>?_)
  obtain⟨h1,h2⟩:=hv k x hx
  have hk : k<n:=by have:=(List.getElem?_eq_some_iff.1 hx).1;omega
  have hle : k*w+w≤n*w:=by
   have:=Nat.mul_le_mul_right w (show k+1≤n by omega)
   rw[Nat.add_mul,Nat.one_mul] at this
   exact this
  apply Array.toList_inj.1
  apply List.ext_getElem?
  intro j
  have e1 : (a.extract (o+k*w) (o+k*w+w)).toList[j]?=if j<w then a[o+k*w+j]? else none:=by
   rw[Array.getElem?_toList,Array.getElem?_extract]
   by_cases hj : j<w
   ·rw[if_pos (by omega),if_pos hj]
   ·rw[if_neg (by omega),if_neg hj]
  rw[e1]
  by_cases hj : j<w
  ·rw[if_pos hj]
   have e2 : x[j]?=some x[j]:=by simp[h1,hj]
   rw[h2 j _ e2]
   exact e2.symm
  ·rw[if_neg hj]
   simp;omega
theorem Sw.at2 {w : Nat} {H : Heap} {v : Value} {l : List (List Value)} (h : Sw w H v l) (hw : 0<w) {k : Nat} {x : List Value} (hx : l[k]?=some x) :
  ∃ i o,(∀ kd,yindexAddr none w v (.int kd k)=some (.pointer (some ⟨i,o,none⟩)))∧∀ H',Grow H H'→yloadN w H' (.pointer (some ⟨i,o,none⟩))=some (.agg ⟨x⟩)∧∀ j y,x[j]?=some y→yload1 H' (.pointer (some ⟨i,o+j,none⟩))=some y:=by
 have hk : k<l.length:=(List.getElem?_eq_some_iff.1 hx).1
 cases h with
 | nil=>cases hx
 | spot=>cases hx
 | «at» hi hc hn' hl hs hv=>
  rename_i i o n0 c a el rw
  have h1 : k*w+w≤n0*w:=by
   have : (k+1)*w≤n0*w:=Nat.mul_le_mul_right w (by omega)
   rw[Nat.succ_mul] at this;exact this
  have h2:=hv k x hx
  refine⟨i,o+k*w,fun kd=>?_,fun H' g=>⟨?_,fun j y hj=>?_⟩⟩
  ·simp only[yindexAddr]
   rw[if_pos ⟨by omega,by omega⟩]
   simp
  ·simp only[yloadN,(g.cells hi).trans hc]
   rw[if_pos ⟨by omega,by omega⟩,h2]
  ·simp only[yload1,(g.cells hi).trans hc]
   have e : (⟨x⟩ : Array Value)[j]?=some y:=(arr_get x j).trans hj
   rw[← h2,Array.getElem?_extract] at e
   by_cases hjw : j<min (o+k*w+w) a.size-(o+k*w)
   ·rw[if_pos hjw] at e;exact e
   ·rw[if_neg hjw] at e;cases e
theorem Sw.source {w : Nat} {H : Heap} {n c : Nat} {a : Option Addr} {r : List (List Value)} (h : Sw w H (.slice a n c) r) (hn : n≠0) (hw : 0<w) (hr : ∀ x∈r,x.length=w) : xsource H w n a=some ⟨r.flatten⟩∧r.length=n:=by
 cases h with
 | nil=>exact absurd rfl hn
 | spot=>exact absurd rfl hn
 | «at» hi hc hnc hl hs hv=>
  rename_i i o a el rw
  refine⟨?_,hl⟩
  have hnw : n*w≠0:=by
   have:=Nat.mul_pos (Nat.pos_of_ne_zero hn) hw
   omega
  simp only[xsource,hc]
  rw[if_pos ⟨hs,hnw⟩]
  congr 1
  have hfl:=flat_len hr
  apply Array.ext_getElem?
  intro j
  rw[Array.getElem?_extract]
  by_cases hj : j<n*w
  ·rw[if_pos (by omega)]
   have hk : j/w<r.length:=by rw[hl];exact (Nat.div_lt_iff_lt_mul hw).2 hj
   have e:=hv (j/w) r[j/w] (by simp[hk])
   have e2:=flat_at hr (k:=j/w) (x:=r[j/w]) (by simp[hk])
   have hm:=Nat.mod_lt j hw
   have hd : j/w*w+j%w=j:=Nat.div_add_mod' j w
   have hle : j/w*w+w≤n*w:=by
    have:=Nat.mul_le_mul_right w (show j/w+1≤n by omega)
    rw[Nat.add_mul,Nat.one_mul] at this
    exact this
   have e3 : (r.flatten)[j]?=(r[j/w])[j%w]?:=by
    rw[← e2,List.getElem?_take,if_pos hm,List.getElem?_drop,hd]
   have e4 : (⟨r.flatten⟩ : Array Value)[j]?=(r.flatten)[j]?:=arr_get _ _
   rw[e4,e3]
   have e5 : (⟨r[j/w]⟩ : Array Value)[j%w]?=(r[j/w])[j%w]?:=arr_get _ _
   rw[← e5,← e,Array.getElem?_extract,if_pos (by omega)]
   rw[show o+j/w*w+j%w=o+j by omega]
  ·rw[if_neg (by omega)]
   symm
   apply Array.getElem?_eq_none
   show r.flatten.length≤j
   rw[hfl,hl];omega
def OwW (_ : Nat) (H0 H : Heap) (e : TypeId) (v : Value) (l : List (List Value)) : Prop:=(v=.slice none 0 0∧l=[])∨∃ i,H0.next≤i∧i<H.next∧v=.slice (some ⟨i,0,none⟩) l.length l.length∧H.cellsAt i=some (⟨l.flatten⟩,e,true)
theorem OwW.sw {w : Nat} {H0 H : Heap} {e : TypeId} {v : Value} {l : List (List Value)} (h : OwW w H0 H e v l) (hl : ∀ x∈l,x.length=w) : Sw w H v l:=by
 rcases h with⟨rfl,rfl⟩|⟨i,_,h2,rfl,h4⟩
 ·exact .nil
 ·exact .flat h2 h4 hl (Nat.le_refl _)
theorem OwW.keep {w : Nat} {H0 H H' : Heap} {e : TypeId} {v : Value} {l : List (List Value)} (h : OwW w H0 H e v l) (g : Grow H H') : OwW w H0 H' e v l:=by
 rcases h with⟨rfl,rfl⟩|⟨i,h1,h2,rfl,h4⟩
 ·exact .inl ⟨rfl,rfl⟩
 ·exact .inr ⟨i,h1,Nat.lt_of_lt_of_le h2 g.1,rfl,(g.cells h2).trans h4⟩
theorem OwW.nil {w : Nat} {H0 H : Heap} {e : TypeId} : OwW w H0 H e (.slice none 0 0) []:=.inl ⟨rfl,rfl⟩
theorem OwW.len {w : Nat} {H0 H : Heap} {e : TypeId} {v : Value} {l : List (List Value)} (h : OwW w H0 H e v l) (X : Heap) : ylen 0 X v=some (.int .i64 l.length):=by
 rcases h with⟨rfl,rfl⟩|⟨i,_,_,rfl,_⟩<;>rfl
theorem OwW.base {w : Nat} {A B H : Heap} {e : TypeId} {v : Value} {l : List (List Value)} (h : OwW w A H e v l) (hn : B.next≤A.next) : OwW w B H e v l:=by
 rcases h with h|⟨i,h1,h2,h3,h4⟩
 ·exact .inl h
 ·exact .inr ⟨i,by omega,h2,h3,h4⟩
theorem OwW.append {w : Nat} {H0 H : Heap} {e : TypeId} {bytes : Nat} {s x : Value} {l r : List (List Value)} (hw : 0<w) (g : Grow H0 H) (hs : OwW w H0 H e s l) (hl : ∀ x∈l,x.length=w) (hx : Sw w H x r) (hr : ∀ x∈r,x.length=w) (hok : r.flatten.all ok1=true) (hb : (2*(l.length+r.length)+256)*bytes≤281474976710656) (h2 : l.length+r.length≤281474976710656) :
  ∃ v H',yappend e w bytes H s x=some (v,H')∧OwW w H0 H' e v (l++r)∧Grow H0 H'∧Apart H H' s:=by
 have hsx : ∃ b m c,x=.slice b m c:=by cases hx<;>exact⟨_,_,_,rfl⟩
 obtain⟨b,m,c,rfl⟩:=hsx
 by_cases hm : m=0
 ·subst hm
  have hr : r=[]:=by
   cases hx with
   | nil=>rfl
   | spot=>rfl
   | «at» hi hc hnc hl hss hv=>exact List.length_eq_zero_iff.1 hl
  subst hr
  refine⟨s,H,?_,by simpa using hs,g,Nat.le_refl _,fun _ _ _=>rfl⟩
  rcases hs with⟨rfl,rfl⟩|⟨i,_,_,rfl,_⟩<;>simp[yappend]
 ·obtain⟨h3,h4⟩:=hx.source hm hw hr
  subst h4
  have e48 : (2 : Nat) ^ 48=281474976710656:=by decide
  have hcond : ((⟨r.flatten⟩ : Array Value).toList.all fun y=>y.oneCell' && notTop y)=true:=hok
  rcases hs with⟨rfl,rfl⟩|⟨i,i1,i2,rfl,i4⟩
  ·refine⟨.slice (some ⟨H.next,0,none⟩) r.length r.length,H.alloc (.cells ⟨r.flatten⟩ e true),?_,?_,g.alloc _,Nat.le_succ _,fun j hj _=>by rw[Heap.get_alloc,if_neg (by omega)]⟩
   ·simp only[yappend]
    rw[if_neg hm,h3]
    simp only[]
    rw[e48,if_pos ⟨hcond,by simpa using hb,by simpa using h2⟩]
    simp
   ·exact .inr ⟨H.next,g.1,Nat.lt_succ_self _,rfl,cells_alloc _ _ _ _⟩
  ·refine⟨.slice (some ⟨H.next,0,none⟩) (l.length+r.length) (l.length+r.length),(H.set i (lentO 0 (l.length*w) ⟨l.flatten⟩ e H.next)).alloc (.cells ⟨(l++r).flatten⟩ e true),?_,?_,(g.set i1 _).alloc _,Nat.le_succ _,fun j hj hne=>?_⟩
   ·have hfl:=flat_len hl
    simp only[yappend]
    rw[if_neg hm,h3]
    simp only[]
    rw[e48,if_pos ⟨hcond,hb,h2⟩]
    simp only[i4]
    have hsz : (⟨l.flatten⟩ : Array Value).size=l.length*w:=hfl
    rw[if_pos ⟨trivial,by rw[hsz];omega,by rw[hsz];omega,by omega⟩,if_neg (by omega)]
    have hxx : (⟨l.flatten⟩ : Array Value).extract 0 (0+l.length*w)++(⟨r.flatten⟩ : Array Value)=⟨(l++r).flatten⟩:=by
     apply Array.toList_inj.1
     rw[Nat.zero_add,← hfl]
     simp only[Array.toList_append,List.extract_toArray,List.extract_eq_take_drop,List.drop_zero,Nat.sub_zero,List.take_length,List.flatten_append]
    rw[hxx]
   ·have:=cells_alloc (H.set i (lentO 0 (l.length*w) ⟨l.flatten⟩ e H.next)) ⟨(l++r).flatten⟩ e true
    refine .inr ⟨H.next,g.1,Nat.lt_succ_self _,by simp,by simpa using this⟩
   ·have hji : j≠i:=fun h=>hne 0 _ _ (by rw[h])
    rw[Heap.get_alloc,if_neg (by simp;omega),Heap.get_set,if_neg hji]
theorem OwW.push {w : Nat} {H0 H : Heap} {e : TypeId} {bytes : Nat} {s : Value} {l : List (List Value)} {x : List Value} (hw : 0<w) (g : Grow H0 H) (hs : OwW w H0 H e s l) (hl : ∀ x∈l,x.length=w) (hx : x.length=w) (hok : x.all ok1=true) (hb : (2*(l.length+1)+256)*bytes≤281474976710656) (h2 : l.length+1≤281474976710656) :
  ∃ v H',yappend e w bytes (H.alloc (.cells ⟨x⟩ e true)) s (.slice (some ⟨H.next,0,none⟩) 1 1)=some (v,H')∧OwW w H0 H' e v (l++[x])∧Grow H0 H'∧Apart H H' s∧H.next+1≤H'.next∧H'.cellsAt H.next=some (⟨x⟩,e,true):=by
 have hcell : (H.alloc (.cells ⟨x⟩ e true)).cellsAt H.next=some (⟨x⟩,e,true):=cells_alloc _ _ _ _
 have g1 : Grow H (H.alloc (.cells ⟨x⟩ e true)):=(Grow.refl H).alloc _
 have hsw : Sw w (H.alloc (.cells ⟨x⟩ e true)) (.slice (some ⟨H.next,0,none⟩) 1 1) [x]:=Sw.one ⟨Nat.lt_succ_self _,hcell⟩ hx
 obtain⟨v,H',k1,k2,k3,k4⟩:=OwW.append (bytes:=bytes) hw (g.alloc _) (hs.keep g1) hl hsw (by simpa using hx) (by simpa using hok) (by simpa using hb) (by simpa using h2)
 have hn : H.next+1≤H'.next:=k4.1
 have hsep : ∀ j,j≤H.next→(∀ o n c,s≠.slice (some ⟨j,o,none⟩) n c)→H'.get j=(H.alloc (.cells ⟨x⟩ e true)).get j:=fun j hj hne=>k4.2 j (Nat.lt_succ_of_le hj) hne
 have hs0 : ∀ o n c,s≠.slice (some ⟨H.next,o,none⟩) n c:=by
  intro o n c h
  rcases hs with⟨rfl,_⟩|⟨i,_,h2,rfl,_⟩
  ·cases h
  ·cases h;omega
 refine⟨v,H',k1,k2,k3,⟨by omega,fun j hj hne=>?_⟩,hn,?_⟩
 ·rw[hsep j (by omega) hne]
  exact g1.2 j hj
 ·unfold Heap.cellsAt
  rw[hsep H.next (Nat.le_refl _) hs0]
  unfold Heap.cellsAt at hcell
  exact hcell
theorem OwW.lt {w : Nat} {H0 H : Heap} {e : TypeId} {v : Value} {l : List (List Value)} (h : OwW w H0 H e v l) {i : Nat} (hb : blk v=some i) : i<H.next:=by
 rcases h with⟨rfl,_⟩|⟨j,_,h2,rfl,_⟩
 ·simp[blk] at hb
 ·simp only[blk,Option.some.injEq] at hb;omega
end Go.Xe
