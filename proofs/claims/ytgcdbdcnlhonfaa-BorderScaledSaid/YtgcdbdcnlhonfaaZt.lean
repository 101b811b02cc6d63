/- Rules of reasoning over the executable reading of the model's code (part Z18): guarded operations without cases. Conditions: none; for every program. -/
import Derived.Test.YtgcdbdcnlhonfaaZq
namespace Go.Xe
open Go
section
variable {P : Program} {is : List FI} {d : Pth} {t : TT} {H : Heap} {w b : Bool} {v u : Value} {o : Option (Value×Heap)} {c p : Prop} [Decidable c] [Decidable p] {pre : List Heap} {k : IntKind} {x y : Int}
theorem gs_bt : gsV (.bool b) true o H=if b=true then o else some (undef,H):=rfl
theorem gs_bf : gsV (.bool b) false o H=if b=false then o else some (undef,H):=rfl
theorem disK_ite : disK P is d t (if c then some (v,H) else some (u,H))=din P is (st (if c then v else u) d t) H:=by
 split<;>rfl
theorem disAK_ite : disAK P is d t pre (if c then some (v,H) else some (u,H))=dinA P is (st (if c then v else u) d t) H pre:=by
 split<;>rfl
theorem ite_vb {q r : Bool} : (if c then Value.bool q else Value.bool r)=.bool (if c then q else r):=by split<;>rfl
theorem ite_vi : (if c then Value.int k x else Value.int k y)=.int k (if c then x else y):=by split<;>rfl
theorem ite_dn : (if c then decide p else false)=decide (c∧p):=by by_cases h : c<;>simp[h]
theorem ite_nd : (if c then false else decide p)=decide (¬ c∧p):=by by_cases h : c<;>simp[h]
theorem ite_td : (if c then true else decide p)=decide (c∨p):=by by_cases h : c<;>simp[h]
theorem ite_dt : (if c then decide p else true)=decide (¬ c∨p):=by by_cases h : c<;>simp[h]
theorem ite_tf : (if c then true else false)=decide c:=by by_cases h : c<;>simp[h]
theorem ite_ft : (if c then false else true)=decide (¬ c):=by by_cases h : c<;>simp[h]
theorem not_dec : (!decide p)=decide (¬ p):=by by_cases h : p<;>simp[h]
theorem dec_t : (decide p=true)=p:=by simp
theorem dec_f : (decide p=false)=¬ p:=by simp
end
section
variable {P : Program} [Gl P] [Orc P] {rnd : Option Nat} {Q : FQ} {K : List FFr} {t : TT} {m : List Nat} {H : Heap}
variable {is : List FI} {d p : Pth} {fa : FA} {args : List FA} {v : Value} {g : FuncId} {a b l : List Value} {c : Prop} [Decidable c] {pre : List Heap} {R : TT→List Heap→Prop}
theorem VI.callGt (hp : gt p t=.bool (decide c)) (hf : c→dA t fa=.func (.func g) ⟨a⟩ ⟨b⟩) (hs : c→Gives P g l H v) (hl : c→a++args.map (dA t)++b=l) (k : ∀ H',Grow H H'→VI P rnd Q K m is (st (if c then v else undef) d t) H') :
  VI P rnd Q K m (.gd p true (.call fa args) d::is) t H:=by
 by_cases h : c
 ·refine .callAT (by rw[hp,decide_eq_true h]) (hf h) (hs h) (hl h) (fun H' g=>?_)
  have:=k H' g
  rwa [if_pos h] at this
 ·refine .gdF (by rw[hp,decide_eq_false h];rfl) ?_
  have:=k H (Grow.refl H)
  rwa [if_neg h] at this
theorem VI.callGf (hp : gt p t=.bool (decide c)) (hf : ¬ c→dA t fa=.func (.func g) ⟨a⟩ ⟨b⟩) (hs : ¬ c→Gives P g l H v) (hl : ¬ c→a++args.map (dA t)++b=l) (k : ∀ H',Grow H H'→VI P rnd Q K m is (st (if c then undef else v) d t) H') :
  VI P rnd Q K m (.gd p false (.call fa args) d::is) t H:=by
 by_cases h : c
 ·refine .gdF (by rw[hp,decide_eq_true h];rfl) ?_
  have:=k H (Grow.refl H)
  rwa [if_pos h] at this
 ·refine .callAT (by rw[hp,decide_eq_false h]) (hf h) (hs h) (hl h) (fun H' g=>?_)
  have:=k H' g
  rwa [if_neg h] at this
theorem VD.callGt (hp : gt p t=.bool (decide c)) (hf : c→dA t fa=.func (.func g) ⟨a⟩ ⟨b⟩) (hs : c→Gives P g l H v) (hl : c→a++args.map (dA t)++b=l) (k : ∀ H',Grow H H'→VD P is (st (if c then v else undef) d t) H' (pre++[H]) R) :
  VD P (.gd p true (.call fa args) d::is) t H pre R:=by
 by_cases h : c
 ·refine .callAT (by rw[hp,decide_eq_true h]) (hf h) (hs h) (hl h) (fun H' g=>?_)
  have:=k H' g
  rwa [if_pos h] at this
 ·refine .gdF (by rw[hp,decide_eq_false h];rfl) ?_
  have:=k H (Grow.refl H)
  rwa [if_neg h] at this
theorem VD.callGf (hp : gt p t=.bool (decide c)) (hf : ¬ c→dA t fa=.func (.func g) ⟨a⟩ ⟨b⟩) (hs : ¬ c→Gives P g l H v) (hl : ¬ c→a++args.map (dA t)++b=l) (k : ∀ H',Grow H H'→VD P is (st (if c then undef else v) d t) H' (pre++[H]) R) :
  VD P (.gd p false (.call fa args) d::is) t H pre R:=by
 by_cases h : c
 ·refine .gdF (by rw[hp,decide_eq_true h];rfl) ?_
  have:=k H (Grow.refl H)
  rwa [if_pos h] at this
 ·refine .callAT (by rw[hp,decide_eq_false h]) (hf h) (hs h) (hl h) (fun H' g=>?_)
  have:=k H' g
  rwa [if_neg h] at this
end
section
variable {H : Heap} {el : TypeId} {k : IntKind} {n : Int} {b : Bool} {p : Option Addr} {m l : Nat} {q : Option Nat} {f : Fn} {x y : Array Value}
theorem xbox_int : xbox H el (.int k n)=some (.pointer (some ⟨H.next,0,none⟩),H.alloc (.cells ⟨[.int k n]⟩ el true)):=rfl
theorem xbox_bool : xbox H el (.bool b)=some (.pointer (some ⟨H.next,0,none⟩),H.alloc (.cells ⟨[.bool b]⟩ el true)):=rfl
theorem xbox_ptr : xbox H el (.pointer p)=some (.pointer (some ⟨H.next,0,none⟩),H.alloc (.cells ⟨[.pointer p]⟩ el true)):=rfl
theorem xbox_slice : xbox H el (.slice p m l)=some (.pointer (some ⟨H.next,0,none⟩),H.alloc (.cells ⟨[.slice p m l]⟩ el true)):=rfl
theorem xbox_map : xbox H el (.map q)=some (.pointer (some ⟨H.next,0,none⟩),H.alloc (.cells ⟨[.map q]⟩ el true)):=rfl
theorem xbox_func : xbox H el (.func f x y)=some (.pointer (some ⟨H.next,0,none⟩),H.alloc (.cells ⟨[.func f x y]⟩ el true)):=rfl
end
theorem ok1_nilFunc : ok1 .nilFunc=true:=rfl
theorem xnil_ptr {a : Addr} : xnil (.pointer (some a))=some (.pointer (some a)):=rfl
theorem Lv.retM {t : TT} {H : Heap} {rs : List FRes} {S : Value→Heap→Prop} {w : Value} {d : Nat} (hd : H.get d=some (.deferred true)) (h : yres t (H.set d .dead) rs=some w) (k : S w (H.set d .dead)) : Lv rs S .ret t [d] H:=
 ⟨fun id=>by simp,H.set d .dead,w,by simp only[xunmark,hd],h,k⟩
theorem D3 : type_of% (And.intro D2<|And.intro @gs_bt<|And.intro @gs_bf<|And.intro @disK_ite<|And.intro @disAK_ite<|And.intro @ite_vb<|And.intro @ite_vi<|And.intro @ite_dn<|And.intro @ite_nd<|And.intro @ite_td<|And.intro @ite_dt<|And.intro @ite_tf<|And.intro @ite_ft<|And.intro @not_dec<|And.intro ok1_nilFunc<|And.intro @xnil_ptr<|And.intro @xbox_int<|And.intro @xbox_bool<|And.intro @xbox_ptr<|And.intro @xbox_slice<|And.intro @xbox_map<|And.intro @xbox_func<|And.intro @dec_t @dec_f):=
 And.intro D2<|And.intro @gs_bt<|And.intro @gs_bf<|And.intro @disK_ite<|And.intro @disAK_ite<|And.intro @ite_vb<|And.intro @ite_vi<|And.intro @ite_dn<|And.intro @ite_nd<|And.intro @ite_td<|And.intro @ite_dt<|And.intro @ite_tf<|And.intro @ite_ft<|And.intro @not_dec<|And.intro ok1_nilFunc<|And.intro @xnil_ptr<|And.intro @xbox_int<|And.intro @xbox_bool<|And.intro @xbox_ptr<|And.intro @xbox_slice<|And.intro @xbox_map<|And.intro @xbox_func<|And.intro @dec_t @dec_f
theorem nx : type_of% (And.intro @Heap.next_alloc @Heap.next_set):=And.intro @Heap.next_alloc @Heap.next_set
theorem D5 : type_of% (And.intro @gt_st<|And.intro @full_st<|And.intro @decide_true<|And.intro @decide_false Bool.false_eq_true):=And.intro @gt_st<|And.intro @full_st<|And.intro @decide_true<|And.intro @decide_false Bool.false_eq_true
theorem ds {α : Type} : (∀ (n : Nat) (a : α) (l : List α),(a::l).drop (n+1)=l.drop n)∧(∀ l : List α,l.drop 0=l):=⟨fun _ _ _=>rfl,fun _=>rfl⟩
theorem D4 : type_of% (And.intro D3<|And.intro @mm_max<|And.intro @mm_min<|And.intro @cells_alloc_at<|And.intro @cells_alloc_ne<|And.intro @cells_set_at<|And.intro @cells_set_ne<|And.intro @dop.eq_1<|And.intro @dop.eq_2<|And.intro @dop.eq_3<|And.intro @dop.eq_4<|And.intro @dop.eq_5<|And.intro @dop.eq_6<|And.intro @dop.eq_7<|And.intro @dop.eq_8<|And.intro @dop.eq_9<|And.intro @dop.eq_10<|And.intro @dop.eq_11<|And.intro @dop.eq_12<|And.intro @dop.eq_13<|And.intro @dop.eq_14<|And.intro @dop.eq_15<|And.intro @dop.eq_16<|And.intro @dop.eq_17<|And.intro @dop.eq_18<|And.intro @dop.eq_19<|And.intro @dop.eq_20<|And.intro @dop.eq_21<|And.intro @dop.eq_22<|And.intro @dop.eq_23<|And.intro @dop.eq_24<|And.intro @dop.eq_25<|And.intro @dop.eq_26<|And.intro @dop.eq_27<|And.intro @dop.eq_28<|And.intro @dop.eq_29<|And.intro @dop.eq_30<|And.intro @dop.eq_31<|And.intro @dop.eq_32<|And.intro @dop.eq_33<|And.intro @dop.eq_34<|And.intro @dop.eq_35<|And.intro @dop.eq_36<|And.intro @dop.eq_37<|And.intro @dop.eq_38<|And.intro @dA.eq_1<|And.intro @dA.eq_2<|And.intro @sets.eq_1<|And.intro @sets.eq_2<|And.intro @yfield1.eq_1<|And.intro @yfield1.eq_2<|And.intro @yfieldN.eq_1<|And.intro @yfieldN.eq_2<|And.intro @yfieldAddr.eq_1 @yfieldAddr.eq_2):=And.intro D3<|And.intro @mm_max<|And.intro @mm_min<|And.intro @cells_alloc_at<|And.intro @cells_alloc_ne<|And.intro @cells_set_at<|And.intro @cells_set_ne<|And.intro @dop.eq_1<|And.intro @dop.eq_2<|And.intro @dop.eq_3<|And.intro @dop.eq_4<|And.intro @dop.eq_5<|And.intro @dop.eq_6<|And.intro @dop.eq_7<|And.intro @dop.eq_8<|And.intro @dop.eq_9<|And.intro @dop.eq_10<|And.intro @dop.eq_11<|And.intro @dop.eq_12<|And.intro @dop.eq_13<|And.intro @dop.eq_14<|And.intro @dop.eq_15<|And.intro @dop.eq_16<|And.intro @dop.eq_17<|And.intro @dop.eq_18<|And.intro @dop.eq_19<|And.intro @dop.eq_20<|And.intro @dop.eq_21<|And.intro @dop.eq_22<|And.intro @dop.eq_23<|And.intro @dop.eq_24<|And.intro @dop.eq_25<|And.intro @dop.eq_26<|And.intro @dop.eq_27<|And.intro @dop.eq_28<|And.intro @dop.eq_29<|And.intro @dop.eq_30<|And.intro @dop.eq_31<|And.intro @dop.eq_32<|And.intro @dop.eq_33<|And.intro @dop.eq_34<|And.intro @dop.eq_35<|And.intro @dop.eq_36<|And.intro @dop.eq_37<|And.intro @dop.eq_38<|And.intro @dA.eq_1<|And.intro @dA.eq_2<|And.intro @sets.eq_1<|And.intro @sets.eq_2<|And.intro @yfield1.eq_1<|And.intro @yfield1.eq_2<|And.intro @yfieldN.eq_1<|And.intro @yfieldN.eq_2<|And.intro @yfieldAddr.eq_1 @yfieldAddr.eq_2
theorem D6 : type_of% (And.intro @dA.eq_1<|And.intro @dA.eq_2<|And.intro @List.map_cons.{0,0}<|And.intro @List.map_nil.{0,0}<|And.intro @List.nil_append.{0}<|And.intro @List.append_nil.{0} @List.cons_append.{0}):=And.intro @dA.eq_1<|And.intro @dA.eq_2<|And.intro @List.map_cons.{0,0}<|And.intro @List.map_nil.{0,0}<|And.intro @List.nil_append.{0}<|And.intro @List.append_nil.{0} @List.cons_append.{0}
end Go.Xe
/- Rules of reasoning over the executable reading of the model's code (part Z19): slices of one's own in loops over functions. Conditions: none; for every program. -/
namespace Go.Xe
open Go
def cutH (X : Heap) (n : Nat) : Heap:={ X with next:=n }
theorem cutH_grow {X : Heap} {n : Nat} (h : n≤X.next) : Grow (cutH X n) X:=⟨h,fun _ _=>rfl⟩
theorem Ow.base {A B X : Heap} {e : TypeId} {v : Value} {l : List Value} (h : Ow A X e v l) (hn : B.next≤A.next) : Ow B X e v l:=by
 rcases h with h|⟨i,h1,h2,h3,h4⟩
 ·exact .inl h
 ·exact .inr ⟨i,Nat.le_trans hn h1,h2,h3,h4⟩
theorem Ow.growS {A B X Y : Heap} {U : Nat→Prop} {e : TypeId} {v : Value} {l : List Value} (h : Ow A X e v l) (g : GrowS U X Y) (hU : ∀ i,A.next≤i→¬ U i) (hn : B.next≤A.next) : Ow B Y e v l:=by
 rcases h with h|⟨i,h1,h2,h3,h4⟩
 ·exact .inl h
 ·exact .inr ⟨i,Nat.le_trans hn h1,Nat.lt_of_lt_of_le h2 g.1,h3,by rw[g.cells h2 (hU i h1)];exact h4⟩
theorem Ow.slice {A X : Heap} {e : TypeId} {v : Value} {l : List Value} (h : Ow A X e v l) : ∃ p n c,v=.slice p n c:=by
 rcases h with⟨rfl,_⟩|⟨i,_,_,rfl,_⟩<;>exact⟨_,_,_,rfl⟩
end Go.Xe
/- Rules of reasoning over the executable reading of the model's code (part Z20): slices whose elements have several cells each. Conditions: none; for every program. -/
namespace Go.Xe
open Go
inductive Sw (w : Nat) (H : Heap) : Value→List (List Value)→Prop
 | nil : Sw w H (.slice none 0 0) []
 | spot (i o s : Nat) : Sw w H (.slice (some ⟨i,o,some s⟩) 0 0) []
 | at {i o n c : Nat} {a : Array Value} {el : TypeId} {rw : Bool} {l : List (List Value)} (hi : i<H.next) (hc : H.cellsAt i=some (a,el,rw)) (hn : n≤c) (hl : l.length=n) (hs : o+n*w≤a.size) (hv : ∀ k x,l[k]?=some x→a.extract (o+k*w) (o+k*w+w)=⟨x⟩) : Sw w H (.slice (some ⟨i,o,none⟩) n c) l
theorem Sw.grow {w : Nat} {A B : Heap} (g : Grow A B) {v : Value} {l : List (List Value)} (h : Sw w A v l) : Sw w B v l:=by
 cases h with
 | nil=>exact .nil
 | spot i o s=>exact .spot i o s
 | «at» hi hc hn hl hs hv=>exact .at (Nat.lt_of_lt_of_le hi g.1) ((g.cells hi).trans hc) hn hl hs hv
theorem Sw.len {w : Nat} {H : Heap} {v : Value} {l : List (List Value)} (h : Sw w H v l) : ylen 0 H v=some (.int .i64 l.length):=by
 cases h with
 | nil=>rfl
 | spot=>rfl
 | «at» hi hc hn hl hs hv=>simp only[ylen,hl]
theorem Sw.get {w : Nat} {H : Heap} {v : Value} {l : List (List Value)} (h : Sw w H v l) (hw : 0<w) {n : Int} {k : Nat} {x : List Value} (hx : l[k]?=some x) (hn : n=(k : Int)) {kd : IntKind} : ∃ p,yindexAddr none w v (.int kd n)=some p∧∀ H',Grow H H'→yloadN w H' p=some (.agg ⟨x⟩):=by
 have hk : k<l.length:=(List.getElem?_eq_some_iff.1 hx).1
 cases h with
 | nil=>cases hx
 | spot=>cases hx
 | «at» hi hc hn' hl hs hv=>
  rename_i i o n0 c a el rw
  subst hn
  refine⟨.pointer (some ⟨i,o+k*w,none⟩),?_,fun H' g=>?_⟩
  ·simp only[yindexAddr]
   rw[if_pos ⟨by omega,by omega⟩]
   simp
  ·simp only[yloadN,(g.cells hi).trans hc]
   have h1 : k*w+w≤n0*w:=by
    have : (k+1)*w≤n0*w:=Nat.mul_le_mul_right w (by omega)
    rw[Nat.succ_mul] at this;exact this
   rw[if_pos ⟨by omega,by omega⟩,hv k x hx]
theorem Sw.one {w : Nat} {H : Heap} {i : Nat} {c : List Value} {e : TypeId} (h : Bx H i c e) (hc : c.length=w) : Sw w H (.slice (some ⟨i,0,none⟩) 1 1) [c]:=by
 refine .at h.1 h.2 (Nat.le_refl _) rfl (by show 0+1*w≤c.length;omega) ?_
 intro k x hx
 cases k with
 | zero=>
  simp only[List.getElem?_cons_zero,Option.some.injEq] at hx
  subst hx
  subst hc
  apply Array.ext'
  simp
 | succ k=>simp at hx
end Go.Xe
