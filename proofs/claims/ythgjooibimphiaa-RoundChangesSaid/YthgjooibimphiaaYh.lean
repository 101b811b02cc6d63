/- Rules of reasoning over the executable reading of the model's code (part Z23): a slice of any shape that came in. Conditions: none; for every program. -/
import Derived.Test.YthgjooibimphiaaZu
import Derived.Test.YthgjooibimphiaaTSU
import Derived.Test.YthgjooibimphiaaZl
import Derived.WideShapes
import Derived.ChangeSame
import Derived.Below
namespace Go.Xe
open Go Go.RowKit Go.ChangeShapes Go.WideShapes
theorem arg_sl {H : Type} {enc : TypeId×Value→H} {P : Program} {w : World} {A : Heap} (hA : Abs w A) {t : TypeId} {s : Sh} (m : Nat) (hs : shOf P m t=some s) {p : Option Addr} {n c : Nat} {d : DataW H} {ps : List MemPlace} (h : DataW.Trod enc P w 0 (fun _=>true) true t (.slice p n c) d ps) :
  ∃ y,Sem A s [absV w.heap.size (.slice p n c)] y:=by
 obtain⟨fuel,hf⟩:=h
 obtain⟨y,hy⟩:=arg_any hA m t s hs fuel _ _ hf
 exact⟨y,by simpa [Value.cells,absV] using hy⟩
end Go.Xe
/- Tables and roundings that come in: what lies where. Conditions: none. -/
namespace Go.Xe.TRX
open Go Go.Xe Go.Proofs
open Go.Xe.Rnd
abbrev shIs : Sh:=.slice 1 (.int .i64)
abbrev shNs : Sh:=.slice 1 shIs
abbrev shR3 : Sh:=.pair (.int .i64) (.pair (.int .i64) (.pair (.int .i64) .unit))
abbrev shTb : Sh:=.pair (.int .i64) (.pair shNs (.pair (.slice 3 shR3) .unit))
theorem ri_of {A : Heap} {cs : List Value} {y : Ty shIs} (h : Sem A shIs cs y) : ∃ v L,cs=[v]∧RI A v L:=by
 obtain⟨v,rows,rfl,h1,h2,_,h3⟩:=h
 refine⟨v,y,rfl,?_⟩
 have e : rows=((y : List Int).map I).map fun x=>[x]:=by
  apply List.ext_getElem
  ·simp[h2]
  ·intro k k1 k2
   have hk : k<(y : List Int).length:=by omega
   obtain⟨e1,_⟩:=h3 k rows[k] ((y : List Int)[k]) (by simp) (by simp[hk])
   rw[e1]
   simp
 rw[e] at h1
 exact h1.one
theorem nest_of {A : Heap} {cs : List Value} {y : Ty shNs} (h : Sem A shNs cs y) : ∃ v L,cs=[v]∧Nest RI A v L:=by
 obtain⟨v,rows,rfl,h1,h2,_,h3⟩:=h
 obtain⟨Z,hz1,hz2⟩:=list_of (α:=Value×List Int) (p:=fun i x=>rows[i]?=some [x.1]∧RI A x.1 x.2) rows.length (fun i hi=>by
  have hk : i<(y : List (Ty shIs)).length:=by omega
  obtain⟨v,L,e,hr⟩:=ri_of (h3 i rows[i] ((y : List (Ty shIs))[i]) (by simp) (by simp[hk]))
  exact⟨(v,L),by simp[hi,e],hr⟩)
 refine⟨v,Z.map (·.2),rfl,Z.map (·.1),?_,by simp,?_⟩
 ·have e : rows=(Z.map (·.1)).map fun x=>[x]:=by
   apply List.ext_getElem
   ·simp[hz1]
   ·intro k k1 k2
    have:=(hz2 k Z[k] (by simp[hz1,k1])).1
    rw[List.getElem?_eq_getElem k1,Option.some.injEq] at this
    rw[this]
    simp
  rw[e] at h1
  exact h1.one
 ·intro k x r hx hr
  rw[List.getElem?_map] at hx hr
  cases hq : Z[k]? with
  | none=>rw[hq] at hx;cases hx
  | some q=>
   rw[hq] at hx hr
   cases hx;cases hr
   exact (hz2 k q hq).2
theorem nn_of {A : Heap} {v : Value} {y : Ty shNs} (h : Sem A shNs [v] y) : ∃ L : List (List Int),Nest RI A v L:=by
 obtain⟨v',L,e,hL⟩:=nest_of h
 simp only[List.cons.injEq,and_true] at e
 subst e
 exact⟨L,hL⟩
theorem sw3_of {A : Heap} {cs : List Value} {y : Ty (.slice 3 shR3)} (h : Sem A (.slice 3 shR3) cs y) : ∃ v,∃ L : List R3,cs=[v]∧Sw 3 A v (L.map r3):=by
 obtain⟨v,rows,rfl,h1,h2,_,h3⟩:=h
 refine⟨v,(y : List (Ty shR3)).map fun x=>(x.1,x.2.1,x.2.2.1),rfl,?_⟩
 have e : rows=((y : List (Ty shR3)).map fun x=>(x.1,x.2.1,x.2.2.1)).map r3:=by
  apply List.ext_getElem
  ·simp[h2]
  ·intro k k1 k2
   have hk : k<(y : List (Ty shR3)).length:=by omega
   obtain⟨c1,c2,e1,⟨rfl,_⟩,d1,d2,e2,⟨rfl,_⟩,f1,f2,e3,⟨rfl,_⟩,e5⟩:=h3 k rows[k] ((y : List (Ty shR3))[k]) (by simp) (by simp[hk])
   rw[e1,e2,e3,e5]
   simp[r3]
 have:=h1.sw
 rw[e] at this
 exact this
theorem tb_of {A : Heap} {l : List Value} {y : Ty shTb} (h : Sem A shTb l y) : ∃ c f,∃ T : Tb,l=[I T.b,c,f]∧TV A c f T:=by
 obtain⟨c1,c2,rfl,⟨rfl,_⟩,d1,d2,rfl,h2,e1,e2,rfl,h3,h4⟩:=h
 obtain⟨c,C,rfl,hc⟩:=nest_of h2
 obtain⟨f,F,rfl,hf⟩:=sw3_of h3
 have h4' : e2=[]:=h4
 subst h4'
 exact⟨c,f,⟨_,C,F⟩,rfl,hc,hf⟩
end Go.Xe.TRX
/- Rules of reasoning over the executable reading of the model's code (part Z16): arguments, by what their types allow. Conditions: none; for every program. -/
namespace Go.Xe
open Go Go.RowKit Go.ChangeShapes Go.WideShapes
theorem okWide_agg {P : Program} {w : World} {r : Reach} {base : Nat} {t : TypeId} {v : Value} {fs : Array Field} (ht : P.underlying t=some (.struct fs)) (h : Value.okWide P w r base t v) : ∃ cs,v=.agg cs:=by
 unfold Value.okWide at h
 rw[ht] at h
 obtain⟨cs,h,_⟩:=h
 exact⟨cs,h⟩
end Go.Xe
/- The end of a call that has changed nothing of what was there: what a statement asks of the memory behind it. Conditions: as post_of_same's, but that new memory may be frozen. -/
namespace Go.Xe
open Go Go.RowKit Go.ChangeShapes Go.WideShapes
variable {H : Type} {enc : TypeId×Value→H} {P : Program}
theorem post_of_old {f : Func} {s : ChangeSpec} {apart fresh handsOn again : Bool} {W W' : World} {args : Array Value} {v : Value} {ds gs : List (DataW H)} {before pa pv : List MemPlace}
  (hW : DataW.Whole enc P f.params.toList s.vars apart W args.toList ds gs before)
  (hres : ∀ (b : Nat) (sp : Nat→Bool) (hd : Bool),DataW.TrodAll enc P W' b sp hd f.resultTypes.toList (v.resultList f.resultTypes.size) (s.fn H (ds++gs)).results [])
  (hargs : ∀ sp : Nat→Bool,(∀ p∈before,sp p.block=true)→DataW.TrodAll enc P W' 0 sp true f.params.toList args.toList (s.fn H (ds++gs)).args pa)
  (hvars : ∀ sp : Nat→Bool,(∀ p∈before,sp p.block=true)→DataW.TrodVars enc P W' sp s.vars (s.fn H (ds++gs)).vars pv)
  (hps : before=pa++pv) (hk : W.keptBut W' (·∈before)) (hfz : ∀ a : Addr,a.block<W.heap.size→W'.frozen? a=W.frozen? a)
  (hok : ∀ (j : Nat) (t : TypeId) (r : Value),f.resultTypes[j]?=some t→(v.resultList f.resultTypes.size)[j]?=some r→Value.okWide P W' .any 0 t r) :
  s.post enc P f apart fresh handsOn again W args v W':=by
 have old : ∀ p∈before,p.block<W.heap.size:=fun p hp=>hW.lt p hp
 have hold : ∀ p∈before,(fun b=>decide (b<W.heap.size)) p.block=true:=fun p hp=>by simpa using old p hp
 subst hps
 refine⟨ds,gs,_,[],pa,pv,hW,hres _ _ _,hargs _ hold,hvars _ hold,World.keptBut_mono (fun p hp=>⟨hp,.inr (List.mem_append.1 hp)⟩) hk,fun _=>?_⟩
 obtain⟨_,_,_,_,_,hz,hn⟩:=hW
 refine⟨hok,_,_,([]++pa)++pv,⟨[]++pa,pv,trodAll_append (hargs _ (fun _ _=>rfl)) (hres _ _ _),hvars _ (fun _ _=>rfl),rfl,?_,?_⟩,?_⟩
 ·intro b off hp
  have hp' : MemPlace.cell b off∈pa++pv:=by simpa using hp
  rw[hfz _ (old _ hp')]
  exact hz b off hp'
 ·intro ha
  simpa using hn ha
 ·intro p hp _
  simpa using hp
end Go.Xe
