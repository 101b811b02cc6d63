/- Rules of reasoning over the executable reading of the model's code (part Z26): the first elements of a slice that came in. Conditions: none; for every program. -/
import Derived.Test.YthgjooibimphiaaZy
import Derived.Test.YthgjooibimphiaaZr
namespace Go.Xe
open Go
def Ro (A : Heap) : Prop:=∀ i c el rw,i<A.next→A.cellsAt i=some (c,el,rw)→rw=false
section
variable {P : Program} {A : Heap} {e : TypeId} {k : Nat}
theorem xb_hi {n c : Nat} (h : k≤n) (hn : n≤c) (d : Nat) : xbound (some (.int .i64 (k : Int))) d c=some k:=by
 simp only[xbound]
 rw[if_pos ⟨by omega,by omega⟩]
 simp
theorem Sl.take {v : Value} {l : List Value} (h : Sl A v l) (hr : Ro A) (hk : k≤l.length) : ∃ y,∀ X,Grow A X→yslice P e 1 X v none (some (.int .i64 (k : Int)))=some y∧Sl X y (l.take k):=by
 cases h with
 | nil=>
  have : k=0:=by simpa using hk
  subst this
  exact⟨_,fun X _=>⟨rfl,.nil⟩⟩
 | spot i o s=>
  have : k=0:=by simpa using hk
  subst this
  exact⟨_,fun X _=>⟨rfl,.spot i o s⟩⟩
 | «at» hi hc hn hl hs hv=>
  rename_i i o n c a el rw
  have hrw:=hr i a el rw hi hc
  by_cases hc0 : c=0
  ·have : k=0:=by omega
   subst this
   refine⟨.slice (some ⟨i,o,some 0⟩) 0 0,fun X g=>⟨?_,.spot i o 0⟩⟩
   have hX:=(g.cells hi).trans hc
   simp only[yslice,hX]
   rw[if_pos (.inl hrw),xb_hi (n:=n) (by omega) hn]
   simp only[xbound]
   rw[if_pos hc0]
  ·refine⟨.slice (some ⟨i,o+0*1,none⟩) (k-0) (c-0),fun X g=>?_⟩
   have hX:=(g.cells hi).trans hc
   refine⟨?_,?_⟩
   ·simp only[yslice,hX]
    rw[if_pos (.inl hrw),xb_hi (n:=n) (by omega) hn]
    simp only[xbound]
    rw[if_neg hc0]
   ·simp only[Nat.zero_mul,Nat.add_zero,Nat.sub_zero]
    refine .at (Nat.lt_of_lt_of_le hi g.1) hX (by omega) (by rw[List.length_take];omega) (by omega) (fun j x hj=>hv j x ?_)
    rw[List.getElem?_take] at hj
    split at hj
    ·exact hj
    ·cases hj
theorem Sw.take {w : Nat} {v : Value} {l : List (List Value)} (h : Sw w A v l) (hr : Ro A) (hk : k≤l.length) : ∃ y,∀ X,Grow A X→yslice P e w X v none (some (.int .i64 (k : Int)))=some y∧Sw w X y (l.take k):=by
 cases h with
 | nil=>
  have : k=0:=by simpa using hk
  subst this
  exact⟨_,fun X _=>⟨rfl,.nil⟩⟩
 | spot i o s=>
  have : k=0:=by simpa using hk
  subst this
  exact⟨_,fun X _=>⟨rfl,.spot i o s⟩⟩
 | «at» hi hc hn hl hs hv=>
  rename_i i o n c a el rw
  have hrw:=hr i a el rw hi hc
  by_cases hc0 : c=0
  ·have : k=0:=by omega
   subst this
   refine⟨.slice (some ⟨i,o,some 0⟩) 0 0,fun X g=>⟨?_,.spot i o 0⟩⟩
   have hX:=(g.cells hi).trans hc
   simp only[yslice,hX]
   rw[if_pos (.inl hrw),xb_hi (n:=n) (by omega) hn]
   simp only[xbound]
   rw[if_pos hc0]
  ·refine⟨.slice (some ⟨i,o+0*w,none⟩) (k-0) (c-0),fun X g=>?_⟩
   have hX:=(g.cells hi).trans hc
   refine⟨?_,?_⟩
   ·simp only[yslice,hX]
    rw[if_pos (.inl hrw),xb_hi (n:=n) (by omega) hn]
    simp only[xbound]
    rw[if_neg hc0]
   ·simp only[Nat.zero_mul,Nat.add_zero,Nat.sub_zero]
    have hm : k*w≤n*w:=Nat.mul_le_mul_right w (by omega)
    refine .at (Nat.lt_of_lt_of_le hi g.1) hX (by omega) (by rw[List.length_take];omega) (by omega) (fun j x hj=>hv j x ?_)
    rw[List.getElem?_take] at hj
    split at hj
    ·exact hj
    ·cases hj
theorem Nest.take {α : Type} {R : Heap→Value→α→Prop} (hR : RP R) {v : Value} {L : List α} (h : Nest R A v L) (hr : Ro A) (hk : k≤L.length) : ∃ y,∀ X,Grow A X→yslice P e 1 X v none (some (.int .i64 (k : Int)))=some y∧Nest R X y (L.take k):=by
 obtain⟨vs,h1,h2,h3⟩:=h
 obtain⟨y,k1⟩:=h1.take (P:=P) (e:=e) hr (k:=k) (by omega)
 refine⟨y,fun X g=>⟨(k1 X g).1,vs.take k,(k1 X g).2,by simp[h2],fun j x r hx hr'=>?_⟩⟩
 rw[List.getElem?_take] at hx hr'
 split at hx
 ·rename_i hj
  rw[if_pos hj] at hr'
  exact hR.grow g (h3 j x r hx hr')
 ·cases hx
end
end Go.Xe
/- Rules of reasoning over the executable reading of the model's code (part Z24): maps as functions of their keys. Conditions: none; for every program. -/
namespace Go.Xe
open Go
variable {α : Type} [DecidableEq α]
structure KeyOk (P : Program) (kt : TypeId) (ke : α→Value) (D : α→Prop) : Prop where
 keyed : keyedB P kt=true
 keyish : ∀ a,keyishV (ke a)=true
 keyOf : ∀ a,D a→(keyOf P kt (ke a)).isSome=true
 eq : ∀ a b,valEq (ke a) (ke b)=decide (a=b)
def lookE (k : Value) : List MapEntry→Option Value
 | []=>none
 | e::es=>if valEq k e.key then some e.val else lookE k es
def MpF (H : Heap) (i : Nat) (kt : TypeId) (ke : α→Value) (f : α→Option Value) : Prop:=∃ es,Mp H i kt es∧(∀ e∈es,∃ c,e.key=ke c)∧∀ a,lookE (ke a) es=f a
omit [DecidableEq α] in
theorem MpF.lt {H : Heap} {i : Nat} {kt : TypeId} {ke : α→Value} {f : α→Option Value} (h : MpF H i kt ke f) : i<H.next:=by
 obtain⟨es,h1,_⟩:=h
 exact h1.1
omit [DecidableEq α] in
theorem MpF.grow {A B : Heap} (g : Grow A B) {i : Nat} {kt : TypeId} {ke : α→Value} {f : α→Option Value} (h : MpF A i kt ke f) : MpF B i kt ke f:=by
 obtain⟨es,h1,h2⟩:=h
 exact⟨es,h1.grow g,h2⟩
omit [DecidableEq α] in
theorem MpF.loc {A B : Heap} {i : Nat} {kt : TypeId} {ke : α→Value} {f : α→Option Value} (h : MpF A i kt ke f) (hn : A.next≤B.next) (hg : B.get i=A.get i) : MpF B i kt ke f:=by
 obtain⟨es,⟨h1,clk,h2⟩,h3⟩:=h
 refine⟨es,⟨Nat.lt_of_lt_of_le h1 hn,clk,?_⟩,h3⟩
 unfold Heap.mapAt at h2 ⊢
 rw[hg];exact h2
omit [DecidableEq α] in
theorem MpF.new (A : Heap) (kt : TypeId) (ke : α→Value) : MpF (A.alloc (.map kt #[] 0)) A.next kt ke (fun _=>none):=
 ⟨[],⟨Nat.lt_succ_self _,0,maps_alloc A kt #[] 0⟩,fun e he=>by simp at he,fun _=>rfl⟩
end Go.Xe
/- Rules of reasoning over the executable reading of the model's code (part Z27): the same rules, whose equations are found by themselves out of what is named hF, hA and zf at the place of use. Conditions: none; for every program. -/
namespace Go.Xe
open Go
abbrev tm (n : Nat) : FA:=.tmp (pth n)
section
variable {P : Program} [Gl P] [Orc P] {rnd : Option Nat} {Q : FQ} {K : List FFr} {m : List Nat}
variable {is : List FI} {t t1 : TT} {H H1 : Heap} {cs : List FC} {n : Nat} {pre Gs : List Heap} {R : TT→List Heap→Prop}
theorem V.lz (k : V P rnd Q K .normal t1 m H1) (h : Xe.din P is t H=some (t1,H1):=by simp +contextual (disch:=first|omega|simp only[Go.Xe.nx];omega) only[Go.Xe.D4,Int.reduceNegSucc,Int.reduceEq,Nat.reduceLeDiff,Nat.reduceSub,Nat.reduceAdd,Go.Xe.D5,hF,hA,↓reduceIte,Nat.reduceEqDiff,Nat.reduceLT,zf];with_reducible rfl) : V P rnd Q (.seq (.run is)::K) .normal t m H:=V.line' h k
theorem V.l0 (k : V P rnd Q K .normal t1 m H1) (h : Xe.din P is t H=some (t1,H1):=by simp +contextual (disch:=first|omega|simp only[Go.Xe.nx];omega) only[Go.Xe.D4,Int.reduceNegSucc,Int.reduceEq,Nat.reduceLeDiff,Nat.reduceSub,Nat.reduceAdd,Go.Xe.D5,hF,hA,↓reduceIte,Nat.reduceEqDiff,Nat.reduceLT];with_reducible rfl) : V P rnd Q (.seq (.run is)::K) .normal t m H:=V.line' h k
theorem VI.lz (k : V P rnd Q K .normal t1 m H1) (h : Xe.din P is t H=some (t1,H1):=by simp +contextual (disch:=first|omega|simp only[Go.Xe.nx];omega) only[Go.Xe.D4,Int.reduceNegSucc,Int.reduceEq,Nat.reduceLeDiff,Nat.reduceSub,Nat.reduceAdd,Go.Xe.D5,hF,hA,↓reduceIte,Nat.reduceEqDiff,Nat.reduceLT,zf];with_reducible rfl) : VI P rnd Q K m is t H:=VI.line' h k
theorem VI.l0 (k : V P rnd Q K .normal t1 m H1) (h : Xe.din P is t H=some (t1,H1):=by simp +contextual (disch:=first|omega|simp only[Go.Xe.nx];omega) only[Go.Xe.D4,Int.reduceNegSucc,Int.reduceEq,Nat.reduceLeDiff,Nat.reduceSub,Nat.reduceAdd,Go.Xe.D5,hF,hA,↓reduceIte,Nat.reduceEqDiff,Nat.reduceLT];with_reducible rfl) : VI P rnd Q K m is t H:=VI.line' h k
theorem VI.sz (n : Nat) (k : VI P rnd Q K m (is.drop n) t1 H1) (h : Xe.din P (is.take n) t H=some (t1,H1):=by simp +contextual (disch:=first|omega|simp only[Go.Xe.nx];omega) only[Go.Xe.D4,Int.reduceNegSucc,Int.reduceEq,Nat.reduceLeDiff,Nat.reduceSub,Nat.reduceAdd,Go.Xe.D5,hF,hA,↓reduceIte,Nat.reduceEqDiff,Nat.reduceLT,zf];with_reducible rfl) : VI P rnd Q K m is t H:=VI.steps' n h k
theorem VI.s0 (n : Nat) (k : VI P rnd Q K m (is.drop n) t1 H1) (h : Xe.din P (is.take n) t H=some (t1,H1):=by simp +contextual (disch:=first|omega|simp only[Go.Xe.nx];omega) only[Go.Xe.D4,Int.reduceNegSucc,Int.reduceEq,Nat.reduceLeDiff,Nat.reduceSub,Nat.reduceAdd,Go.Xe.D5,hF,hA,↓reduceIte,Nat.reduceEqDiff,Nat.reduceLT];with_reducible rfl) : VI P rnd Q K m is t H:=VI.steps' n h k
theorem V.dz (h1 : monoG (Gs++[H1])) (h2 : dcAll P t1 (Gs++[H1]) cs) (h3 : (Gs++[H1])[n]?=some H1) (k : V P rnd Q K .normal t1 m H1) (h : dinA P is t H []=some (t1,Gs,H1):=by simp +contextual (disch:=first|omega|simp only[Go.Xe.nx];omega) only[Go.Xe.D4,Int.reduceNegSucc,Int.reduceEq,Nat.reduceLeDiff,Nat.reduceSub,Nat.reduceAdd,Go.Xe.D5,hF,hA,↓reduceIte,Nat.reduceEqDiff,Nat.reduceLT,zf];with_reducible rfl) : V P rnd Q (.seq (.draw n is cs)::K) .normal t m H:=V.lineD' h h1 h2 h3 k
theorem V.d0 (h1 : monoG (Gs++[H1])) (h2 : dcAll P t1 (Gs++[H1]) cs) (h3 : (Gs++[H1])[n]?=some H1) (k : V P rnd Q K .normal t1 m H1) (h : dinA P is t H []=some (t1,Gs,H1):=by simp +contextual (disch:=first|omega|simp only[Go.Xe.nx];omega) only[Go.Xe.D4,Int.reduceNegSucc,Int.reduceEq,Nat.reduceLeDiff,Nat.reduceSub,Nat.reduceAdd,Go.Xe.D5,hF,hA,↓reduceIte,Nat.reduceEqDiff,Nat.reduceLT];with_reducible rfl) : V P rnd Q (.seq (.draw n is cs)::K) .normal t m H:=V.lineD' h h1 h2 h3 k
theorem VD.dz (h1 : monoG (Gs++[H1])) (h2 : dcAll P t1 (Gs++[H1]) cs) (h3 : (Gs++[H1])[n]?=some H1) (k : V P rnd Q K .normal t1 m H1) (h : dinA P is t H pre=some (t1,Gs,H1):=by simp +contextual (disch:=first|omega|simp only[Go.Xe.nx];omega) only[Go.Xe.D4,Int.reduceNegSucc,Int.reduceEq,Nat.reduceLeDiff,Nat.reduceSub,Nat.reduceAdd,Go.Xe.D5,hF,hA,↓reduceIte,Nat.reduceEqDiff,Nat.reduceLT,zf];with_reducible rfl) : VD P is t H pre (DEnd P rnd Q K m n cs):=VD.lineD' h h1 h2 h3 k
theorem VD.d0 (h1 : monoG (Gs++[H1])) (h2 : dcAll P t1 (Gs++[H1]) cs) (h3 : (Gs++[H1])[n]?=some H1) (k : V P rnd Q K .normal t1 m H1) (h : dinA P is t H pre=some (t1,Gs,H1):=by simp +contextual (disch:=first|omega|simp only[Go.Xe.nx];omega) only[Go.Xe.D4,Int.reduceNegSucc,Int.reduceEq,Nat.reduceLeDiff,Nat.reduceSub,Nat.reduceAdd,Go.Xe.D5,hF,hA,↓reduceIte,Nat.reduceEqDiff,Nat.reduceLT];with_reducible rfl) : VD P is t H pre (DEnd P rnd Q K m n cs):=VD.lineD' h h1 h2 h3 k
end
section
variable {P : Program} [Gl P] [Orc P] {is : List FI} {t T : TT} {H H1 : Heap} {pre Gs : List Heap} {R : TT→List Heap→Prop}
end
section
variable {p q : Prop}
theorem zS (k : q) (h : q→p:=by intro h;(repeat first|apply Go.Xe.V.seq|apply Go.Xe.V.block|apply Go.Xe.V.scope|apply Go.Xe.V.skip|apply Go.Xe.V.close);exact h) : p:=h k
theorem zX (k : q) (h : q→p:=by intro h;(repeat first|apply Go.Xe.V.pass|apply Go.Xe.V.here|(apply Go.Xe.V.out;decide));exact h) : p:=h k
theorem zA (h : p:=by simp only[Go.Xe.D6,Go.Xe.D5,hF,hA,↓reduceIte,Nat.reduceEqDiff,Nat.reduceLT];try rfl) : p:=h
theorem zP (h : p:=by simp only[Go.Xe.D6,Go.Xe.D5,hF,hA,↓reduceIte,Nat.reduceEqDiff,Nat.reduceLT];rfl) : p:=h
theorem zG (h : p:=by simp only[Go.Xe.D5,hF,hA,↓reduceIte,Nat.reduceEqDiff,Nat.reduceLT];try rfl) : p:=h
theorem zI (h : p:=by simp only[Go.Xe.D6,Go.Xe.D5,hF,hA,↓reduceIte,Nat.reduceEqDiff,Nat.reduceLT,hc,and_self,and_true,true_and,not_false_eq_true];try rfl) : p:=h
theorem zF {N : Nat} {t : TT} (h : Full N t:=by intro;simp only[Go.Xe.full_st,hF]) : Full N t:=h
theorem zK {l : List (Nat×Value)} {t : TT} (h : Kn l t:=by simp only[Go.Xe.Kn,Go.Xe.D5,hF,hA,↓reduceIte,Nat.reduceEqDiff,Nat.reduceLT,and_self,and_true,true_and];try (repeat' constructor)) : Kn l t:=h
theorem zE {N : Nat} {t : TT} (h : Full N t:=by intro i;simp only[Go.Xe.full_st,Go.Xe.Full.mk]) : Full N t:=h
theorem zY {l : List (Nat×Value)} {t : TT} (h : Kn l t:=by simp only[Go.Xe.Kn,Go.Xe.gt_st,Go.Xe.full_st,Go.Xe.Full.mk,↓reduceIte,Nat.reduceEqDiff,Nat.reduceLT,decide_true,and_self]) : Kn l t:=h
theorem zW (h : p:=by (repeat first|assumption|exact Go.Xe.Grow.refl _|refine Go.Xe.Grow.alloc ?_ _|refine Go.Xe.Grow.set ?_ (by first|omega|simp only[Go.Xe.nx];omega) _)) : p:=h
theorem zB (h : p:=by (repeat first|assumption|exact Go.Xe.Bx.new _ _ _|exact Go.Xe.Bx.newAt (by first|omega|simp only[Go.Xe.nx];omega)|refine Go.Xe.Bx.put (by first|omega|simp only[Go.Xe.nx];omega) _ _|refine Go.Xe.Bx.alloc ?_ _|refine Go.Xe.Bx.set ?_ (by first|omega|simp only[Go.Xe.nx];omega) _)) : p:=h
theorem zM (h : p:=by simp only[Go.Xe.monoG,List.cons_append,List.nil_append,Go.Xe.Heap.next_set,Go.Xe.Heap.next_alloc,Nat.le_refl,true_and,and_true]<;>omega) : p:=h
end
end Go.Xe
