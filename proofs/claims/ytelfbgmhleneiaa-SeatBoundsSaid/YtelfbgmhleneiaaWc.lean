/- Rules of reasoning over the executable reading of the model's code (part Z26): the first elements of a slice that came in. Conditions: none; for every program. -/
import Derived.Test.YtelfbgmhleneiaaZy
import Derived.Test.YtelfbgmhleneiaaZu
import Derived.Test.YtelfbgmhleneiaaZq
namespace Go.Xe
open Go
def Ro (A : Heap) : Prop:=∀ i c el rw,i<A.next→A.cellsAt i=some (c,el,rw)→rw=false
section
variable {P : Program} {A : Heap} {e : TypeId} {k : Nat}
theorem xb_hi {n c : Nat} (h : k≤n) (hn : n≤c) (d : Nat) : xbound (some (.int .i64 (k : Int))) d c=some k:=by
 simp only[xbound]
 rw[if_pos ⟨by omega,by omega⟩]
 simp
theorem Sl.take {v : Value} {l : List Value} (h : Sl A v l) (hr : Ro A) (hk : k≤l.length) : ∃ y,∀ X,Grow A X→yslice P e 1 X v none (some (.int .i64 (k : Int)))=some y∧Sl X y (l.take k):=by
 cases h with
 | nil=>
  have : k=0:=by simpa using hk
  subst this
  exact⟨_,fun X _=>⟨rfl,.nil⟩⟩
 | spot i o s=>
  have : k=0:=by simpa using hk
  subst this
  exact⟨_,fun X _=>⟨rfl,.spot i o s⟩⟩
 | «at» hi hc hn hl hs hv=>
  rename_i i o n c a el rw
  have hrw:=hr i a el rw hi hc
  by_cases hc0 : c=0
  ·have : k=0:=by omega
   subst this
   refine⟨.slice (some ⟨i,o,some 0⟩) 0 0,fun X g=>⟨?_,.spot i o 0⟩⟩
   have hX:=(g.cells hi).trans hc
   simp only[yslice,hX]
   rw[if_pos (.inl hrw),xb_hi (n:=n) (by omega) hn]
   simp only[xbound]
   rw[if_pos hc0]
  ·refine⟨.slice (some ⟨i,o+0*1,none⟩) (k-0) (c-0),fun X g=>?_⟩
   have hX:=(g.cells hi).trans hc
   refine⟨?_,?_⟩
   ·simp only[yslice,hX]
    rw[if_pos (.inl hrw),xb_hi (n:=n) (by omega) hn]
    simp only[xbound]
    rw[if_neg hc0]
   ·simp only[Nat.zero_mul,Nat.add_zero,Nat.sub_zero]
    refine .at (Nat.lt_of_lt_of_le hi g.1) hX (by omega) (by rw[List.length_take];omega) (by omega) (fun j x hj=>hv j x ?_)
    rw[List.getElem?_take] at hj
    split at hj
    ·exact hj
    ·cases hj
theorem Sw.take {w : Nat} {v : Value} {l : List (List Value)} (h : Sw w A v l) (hr : Ro A) (hk : k≤l.length) : ∃ y,∀ X,Grow A X→yslice P e w X v none (some (.int .i64 (k : Int)))=some y∧Sw w X y (l.take k):=by
 cases h with
 | nil=>
  have : k=0:=by simpa using hk
  subst this
  exact⟨_,fun X _=>⟨rfl,.nil⟩⟩
 | spot i o s=>
  have : k=0:=by simpa using hk
  subst this
  exact⟨_,fun X _=>⟨rfl,.spot i o s⟩⟩
 | «at» hi hc hn hl hs hv=>
  rename_i i o n c a el rw
  have hrw:=hr i a el rw hi hc
  by_cases hc0 : c=0
  ·have : k=0:=by omega
   subst this
   refine⟨.slice (some ⟨i,o,some 0⟩) 0 0,fun X g=>⟨?_,.spot i o 0⟩⟩
   have hX:=(g.cells hi).trans hc
   simp only[yslice,hX]
   rw[if_pos (.inl hrw),xb_hi (n:=n) (by omega) hn]
   simp only[xbound]
   rw[if_pos hc0]
  ·refine⟨.slice (some ⟨i,o+0*w,none⟩) (k-0) (c-0),fun X g=>?_⟩
   have hX:=(g.cells hi).trans hc
   refine⟨?_,?_⟩
   ·simp only[yslice,hX]
    rw[if_pos (.inl hrw),xb_hi (n:=n) (by omega) hn]
    simp only[xbound]
    rw[if_neg hc0]
   ·simp only[Nat.zero_mul,Nat.add_zero,Nat.sub_zero]
    have hm : k*w≤n*w:=Nat.mul_le_mul_right w (by omega)
    refine .at (Nat.lt_of_lt_of_le hi g.1) hX (by omega) (by rw[List.length_take];omega) (by omega) (fun j x hj=>hv j x ?_)
    rw[List.getElem?_take] at hj
    split at hj
    ·exact hj
    ·cases hj
theorem Nest.take {α : Type} {R : Heap→Value→α→Prop} (hR : RP R) {v : Value} {L : List α} (h : Nest R A v L) (hr : Ro A) (hk : k≤L.length) : ∃ y,∀ X,Grow A X→yslice P e 1 X v none (some (.int .i64 (k : Int)))=some y∧Nest R X y (L.take k):=by
 obtain⟨vs,h1,h2,h3⟩:=h
 obtain⟨y,k1⟩:=h1.take (P:=P) (e:=e) hr (k:=k) (by omega)
 refine⟨y,fun X g=>⟨(k1 X g).1,vs.take k,(k1 X g).2,by simp[h2],fun j x r hx hr'=>?_⟩⟩
 rw[List.getElem?_take] at hx hr'
 split at hx
 ·rename_i hj
  rw[if_pos hj] at hr'
  exact hR.grow g (h3 j x r hx hr')
 ·cases hx
end
end Go.Xe
/- Rules of reasoning over the executable reading of the model's code (part Z24): maps as functions of their keys. Conditions: none; for every program. -/
namespace Go.Xe
open Go
variable {α : Type} [DecidableEq α]
structure KeyOk (P : Program) (kt : TypeId) (ke : α→Value) (D : α→Prop) : Prop where
 keyed : keyedB P kt=true
 keyish : ∀ a,keyishV (ke a)=true
 keyOf : ∀ a,D a→(keyOf P kt (ke a)).isSome=true
 eq : ∀ a b,valEq (ke a) (ke b)=decide (a=b)
def lookE (k : Value) : List MapEntry→Option Value
 | []=>none
 | e::es=>if valEq k e.key then some e.val else lookE k es
theorem xfind_look {k : Value} : ∀ (es : List MapEntry) (n : Nat),(xfind k es n=none∧lookE k es=none)∨∃ x e,xfind k es n=some (n+x)∧es[x]?=some e∧lookE k es=some e.val
 | [],_=>.inl ⟨rfl,rfl⟩
 | e::es,n=>by
  simp only[xfind,lookE]
  by_cases h : valEq k e.key=true
  ·rw[if_pos h,if_pos h]
   exact .inr ⟨0,e,rfl,rfl,rfl⟩
  ·rw[if_neg h,if_neg h]
   rcases xfind_look es (n+1) with⟨h1,h2⟩|⟨x,e',h1,h2,h3⟩
   ·exact .inl ⟨h1,h2⟩
   ·exact .inr ⟨x+1,e',by rw[h1];congr 1;omega,by simpa using h2,h3⟩
theorem look_push {k : Value} {e : MapEntry} : ∀ (es : List MapEntry),lookE k (es++[e])=match lookE k es with
  | some v=>some v
  | none=>if valEq k e.key then some e.val else none
 | []=>by simp only[List.nil_append,lookE]
 | e'::es=>by
  simp only[List.cons_append,lookE]
  by_cases h : valEq k e'.key=true
  ·rw[if_pos h,if_pos h]
  ·rw[if_neg h,if_neg h,look_push es]
theorem look_modify {P : Program} {kt : TypeId} {ke : α→Value} {D : α→Prop} (hk : KeyOk P kt ke D) {a : α} {v : Value} : ∀ (es : List MapEntry) (n x : Nat),(∀ e∈es,∃ c,e.key=ke c)→xfind (ke a) es n=some (n+x)→∀ b,lookE (ke b) (es.modify x fun e=>{ e with key:=ke a,val:=v })=if b=a then some v else lookE (ke b) es
 | [],n,x,_,h,_=>by simp[xfind] at h
 | e::es,n,x,hes,h,b=>by
  obtain⟨c,hc⟩:=hes e (by simp)
  simp only[xfind] at h
  by_cases he : valEq (ke a) e.key=true
  ·rw[if_pos he] at h
   have hx : x=0:=by simp only[Option.some.injEq] at h;omega
   subst hx
   rw[hc,hk.eq,decide_eq_true_eq] at he
   subst he
   simp only[List.modify_zero_cons,lookE,hc,hk.eq,decide_eq_true_eq]
   by_cases hb : b=a
   ·rw[if_pos hb,if_pos hb]
   ·rw[if_neg hb,if_neg hb,if_neg hb]
  ·rw[if_neg he] at h
   obtain⟨x',rfl⟩ : ∃ x',x=x'+1:=by
    rcases xfind_look (k:=ke a) es (n+1) with⟨h1,_⟩|⟨y,_,h1,_⟩
    ·rw[h1] at h;cases h
    ·rw[h1] at h
     simp only[Option.some.injEq] at h
     exact⟨y,by omega⟩
   have h' : xfind (ke a) es (n+1)=some (n+1+x'):=by rw[h];congr 1;omega
   have ih:=look_modify hk (v:=v) es (n+1) x' (fun e he=>hes e (by simp[he])) h' b
   rw[hc,hk.eq,decide_eq_true_eq] at he
   simp only[List.modify_succ_cons,lookE,hc,hk.eq,decide_eq_true_eq]
   by_cases hb : b=c
   ·rw[if_pos hb,if_pos hb,if_neg (fun h=>he (by rw[← h,hb]))]
   ·rw[if_neg hb,if_neg hb,ih]
def MpF (H : Heap) (i : Nat) (kt : TypeId) (ke : α→Value) (f : α→Option Value) : Prop:=∃ es,Mp H i kt es∧(∀ e∈es,∃ c,e.key=ke c)∧∀ a,lookE (ke a) es=f a
omit [DecidableEq α] in
theorem MpF.lt {H : Heap} {i : Nat} {kt : TypeId} {ke : α→Value} {f : α→Option Value} (h : MpF H i kt ke f) : i<H.next:=by
 obtain⟨es,h1,_⟩:=h
 exact h1.1
omit [DecidableEq α] in
theorem MpF.grow {A B : Heap} (g : Grow A B) {i : Nat} {kt : TypeId} {ke : α→Value} {f : α→Option Value} (h : MpF A i kt ke f) : MpF B i kt ke f:=by
 obtain⟨es,h1,h2⟩:=h
 exact⟨es,h1.grow g,h2⟩
omit [DecidableEq α] in
theorem MpF.new (A : Heap) (kt : TypeId) (ke : α→Value) : MpF (A.alloc (.map kt #[] 0)) A.next kt ke (fun _=>none):=
 ⟨[],⟨Nat.lt_succ_self _,0,maps_alloc A kt #[] 0⟩,fun e he=>by simp at he,fun _=>rfl⟩
theorem MpF.look {P : Program} {H : Heap} {i : Nat} {kt : TypeId} {ke : α→Value} {D : α→Prop} {f : α→Option Value} (hk : KeyOk P kt ke D) (h : MpF H i kt ke f) {a : α} (ha : D a) (z : Value) : ylookup P kt z H (.map (some i)) (ke a) false=some ((f a).getD z):=by
 obtain⟨es,⟨h1,clk,h2⟩,h3,h4⟩:=h
 simp only[ylookup,h2]
 rw[if_pos ⟨trivial,hk.keyed,hk.keyish a,hk.keyOf a ha⟩,← h4 a]
 rcases xfind_look (k:=ke a) es 0 with⟨k1,k2⟩|⟨x,e,k1,k2,k3⟩
 ·rw[k1,k2];rfl
 ·rw[k1,k3]
  have e1 : (⟨es⟩ : Array MapEntry)[0+x]?=some e:=by rw[Nat.zero_add];simpa using k2
  simp only[e1]
  rfl
theorem MpF.upd {P : Program} {H : Heap} {i : Nat} {kt : TypeId} {ke : α→Value} {D : α→Prop} {f : α→Option Value} (hk : KeyOk P kt ke D) (h : MpF H i kt ke f) {a : α} (ha : D a) (v : Value) :
  ∃ o,ymapUpdate P kt H (.map (some i)) (ke a) v=some (H.set i o)∧MpF (H.set i o) i kt ke (fun b=>if b=a then some v else f b):=by
 obtain⟨es,⟨h1,clk,h2⟩,h3,h4⟩:=h
 rcases xfind_look (k:=ke a) es 0 with⟨k1,k2⟩|⟨x,e,k1,k2,k3⟩
 ·refine⟨.map kt ((⟨es⟩ : Array MapEntry).push { key:=ke a,val:=v,born:=clk }) (clk+1),upd_miss h2 hk.keyed (hk.keyish a) (hk.keyOf a ha) k1,es++[{ key:=ke a,val:=v,born:=clk }],⟨h1,clk+1,?_⟩,?_,?_⟩
  ·have:=maps_set H i kt ((⟨es⟩ : Array MapEntry).push { key:=ke a,val:=v,born:=clk }) (clk+1)
   simpa using this
  ·intro e he
   rcases List.mem_append.1 he with he|he
   ·exact h3 e he
   ·rw[List.mem_singleton.1 he];exact⟨a,rfl⟩
  ·intro b
   rw[look_push,h4 b,hk.eq]
   by_cases hb : b=a
   ·subst hb
    rw[← h4 b,k2];simp
   ·simp only[decide_eq_true_eq,if_neg hb]
    cases f b<;>rfl
 ·refine⟨.map kt ((⟨es⟩ : Array MapEntry).modify (0+x) fun e=>{ e with key:=ke a,val:=v }) clk,?_,es.modify x (fun e=>{ e with key:=ke a,val:=v }),⟨h1,clk,?_⟩,?_,?_⟩
  ·simp only[ymapUpdate,h2]
   rw[if_pos ⟨trivial,hk.keyed,hk.keyish a,hk.keyOf a ha⟩,k1]
  ·have:=maps_set H i kt ((⟨es⟩ : Array MapEntry).modify (0+x) fun e=>{ e with key:=ke a,val:=v }) clk
   have e2 : ((⟨es⟩ : Array MapEntry).modify (0+x) fun e=>{ e with key:=ke a,val:=v })=⟨es.modify x fun e=>{ e with key:=ke a,val:=v }⟩:=by
    apply Array.toList_inj.1
    simp
   rw[this,e2]
  ·intro e he
   obtain⟨j,hj,rfl⟩:=List.mem_iff_getElem.1 he
   rw[List.getElem_modify]
   split
   ·exact⟨a,rfl⟩
   ·exact h3 _ (List.getElem_mem _)
  ·intro b
   rw[look_modify hk es 0 x h3 k1 b,h4 b]
end Go.Xe
/- Rules of reasoning over the executable reading of the model's code (part Z27): the same rules, whose equations are found by themselves out of what is named hF, hA and zf at the place of use. Conditions: none; for every program. -/
namespace Go.Xe
open Go
abbrev tm (n : Nat) : FA:=.tmp (pth n)
section
variable {P : Program} [Gl P] [Orc P] {rnd : Option Nat} {Q : FQ} {K : List FFr} {m : List Nat}
variable {is : List FI} {t t1 : TT} {H H1 : Heap} {cs : List FC} {n : Nat} {pre Gs : List Heap} {R : TT→List Heap→Prop}
theorem V.lz (k : V P rnd Q K .normal t1 m H1) (h : Xe.din P is t H=some (t1,H1):=by simp +contextual (disch:=first|omega|simp only[Go.Xe.nx];omega) only[Go.Xe.D4,Int.reduceNegSucc,Int.reduceEq,Nat.reduceLeDiff,Nat.reduceSub,Nat.reduceAdd,Go.Xe.D5,hF,hA,↓reduceIte,Nat.reduceEqDiff,Nat.reduceLT,zf];with_reducible rfl) : V P rnd Q (.seq (.run is)::K) .normal t m H:=V.line' h k
theorem V.l0 (k : V P rnd Q K .normal t1 m H1) (h : Xe.din P is t H=some (t1,H1):=by simp +contextual (disch:=first|omega|simp only[Go.Xe.nx];omega) only[Go.Xe.D4,Int.reduceNegSucc,Int.reduceEq,Nat.reduceLeDiff,Nat.reduceSub,Nat.reduceAdd,Go.Xe.D5,hF,hA,↓reduceIte,Nat.reduceEqDiff,Nat.reduceLT];with_reducible rfl) : V P rnd Q (.seq (.run is)::K) .normal t m H:=V.line' h k
theorem VI.lz (k : V P rnd Q K .normal t1 m H1) (h : Xe.din P is t H=some (t1,H1):=by simp +contextual (disch:=first|omega|simp only[Go.Xe.nx];omega) only[Go.Xe.D4,Int.reduceNegSucc,Int.reduceEq,Nat.reduceLeDiff,Nat.reduceSub,Nat.reduceAdd,Go.Xe.D5,hF,hA,↓reduceIte,Nat.reduceEqDiff,Nat.reduceLT,zf];with_reducible rfl) : VI P rnd Q K m is t H:=VI.line' h k
theorem VI.l0 (k : V P rnd Q K .normal t1 m H1) (h : Xe.din P is t H=some (t1,H1):=by simp +contextual (disch:=first|omega|simp only[Go.Xe.nx];omega) only[Go.Xe.D4,Int.reduceNegSucc,Int.reduceEq,Nat.reduceLeDiff,Nat.reduceSub,Nat.reduceAdd,Go.Xe.D5,hF,hA,↓reduceIte,Nat.reduceEqDiff,Nat.reduceLT];with_reducible rfl) : VI P rnd Q K m is t H:=VI.line' h k
theorem VI.sz (n : Nat) (k : VI P rnd Q K m (is.drop n) t1 H1) (h : Xe.din P (is.take n) t H=some (t1,H1):=by simp +contextual (disch:=first|omega|simp only[Go.Xe.nx];omega) only[Go.Xe.D4,Int.reduceNegSucc,Int.reduceEq,Nat.reduceLeDiff,Nat.reduceSub,Nat.reduceAdd,Go.Xe.D5,hF,hA,↓reduceIte,Nat.reduceEqDiff,Nat.reduceLT,zf];with_reducible rfl) : VI P rnd Q K m is t H:=VI.steps' n h k
theorem VI.s0 (n : Nat) (k : VI P rnd Q K m (is.drop n) t1 H1) (h : Xe.din P (is.take n) t H=some (t1,H1):=by simp +contextual (disch:=first|omega|simp only[Go.Xe.nx];omega) only[Go.Xe.D4,Int.reduceNegSucc,Int.reduceEq,Nat.reduceLeDiff,Nat.reduceSub,Nat.reduceAdd,Go.Xe.D5,hF,hA,↓reduceIte,Nat.reduceEqDiff,Nat.reduceLT];with_reducible rfl) : VI P rnd Q K m is t H:=VI.steps' n h k
theorem V.dz (h1 : monoG (Gs++[H1])) (h2 : dcAll P t1 (Gs++[H1]) cs) (h3 : (Gs++[H1])[n]?=some H1) (k : V P rnd Q K .normal t1 m H1) (h : dinA P is t H []=some (t1,Gs,H1):=by simp +contextual (disch:=first|omega|simp only[Go.Xe.nx];omega) only[Go.Xe.D4,Int.reduceNegSucc,Int.reduceEq,Nat.reduceLeDiff,Nat.reduceSub,Nat.reduceAdd,Go.Xe.D5,hF,hA,↓reduceIte,Nat.reduceEqDiff,Nat.reduceLT,zf];with_reducible rfl) : V P rnd Q (.seq (.draw n is cs)::K) .normal t m H:=V.lineD' h h1 h2 h3 k
theorem V.d0 (h1 : monoG (Gs++[H1])) (h2 : dcAll P t1 (Gs++[H1]) cs) (h3 : (Gs++[H1])[n]?=some H1) (k : V P rnd Q K .normal t1 m H1) (h : dinA P is t H []=some (t1,Gs,H1):=by simp +contextual (disch:=first|omega|simp only[Go.Xe.nx];omega) only[Go.Xe.D4,Int.reduceNegSucc,Int.reduceEq,Nat.reduceLeDiff,Nat.reduceSub,Nat.reduceAdd,Go.Xe.D5,hF,hA,↓reduceIte,Nat.reduceEqDiff,Nat.reduceLT];with_reducible rfl) : V P rnd Q (.seq (.draw n is cs)::K) .normal t m H:=V.lineD' h h1 h2 h3 k
theorem VD.dz (h1 : monoG (Gs++[H1])) (h2 : dcAll P t1 (Gs++[H1]) cs) (h3 : (Gs++[H1])[n]?=some H1) (k : V P rnd Q K .normal t1 m H1) (h : dinA P is t H pre=some (t1,Gs,H1):=by simp +contextual (disch:=first|omega|simp only[Go.Xe.nx];omega) only[Go.Xe.D4,Int.reduceNegSucc,Int.reduceEq,Nat.reduceLeDiff,Nat.reduceSub,Nat.reduceAdd,Go.Xe.D5,hF,hA,↓reduceIte,Nat.reduceEqDiff,Nat.reduceLT,zf];with_reducible rfl) : VD P is t H pre (DEnd P rnd Q K m n cs):=VD.lineD' h h1 h2 h3 k
theorem VD.d0 (h1 : monoG (Gs++[H1])) (h2 : dcAll P t1 (Gs++[H1]) cs) (h3 : (Gs++[H1])[n]?=some H1) (k : V P rnd Q K .normal t1 m H1) (h : dinA P is t H pre=some (t1,Gs,H1):=by simp +contextual (disch:=first|omega|simp only[Go.Xe.nx];omega) only[Go.Xe.D4,Int.reduceNegSucc,Int.reduceEq,Nat.reduceLeDiff,Nat.reduceSub,Nat.reduceAdd,Go.Xe.D5,hF,hA,↓reduceIte,Nat.reduceEqDiff,Nat.reduceLT];with_reducible rfl) : VD P is t H pre (DEnd P rnd Q K m n cs):=VD.lineD' h h1 h2 h3 k
end
section
variable {P : Program} [Gl P] [Orc P] {is : List FI} {t T : TT} {H H1 : Heap} {pre Gs : List Heap} {R : TT→List Heap→Prop}
theorem VD.nz (n : Nat) (k : VD P (is.drop n) T H1 Gs R) (h : dinA P (is.take n) t H pre=some (T,Gs,H1):=by simp +contextual (disch:=first|omega|simp only[Go.Xe.nx];omega) only[Go.Xe.D4,Int.reduceNegSucc,Int.reduceEq,Nat.reduceLeDiff,Nat.reduceSub,Nat.reduceAdd,Go.Xe.D5,hF,hA,↓reduceIte,Nat.reduceEqDiff,Nat.reduceLT,zf];with_reducible rfl) : VD P is t H pre R:=VD.dins n h k
end
section
variable {p q : Prop}
theorem zS (k : q) (h : q→p:=by intro h;(repeat first|apply Go.Xe.V.seq|apply Go.Xe.V.block|apply Go.Xe.V.scope|apply Go.Xe.V.skip|apply Go.Xe.V.close);exact h) : p:=h k
theorem zX (k : q) (h : q→p:=by intro h;(repeat first|apply Go.Xe.V.pass|apply Go.Xe.V.here|(apply Go.Xe.V.out;decide));exact h) : p:=h k
theorem zA (h : p:=by simp only[Go.Xe.D6,Go.Xe.D5,hF,hA,↓reduceIte,Nat.reduceEqDiff,Nat.reduceLT];try rfl) : p:=h
theorem zP (h : p:=by simp only[Go.Xe.D6,Go.Xe.D5,hF,hA,↓reduceIte,Nat.reduceEqDiff,Nat.reduceLT];rfl) : p:=h
theorem zG (h : p:=by simp only[Go.Xe.D5,hF,hA,↓reduceIte,Nat.reduceEqDiff,Nat.reduceLT];try rfl) : p:=h
theorem zI (h : p:=by simp only[Go.Xe.D6,Go.Xe.D5,hF,hA,↓reduceIte,Nat.reduceEqDiff,Nat.reduceLT,hc,and_self,and_true,true_and,not_false_eq_true];try rfl) : p:=h
theorem zF {N : Nat} {t : TT} (h : Full N t:=by intro;simp only[Go.Xe.full_st,hF]) : Full N t:=h
theorem zK {l : List (Nat×Value)} {t : TT} (h : Kn l t:=by simp only[Go.Xe.Kn,Go.Xe.D5,hF,hA,↓reduceIte,Nat.reduceEqDiff,Nat.reduceLT,and_self,and_true,true_and];try (repeat' constructor)) : Kn l t:=h
theorem zE {N : Nat} {t : TT} (h : Full N t:=by intro i;simp only[Go.Xe.full_st,Go.Xe.Full.mk]) : Full N t:=h
theorem zY {l : List (Nat×Value)} {t : TT} (h : Kn l t:=by simp only[Go.Xe.Kn,Go.Xe.gt_st,Go.Xe.full_st,Go.Xe.Full.mk,↓reduceIte,Nat.reduceEqDiff,Nat.reduceLT,decide_true,and_self]) : Kn l t:=h
theorem zW (h : p:=by (repeat first|assumption|exact Go.Xe.Grow.refl _|refine Go.Xe.Grow.alloc ?_ _|refine Go.Xe.Grow.set ?_ (by first|omega|simp only[Go.Xe.nx];omega) _)) : p:=h
theorem zB (h : p:=by (repeat first|assumption|exact Go.Xe.Bx.new _ _ _|exact Go.Xe.Bx.newAt (by first|omega|simp only[Go.Xe.nx];omega)|refine Go.Xe.Bx.put (by first|omega|simp only[Go.Xe.nx];omega) _ _|refine Go.Xe.Bx.alloc ?_ _|refine Go.Xe.Bx.set ?_ (by first|omega|simp only[Go.Xe.nx];omega) _)) : p:=h
theorem zM (h : p:=by simp only[Go.Xe.monoG,List.cons_append,List.nil_append,Go.Xe.Heap.next_set,Go.Xe.Heap.next_alloc,Nat.le_refl,true_and,and_true]<;>omega) : p:=h
theorem zR (h : p:=by
 intro _ q hq
 simp only[List.mem_cons,List.not_mem_nil,or_false] at hq
 (repeat (rcases hq with rfl|hq;exact⟨_,_,_,rfl,(by simp +contextual (disch:=first|omega|simp only[Go.Xe.nx];omega) only[Go.Xe.D4,Int.reduceNegSucc,Int.reduceEq,Nat.reduceLeDiff,Nat.reduceSub,Nat.reduceAdd,Go.Xe.D5,hF,hA,↓reduceIte,Nat.reduceEqDiff,Nat.reduceLT,zf];with_reducible rfl),fun p hp=>by cases hp;simp only[Go.Xe.D5,hF,hA,↓reduceIte,Nat.reduceEqDiff,Nat.reduceLT];first|exact Go.Xe.vEq_An|(simp[Go.Xe.vEq,Go.Xe.vEq0,Go.Xe.all2];done)|assumption⟩))
 (try (subst hq;exact⟨_,_,_,rfl,(by simp +contextual (disch:=first|omega|simp only[Go.Xe.nx];omega) only[Go.Xe.D4,Int.reduceNegSucc,Int.reduceEq,Nat.reduceLeDiff,Nat.reduceSub,Nat.reduceAdd,Go.Xe.D5,hF,hA,↓reduceIte,Nat.reduceEqDiff,Nat.reduceLT,zf];with_reducible rfl),fun p hp=>by cases hp;simp only[Go.Xe.D5,hF,hA,↓reduceIte,Nat.reduceEqDiff,Nat.reduceLT];first|exact Go.Xe.vEq_An|(simp[Go.Xe.vEq,Go.Xe.vEq0,Go.Xe.all2];done)|assumption⟩))) : p:=h
end
end Go.Xe
/- Rules of reasoning over the executable reading of the model's code (part Z28): guarded calls of functions that change memory. Conditions: none; for every program. -/
namespace Go.Xe
open Go
section
variable {P : Program} [Gl P] [Orc P] {rnd : Option Nat} {Q : FQ} {K : List FFr} {t : TT} {m : List Nat} {H : Heap} {is : List FI} {p d : Pth} {w : Bool} {fa : FA} {args : List FA} {g : FuncId} {a b l : List Value} {S : Value→Heap→Prop} {pre : List Heap} {R : TT→List Heap→Prop}
theorem V.join {x : FCode} (S : TT→List Nat→Heap→Prop) (h : V P rnd (fun e t' m' H'=>(e=.normal∧S t' m' H')∨(e≠.normal∧V P rnd Q K e t' m' H')) [.seq x] .normal t m H) (k : ∀ t' m' H',S t' m' H'→V P rnd Q K .normal t' m' H') : V P rnd Q (.seq x::K) .normal t m H:=by
 intro c tm hc ht
 obtain⟨e,tm1,m1,H1,t1,h1,h2,h3⟩:=h c tm hc ht
 refine⟨e,tm1,m1,H1,t1,h1,h2,?_⟩
 rcases h3 with⟨rfl,hS⟩|⟨_,h3⟩
 ·exact k _ _ _ hS
 ·exact h3
end
end Go.Xe
/- Rules of reasoning over the executable reading of the model's code (part W3): a loop over a function whose yielded values lie where only the run tells, and that changes memory of its own between its rounds. Conditions: none; for every program. -/
namespace Go.Xe
open Go
section
variable {P : Program} [Gl P] [Orc P] {rnd : Option Nat} {Q : FQ} {K : List FFr} {t : TT} {m : List Nat} {H : Heap}
end
end Go.Xe
