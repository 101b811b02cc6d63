/- Rules of reasoning over the executable reading of the model's code (part Z26): the first elements of a slice that came in. Conditions: none; for every program. -/
import Derived.Test.YtimnlnfpblomnaaZy
import Derived.Test.YtimnlnfpblomnaaZu
import Derived.Test.YtimnlnfpblomnaaZq
import Derived.Test.YtimnlnfpblomnaaZb
namespace Go.Xe
open Go
def Ro (A : Heap) : Prop:=∀ i c el rw,i<A.next→A.cellsAt i=some (c,el,rw)→rw=false
section
variable {P : Program} {A : Heap} {e : TypeId} {k : Nat}
theorem xb_hi {n c : Nat} (h : k≤n) (hn : n≤c) (d : Nat) : xbound (some (.int .i64 (k : Int))) d c=some k:=by
 simp only[xbound]
 rw[if_pos ⟨by omega,by omega⟩]
 simp
theorem Sl.take {v : Value} {l : List Value} (h : Sl A v l) (hr : Ro A) (hk : k≤l.length) : ∃ y,∀ X,Grow A X→yslice P e 1 X v none (some (.int .i64 (k : Int)))=some y∧Sl X y (l.take k):=by
 cases h with
 | nil=>
  have : k=0:=by simpa using hk
  subst this
  exact⟨_,fun X _=>⟨rfl,.nil⟩⟩
 | spot i o s=>
  have : k=0:=by simpa using hk
  subst this
  exact⟨_,fun X _=>⟨rfl,.spot i o s⟩⟩
 | «at» hi hc hn hl hs hv=>
  rename_i i o n c a el rw
  have hrw:=hr i a el rw hi hc
  by_cases hc0 : c=0
  ·have : k=0:=by omega
   subst this
   refine⟨.slice (some ⟨i,o,some 0⟩) 0 0,fun X g=>⟨?_,.spot i o 0⟩⟩
   have hX:=(g.cells hi).trans hc
   simp only[yslice,hX]
   rw[if_pos (.inl hrw),xb_hi (n:=n) (by omega) hn]
   simp only[xbound]
   rw[if_pos hc0]
  ·refine⟨.slice (some ⟨i,o+0*1,none⟩) (k-0) (c-0),fun X g=>?_⟩
   have hX:=(g.cells hi).trans hc
   refine⟨?_,?_⟩
   ·simp only[yslice,hX]
    rw[if_pos (.inl hrw),xb_hi (n:=n) (by omega) hn]
    simp only[xbound]
    rw[if_neg hc0]
   ·simp only[Nat.zero_mul,Nat.add_zero,Nat.sub_zero]
    refine .at (Nat.lt_of_lt_of_le hi g.1) hX (by omega) (by rw[List.length_take];omega) (by omega) (fun j x hj=>hv j x ?_)
    rw[List.getElem?_take] at hj
    split at hj
    ·exact hj
    ·cases hj
theorem Sw.take {w : Nat} {v : Value} {l : List (List Value)} (h : Sw w A v l) (hr : Ro A) (hk : k≤l.length) : ∃ y,∀ X,Grow A X→yslice P e w X v none (some (.int .i64 (k : Int)))=some y∧Sw w X y (l.take k):=by
 cases h with
 | nil=>
  have : k=0:=by simpa using hk
  subst this
  exact⟨_,fun X _=>⟨rfl,.nil⟩⟩
 | spot i o s=>
  have : k=0:=by simpa using hk
  subst this
  exact⟨_,fun X _=>⟨rfl,.spot i o s⟩⟩
 | «at» hi hc hn hl hs hv=>
  rename_i i o n c a el rw
  have hrw:=hr i a el rw hi hc
  by_cases hc0 : c=0
  ·have : k=0:=by omega
   subst this
   refine⟨.slice (some ⟨i,o,some 0⟩) 0 0,fun X g=>⟨?_,.spot i o 0⟩⟩
   have hX:=(g.cells hi).trans hc
   simp only[yslice,hX]
   rw[if_pos (.inl hrw),xb_hi (n:=n) (by omega) hn]
   simp only[xbound]
   rw[if_pos hc0]
  ·refine⟨.slice (some ⟨i,o+0*w,none⟩) (k-0) (c-0),fun X g=>?_⟩
   have hX:=(g.cells hi).trans hc
   refine⟨?_,?_⟩
   ·simp only[yslice,hX]
    rw[if_pos (.inl hrw),xb_hi (n:=n) (by omega) hn]
    simp only[xbound]
    rw[if_neg hc0]
   ·simp only[Nat.zero_mul,Nat.add_zero,Nat.sub_zero]
    have hm : k*w≤n*w:=Nat.mul_le_mul_right w (by omega)
    refine .at (Nat.lt_of_lt_of_le hi g.1) hX (by omega) (by rw[List.length_take];omega) (by omega) (fun j x hj=>hv j x ?_)
    rw[List.getElem?_take] at hj
    split at hj
    ·exact hj
    ·cases hj
theorem Nest.take {α : Type} {R : Heap→Value→α→Prop} (hR : RP R) {v : Value} {L : List α} (h : Nest R A v L) (hr : Ro A) (hk : k≤L.length) : ∃ y,∀ X,Grow A X→yslice P e 1 X v none (some (.int .i64 (k : Int)))=some y∧Nest R X y (L.take k):=by
 obtain⟨vs,h1,h2,h3⟩:=h
 obtain⟨y,k1⟩:=h1.take (P:=P) (e:=e) hr (k:=k) (by omega)
 refine⟨y,fun X g=>⟨(k1 X g).1,vs.take k,(k1 X g).2,by simp[h2],fun j x r hx hr'=>?_⟩⟩
 rw[List.getElem?_take] at hx hr'
 split at hx
 ·rename_i hj
  rw[if_pos hj] at hr'
  exact hR.grow g (h3 j x r hx hr')
 ·cases hx
end
end Go.Xe
/- Rules of reasoning over the executable reading of the model's code (part Z24): maps as functions of their keys. Conditions: none; for every program. -/
namespace Go.Xe
open Go
variable {α : Type} [DecidableEq α]
structure KeyOk (P : Program) (kt : TypeId) (ke : α→Value) (D : α→Prop) : Prop where
 keyed : keyedB P kt=true
 keyish : ∀ a,keyishV (ke a)=true
 keyOf : ∀ a,D a→(keyOf P kt (ke a)).isSome=true
 eq : ∀ a b,valEq (ke a) (ke b)=decide (a=b)
def lookE (k : Value) : List MapEntry→Option Value
 | []=>none
 | e::es=>if valEq k e.key then some e.val else lookE k es
theorem xfind_look {k : Value} : ∀ (es : List MapEntry) (n : Nat),(xfind k es n=none∧lookE k es=none)∨∃ x e,xfind k es n=some (n+x)∧es[x]?=some e∧lookE k es=some e.val
 | [],_=>.inl ⟨rfl,rfl⟩
 | e::es,n=>by
  simp only[xfind,lookE]
  by_cases h : valEq k e.key=true
  ·rw[if_pos h,if_pos h]
   exact .inr ⟨0,e,rfl,rfl,rfl⟩
  ·rw[if_neg h,if_neg h]
   rcases xfind_look es (n+1) with⟨h1,h2⟩|⟨x,e',h1,h2,h3⟩
   ·exact .inl ⟨h1,h2⟩
   ·exact .inr ⟨x+1,e',by rw[h1];congr 1;omega,by simpa using h2,h3⟩
theorem look_push {k : Value} {e : MapEntry} : ∀ (es : List MapEntry),lookE k (es++[e])=match lookE k es with
  | some v=>some v
  | none=>if valEq k e.key then some e.val else none
 | []=>by simp only[List.nil_append,lookE]
 | e'::es=>by
  simp only[List.cons_append,lookE]
  by_cases h : valEq k e'.key=true
  ·rw[if_pos h,if_pos h]
  ·rw[if_neg h,if_neg h,look_push es]
theorem look_modify {P : Program} {kt : TypeId} {ke : α→Value} {D : α→Prop} (hk : KeyOk P kt ke D) {a : α} {v : Value} : ∀ (es : List MapEntry) (n x : Nat),(∀ e∈es,∃ c,e.key=ke c)→xfind (ke a) es n=some (n+x)→∀ b,lookE (ke b) (es.modify x fun e=>{ e with key:=ke a,val:=v })=if b=a then some v else lookE (ke b) es
 | [],n,x,_,h,_=>by simp[xfind] at h
 | e::es,n,x,hes,h,b=>by
  obtain⟨c,hc⟩:=hes e (by simp)
  simp only[xfind] at h
  by_cases he : valEq (ke a) e.key=true
  ·rw[if_pos he] at h
   have hx : x=0:=by simp only[Option.some.injEq] at h;omega
   subst hx
   rw[hc,hk.eq,decide_eq_true_eq] at he
   subst he
   simp only[List.modify_zero_cons,lookE,hc,hk.eq,decide_eq_true_eq]
   by_cases hb : b=a
   ·rw[if_pos hb,if_pos hb]
   ·rw[if_neg hb,if_neg hb,if_neg hb]
  ·rw[if_neg he] at h
   obtain⟨x',rfl⟩ : ∃ x',x=x'+1:=by
    rcases xfind_look (k:=ke a) es (n+1) with⟨h1,_⟩|⟨y,_,h1,_⟩
    ·rw[h1] at h;cases h
    ·rw[h1] at h
     simp only[Option.some.injEq] at h
     exact⟨y,by omega⟩
   have h' : xfind (ke a) es (n+1)=some (n+1+x'):=by rw[h];congr 1;omega
   have ih:=look_modify hk (v:=v) es (n+1) x' (fun e he=>hes e (by simp[he])) h' b
   rw[hc,hk.eq,decide_eq_true_eq] at he
   simp only[List.modify_succ_cons,lookE,hc,hk.eq,decide_eq_true_eq]
   by_cases hb : b=c
   ·rw[if_pos hb,if_pos hb,if_neg (fun h=>he (by rw[← h,hb]))]
   ·rw[if_neg hb,if_neg hb,ih]
def MpF (H : Heap) (i : Nat) (kt : TypeId) (ke : α→Value) (f : α→Option Value) : Prop:=∃ es,Mp H i kt es∧(∀ e∈es,∃ c,e.key=ke c)∧∀ a,lookE (ke a) es=f a
omit [DecidableEq α] in
theorem MpF.lt {H : Heap} {i : Nat} {kt : TypeId} {ke : α→Value} {f : α→Option Value} (h : MpF H i kt ke f) : i<H.next:=by
 obtain⟨es,h1,_⟩:=h
 exact h1.1
omit [DecidableEq α] in
theorem MpF.grow {A B : Heap} (g : Grow A B) {i : Nat} {kt : TypeId} {ke : α→Value} {f : α→Option Value} (h : MpF A i kt ke f) : MpF B i kt ke f:=by
 obtain⟨es,h1,h2⟩:=h
 exact⟨es,h1.grow g,h2⟩
omit [DecidableEq α] in
theorem MpF.loc {A B : Heap} {i : Nat} {kt : TypeId} {ke : α→Value} {f : α→Option Value} (h : MpF A i kt ke f) (hn : A.next≤B.next) (hg : B.get i=A.get i) : MpF B i kt ke f:=by
 obtain⟨es,⟨h1,clk,h2⟩,h3⟩:=h
 refine⟨es,⟨Nat.lt_of_lt_of_le h1 hn,clk,?_⟩,h3⟩
 unfold Heap.mapAt at h2 ⊢
 rw[hg];exact h2
omit [DecidableEq α] in
theorem MpF.new (A : Heap) (kt : TypeId) (ke : α→Value) : MpF (A.alloc (.map kt #[] 0)) A.next kt ke (fun _=>none):=
 ⟨[],⟨Nat.lt_succ_self _,0,maps_alloc A kt #[] 0⟩,fun e he=>by simp at he,fun _=>rfl⟩
theorem MpF.upd {P : Program} {H : Heap} {i : Nat} {kt : TypeId} {ke : α→Value} {D : α→Prop} {f : α→Option Value} (hk : KeyOk P kt ke D) (h : MpF H i kt ke f) {a : α} (ha : D a) (v : Value) :
  ∃ o,ymapUpdate P kt H (.map (some i)) (ke a) v=some (H.set i o)∧MpF (H.set i o) i kt ke (fun b=>if b=a then some v else f b):=by
 obtain⟨es,⟨h1,clk,h2⟩,h3,h4⟩:=h
 rcases xfind_look (k:=ke a) es 0 with⟨k1,k2⟩|⟨x,e,k1,k2,k3⟩
 ·refine⟨.map kt ((⟨es⟩ : Array MapEntry).push { key:=ke a,val:=v,born:=clk }) (clk+1),upd_miss h2 hk.keyed (hk.keyish a) (hk.keyOf a ha) k1,es++[{ key:=ke a,val:=v,born:=clk }],⟨h1,clk+1,?_⟩,?_,?_⟩
  ·have:=maps_set H i kt ((⟨es⟩ : Array MapEntry).push { key:=ke a,val:=v,born:=clk }) (clk+1)
   simpa using this
  ·intro e he
   rcases List.mem_append.1 he with he|he
   ·exact h3 e he
   ·rw[List.mem_singleton.1 he];exact⟨a,rfl⟩
  ·intro b
   rw[look_push,h4 b,hk.eq]
   by_cases hb : b=a
   ·subst hb
    rw[← h4 b,k2];simp
   ·simp only[decide_eq_true_eq,if_neg hb]
    cases f b<;>rfl
 ·refine⟨.map kt ((⟨es⟩ : Array MapEntry).modify (0+x) fun e=>{ e with key:=ke a,val:=v }) clk,?_,es.modify x (fun e=>{ e with key:=ke a,val:=v }),⟨h1,clk,?_⟩,?_,?_⟩
  ·simp only[ymapUpdate,h2]
   rw[if_pos ⟨trivial,hk.keyed,hk.keyish a,hk.keyOf a ha⟩,k1]
  ·have:=maps_set H i kt ((⟨es⟩ : Array MapEntry).modify (0+x) fun e=>{ e with key:=ke a,val:=v }) clk
   have e2 : ((⟨es⟩ : Array MapEntry).modify (0+x) fun e=>{ e with key:=ke a,val:=v })=⟨es.modify x fun e=>{ e with key:=ke a,val:=v }⟩:=by
    apply Array.toList_inj.1
    simp
   rw[this,e2]
  ·intro e he
   obtain⟨j,hj,rfl⟩:=List.mem_iff_getElem.1 he
   rw[List.getElem_modify]
   split
   ·exact⟨a,rfl⟩
   ·exact h3 _ (List.getElem_mem _)
  ·intro b
   rw[look_modify hk es 0 x h3 k1 b,h4 b]
end Go.Xe
/- Rules of reasoning over the executable reading of the model's code (part Z27): the same rules, whose equations are found by themselves out of what is named hF, hA and zf at the place of use. Conditions: none; for every program. -/
namespace Go.Xe
open Go
abbrev tm (n : Nat) : FA:=.tmp (pth n)
section
variable {P : Program} [Gl P] [Orc P] {rnd : Option Nat} {Q : FQ} {K : List FFr} {m : List Nat}
variable {is : List FI} {t t1 : TT} {H H1 : Heap} {cs : List FC} {n : Nat} {pre Gs : List Heap} {R : TT→List Heap→Prop}
theorem V.lz (k : V P rnd Q K .normal t1 m H1) (h : Xe.din P is t H=some (t1,H1):=by simp +contextual (disch:=first|omega|simp only[Go.Xe.nx];omega) only[Go.Xe.D4,Int.reduceNegSucc,Int.reduceEq,Nat.reduceLeDiff,Nat.reduceSub,Nat.reduceAdd,Go.Xe.D5,hF,hA,↓reduceIte,Nat.reduceEqDiff,Nat.reduceLT,zf];with_reducible rfl) : V P rnd Q (.seq (.run is)::K) .normal t m H:=V.line' h k
theorem V.l0 (k : V P rnd Q K .normal t1 m H1) (h : Xe.din P is t H=some (t1,H1):=by simp +contextual (disch:=first|omega|simp only[Go.Xe.nx];omega) only[Go.Xe.D4,Int.reduceNegSucc,Int.reduceEq,Nat.reduceLeDiff,Nat.reduceSub,Nat.reduceAdd,Go.Xe.D5,hF,hA,↓reduceIte,Nat.reduceEqDiff,Nat.reduceLT];with_reducible rfl) : V P rnd Q (.seq (.run is)::K) .normal t m H:=V.line' h k
theorem VI.lz (k : V P rnd Q K .normal t1 m H1) (h : Xe.din P is t H=some (t1,H1):=by simp +contextual (disch:=first|omega|simp only[Go.Xe.nx];omega) only[Go.Xe.D4,Int.reduceNegSucc,Int.reduceEq,Nat.reduceLeDiff,Nat.reduceSub,Nat.reduceAdd,Go.Xe.D5,hF,hA,↓reduceIte,Nat.reduceEqDiff,Nat.reduceLT,zf];with_reducible rfl) : VI P rnd Q K m is t H:=VI.line' h k
theorem VI.l0 (k : V P rnd Q K .normal t1 m H1) (h : Xe.din P is t H=some (t1,H1):=by simp +contextual (disch:=first|omega|simp only[Go.Xe.nx];omega) only[Go.Xe.D4,Int.reduceNegSucc,Int.reduceEq,Nat.reduceLeDiff,Nat.reduceSub,Nat.reduceAdd,Go.Xe.D5,hF,hA,↓reduceIte,Nat.reduceEqDiff,Nat.reduceLT];with_reducible rfl) : VI P rnd Q K m is t H:=VI.line' h k
theorem VI.sz (n : Nat) (k : VI P rnd Q K m (is.drop n) t1 H1) (h : Xe.din P (is.take n) t H=some (t1,H1):=by simp +contextual (disch:=first|omega|simp only[Go.Xe.nx];omega) only[Go.Xe.D4,Int.reduceNegSucc,Int.reduceEq,Nat.reduceLeDiff,Nat.reduceSub,Nat.reduceAdd,Go.Xe.D5,hF,hA,↓reduceIte,Nat.reduceEqDiff,Nat.reduceLT,zf];with_reducible rfl) : VI P rnd Q K m is t H:=VI.steps' n h k
theorem VI.s0 (n : Nat) (k : VI P rnd Q K m (is.drop n) t1 H1) (h : Xe.din P (is.take n) t H=some (t1,H1):=by simp +contextual (disch:=first|omega|simp only[Go.Xe.nx];omega) only[Go.Xe.D4,Int.reduceNegSucc,Int.reduceEq,Nat.reduceLeDiff,Nat.reduceSub,Nat.reduceAdd,Go.Xe.D5,hF,hA,↓reduceIte,Nat.reduceEqDiff,Nat.reduceLT];with_reducible rfl) : VI P rnd Q K m is t H:=VI.steps' n h k
theorem V.dz (h1 : monoG (Gs++[H1])) (h2 : dcAll P t1 (Gs++[H1]) cs) (h3 : (Gs++[H1])[n]?=some H1) (k : V P rnd Q K .normal t1 m H1) (h : dinA P is t H []=some (t1,Gs,H1):=by simp +contextual (disch:=first|omega|simp only[Go.Xe.nx];omega) only[Go.Xe.D4,Int.reduceNegSucc,Int.reduceEq,Nat.reduceLeDiff,Nat.reduceSub,Nat.reduceAdd,Go.Xe.D5,hF,hA,↓reduceIte,Nat.reduceEqDiff,Nat.reduceLT,zf];with_reducible rfl) : V P rnd Q (.seq (.draw n is cs)::K) .normal t m H:=V.lineD' h h1 h2 h3 k
theorem V.d0 (h1 : monoG (Gs++[H1])) (h2 : dcAll P t1 (Gs++[H1]) cs) (h3 : (Gs++[H1])[n]?=some H1) (k : V P rnd Q K .normal t1 m H1) (h : dinA P is t H []=some (t1,Gs,H1):=by simp +contextual (disch:=first|omega|simp only[Go.Xe.nx];omega) only[Go.Xe.D4,Int.reduceNegSucc,Int.reduceEq,Nat.reduceLeDiff,Nat.reduceSub,Nat.reduceAdd,Go.Xe.D5,hF,hA,↓reduceIte,Nat.reduceEqDiff,Nat.reduceLT];with_reducible rfl) : V P rnd Q (.seq (.draw n is cs)::K) .normal t m H:=V.lineD' h h1 h2 h3 k
theorem VD.dz (h1 : monoG (Gs++[H1])) (h2 : dcAll P t1 (Gs++[H1]) cs) (h3 : (Gs++[H1])[n]?=some H1) (k : V P rnd Q K .normal t1 m H1) (h : dinA P is t H pre=some (t1,Gs,H1):=by simp +contextual (disch:=first|omega|simp only[Go.Xe.nx];omega) only[Go.Xe.D4,Int.reduceNegSucc,Int.reduceEq,Nat.reduceLeDiff,Nat.reduceSub,Nat.reduceAdd,Go.Xe.D5,hF,hA,↓reduceIte,Nat.reduceEqDiff,Nat.reduceLT,zf];with_reducible rfl) : VD P is t H pre (DEnd P rnd Q K m n cs):=VD.lineD' h h1 h2 h3 k
theorem VD.d0 (h1 : monoG (Gs++[H1])) (h2 : dcAll P t1 (Gs++[H1]) cs) (h3 : (Gs++[H1])[n]?=some H1) (k : V P rnd Q K .normal t1 m H1) (h : dinA P is t H pre=some (t1,Gs,H1):=by simp +contextual (disch:=first|omega|simp only[Go.Xe.nx];omega) only[Go.Xe.D4,Int.reduceNegSucc,Int.reduceEq,Nat.reduceLeDiff,Nat.reduceSub,Nat.reduceAdd,Go.Xe.D5,hF,hA,↓reduceIte,Nat.reduceEqDiff,Nat.reduceLT];with_reducible rfl) : VD P is t H pre (DEnd P rnd Q K m n cs):=VD.lineD' h h1 h2 h3 k
end
section
variable {P : Program} [Gl P] [Orc P] {is : List FI} {t T : TT} {H H1 : Heap} {pre Gs : List Heap} {R : TT→List Heap→Prop}
theorem VD.nz (n : Nat) (k : VD P (is.drop n) T H1 Gs R) (h : dinA P (is.take n) t H pre=some (T,Gs,H1):=by simp +contextual (disch:=first|omega|simp only[Go.Xe.nx];omega) only[Go.Xe.D4,Int.reduceNegSucc,Int.reduceEq,Nat.reduceLeDiff,Nat.reduceSub,Nat.reduceAdd,Go.Xe.D5,hF,hA,↓reduceIte,Nat.reduceEqDiff,Nat.reduceLT,zf];with_reducible rfl) : VD P is t H pre R:=VD.dins n h k
theorem VD.n0 (n : Nat) (k : VD P (is.drop n) T H1 Gs R) (h : dinA P (is.take n) t H pre=some (T,Gs,H1):=by simp +contextual (disch:=first|omega|simp only[Go.Xe.nx];omega) only[Go.Xe.D4,Int.reduceNegSucc,Int.reduceEq,Nat.reduceLeDiff,Nat.reduceSub,Nat.reduceAdd,Go.Xe.D5,hF,hA,↓reduceIte,Nat.reduceEqDiff,Nat.reduceLT];with_reducible rfl) : VD P is t H pre R:=VD.dins n h k
end
section
variable {p q : Prop}
theorem zS (k : q) (h : q→p:=by intro h;(repeat first|apply Go.Xe.V.seq|apply Go.Xe.V.block|apply Go.Xe.V.scope|apply Go.Xe.V.skip|apply Go.Xe.V.close);exact h) : p:=h k
theorem zX (k : q) (h : q→p:=by intro h;(repeat first|apply Go.Xe.V.pass|apply Go.Xe.V.here|(apply Go.Xe.V.out;decide));exact h) : p:=h k
theorem zA (h : p:=by simp only[Go.Xe.D6,Go.Xe.D5,hF,hA,↓reduceIte,Nat.reduceEqDiff,Nat.reduceLT];try rfl) : p:=h
theorem zP (h : p:=by simp only[Go.Xe.D6,Go.Xe.D5,hF,hA,↓reduceIte,Nat.reduceEqDiff,Nat.reduceLT];rfl) : p:=h
theorem zG (h : p:=by simp only[Go.Xe.D5,hF,hA,↓reduceIte,Nat.reduceEqDiff,Nat.reduceLT];try rfl) : p:=h
theorem zI (h : p:=by simp only[Go.Xe.D6,Go.Xe.D5,hF,hA,↓reduceIte,Nat.reduceEqDiff,Nat.reduceLT,hc,and_self,and_true,true_and,not_false_eq_true];try rfl) : p:=h
theorem zF {N : Nat} {t : TT} (h : Full N t:=by intro;simp only[Go.Xe.full_st,hF]) : Full N t:=h
theorem zK {l : List (Nat×Value)} {t : TT} (h : Kn l t:=by simp only[Go.Xe.Kn,Go.Xe.D5,hF,hA,↓reduceIte,Nat.reduceEqDiff,Nat.reduceLT,and_self,and_true,true_and];try (repeat' constructor)) : Kn l t:=h
theorem zE {N : Nat} {t : TT} (h : Full N t:=by intro i;simp only[Go.Xe.full_st,Go.Xe.Full.mk]) : Full N t:=h
theorem zY {l : List (Nat×Value)} {t : TT} (h : Kn l t:=by simp only[Go.Xe.Kn,Go.Xe.gt_st,Go.Xe.full_st,Go.Xe.Full.mk,↓reduceIte,Nat.reduceEqDiff,Nat.reduceLT,decide_true,and_self]) : Kn l t:=h
theorem zW (h : p:=by (repeat first|assumption|exact Go.Xe.Grow.refl _|refine Go.Xe.Grow.alloc ?_ _|refine Go.Xe.Grow.set ?_ (by first|omega|simp only[Go.Xe.nx];omega) _)) : p:=h
theorem zB (h : p:=by (repeat first|assumption|exact Go.Xe.Bx.new _ _ _|exact Go.Xe.Bx.newAt (by first|omega|simp only[Go.Xe.nx];omega)|refine Go.Xe.Bx.put (by first|omega|simp only[Go.Xe.nx];omega) _ _|refine Go.Xe.Bx.alloc ?_ _|refine Go.Xe.Bx.set ?_ (by first|omega|simp only[Go.Xe.nx];omega) _)) : p:=h
theorem zM (h : p:=by simp only[Go.Xe.monoG,List.cons_append,List.nil_append,Go.Xe.Heap.next_set,Go.Xe.Heap.next_alloc,Nat.le_refl,true_and,and_true]<;>omega) : p:=h
theorem zR (h : p:=by
 intro _ q hq
 simp only[List.mem_cons,List.not_mem_nil,or_false] at hq
 (repeat (rcases hq with rfl|hq;exact⟨_,_,_,rfl,(by simp +contextual (disch:=first|omega|simp only[Go.Xe.nx];omega) only[Go.Xe.D4,Int.reduceNegSucc,Int.reduceEq,Nat.reduceLeDiff,Nat.reduceSub,Nat.reduceAdd,Go.Xe.D5,hF,hA,↓reduceIte,Nat.reduceEqDiff,Nat.reduceLT,zf];with_reducible rfl),fun p hp=>by cases hp;simp only[Go.Xe.D5,hF,hA,↓reduceIte,Nat.reduceEqDiff,Nat.reduceLT];first|exact Go.Xe.vEq_An|(simp[Go.Xe.vEq,Go.Xe.vEq0,Go.Xe.all2];done)|assumption⟩))
 (try (subst hq;exact⟨_,_,_,rfl,(by simp +contextual (disch:=first|omega|simp only[Go.Xe.nx];omega) only[Go.Xe.D4,Int.reduceNegSucc,Int.reduceEq,Nat.reduceLeDiff,Nat.reduceSub,Nat.reduceAdd,Go.Xe.D5,hF,hA,↓reduceIte,Nat.reduceEqDiff,Nat.reduceLT,zf];with_reducible rfl),fun p hp=>by cases hp;simp only[Go.Xe.D5,hF,hA,↓reduceIte,Nat.reduceEqDiff,Nat.reduceLT];first|exact Go.Xe.vEq_An|(simp[Go.Xe.vEq,Go.Xe.vEq0,Go.Xe.all2];done)|assumption⟩))) : p:=h
end
end Go.Xe
/- An executable reading of the model's code over an abstract heap (part 35): a closed call run in pieces: what lies between two of them is written out, and of the memory only what is named. Conditions: as part 33's. -/
namespace Go.Xe
open Go
def pd : Nat→HT
 | 0=>.e
 | d+1=>.n .dead (pd d) (pd d)
theorem getH_pd : ∀ (d j : Nat),getH (pd d) j=.dead
 | 0,j=>rfl
 | d+1,0=>rfl
 | d+1,j+1=>by
  have e : getH (pd (d+1)) (j+1)=Bool.rec (motive:=fun _=>FO) (getH (pd d) (Nat.div j 2)) (getH (pd d) (Nat.div j 2)) (Nat.beq (Nat.mod j 2) 0):=rfl
  rw[e,getH_pd d]
  cases Nat.beq (Nat.mod j 2) 0<;>rfl
noncomputable def startL (ids : List Nat) : HT→HT→(HT→RF)→RF:=
 List.rec (motive:=fun _=>HT→HT→(HT→RF)→RF) (fun _ T k=>k T) (fun i _ ih E T k=>HT.rec (motive:=fun _=>RF) (.fail 120) (fun o _ r _ _=>setH o T i fun T'=>ih r T' k) E) ids
noncomputable def fetch (H : FH) (ids : List Nat) : HT:=List.rec (motive:=fun _=>HT) .e (fun i _ ih=>.n (objF H i) .e ih) ids
noncomputable def outR (ids : List Nat) (t : TT) (m : List Nat) (H : FH) : RF:=.nx t m (.mk (nextF H) (fetch H ids))
noncomputable def contR (r : RF) (k : TT→List Nat→FH→RF) : RF:=RF.rec (motive:=fun _=>RF) (fun n=>.fail n) (fun t m H=>k t m H) (fun _ _ _ _=>.fail 121) (fun _ _ _=>.fail 122) r
noncomputable def segF (P : Program) (F : Nat→FFunc) (n : Nat) : List FCode→TT→List Nat→FH→(TT→List Nat→FH→RF)→RF
 | [],t,m,H,k=>k t m H
 | x::r,t,m,H,k=>contR (execF P F (n+r.length) x none m t H) fun t m H=>segF P F n r t m H k
section
variable {P : Program} [Gl P]
def Objs (cp : Code→FCode) (Hs : Heap) : List Nat→HT→Prop
 | [],_=>True
 | i::is,.n o _ r=>FOR cp o (Hs.get i)∧Objs cp Hs is r
 | _::_,.e=>False
def StOk (cp : Code→FCode) (t : TT) (ids : List Nat) (E : HT) (nx : Nat) (tm : Array Value) (Hs : Heap) : Prop:=TR t tm∧nx=Hs.next∧Objs cp Hs ids E
theorem startL_ok {cp : Code→FCode} {Hs : Heap} : ∀ {ids : List Nat} {E T : HT} {k : HT→RF},Good (startL ids E T k)→(∀ j,FOR cp (getH T j) (Hs.get j))→Objs cp Hs ids E →
  ∃ T',startL ids E T k=k T'∧∀ j,FOR cp (getH T' j) (Hs.get j)
 | [],E,T,k,_,hT,_=>⟨T,rfl,hT⟩
 | i::is,.e,T,k,h,_,_=>not_good (n:=120) h
 | i::is,.n o l r,T,k,h,hT,hO=>by
  have h' : Good (setH o T i fun T'=>startL is r T' k):=h
  obtain⟨T1,h1,h2⟩:=setH_good h'
  rw[h2] at h'
  obtain⟨T2,h3,h4⟩:=startL_ok (ids:=is) h' (fun j=>by
   rw[h1]
   by_cases e : j=i
   ·rw[if_pos e,e];exact hO.1
   ·rw[if_neg e];exact hT j) hO.2
  exact⟨T2,(show startL (i::is) (.n o l r) T k=_ from h2.trans h3),h4⟩
theorem fetch_ok {cp : Code→FCode} {H : FH} {Hs : Heap} (hr : HR cp H Hs) : ∀ {ids : List Nat} {E : HT},fetch H ids=E→Objs cp Hs ids E
 | [],_,_=>trivial
 | i::is,E,h=>by
  subst h
  exact⟨hr.obj i,fetch_ok hr (ids:=is) rfl⟩
variable [Orc P]
def SegOk (P : Program) [Gl P] [Orc P] (n : Nat) : List Code→AS→AS→Prop
 | [],a,a'=>a=a'
 | c::r,a,a'=>∃ a1,exec P (n+r.length) none c a=some (.normal,a1)∧SegOk P n r a1 a'
def seqs : List Code→Code→Code
 | [],c=>c
 | x::l,c=>.seq x (seqs l c)
theorem exec_seqs {n : Nat} {c : Code} : ∀ {l : List Code} {a a' : AS},SegOk P n l a a'→exec P (n+l.length) none (seqs l c) a=exec P n none c a'
 | [],a,a',h=>by cases h;rfl
 | x::l,a,a',h=>by
  obtain⟨a1,h1,h2⟩:=h
  have h3:=exec_seqs (c:=c) h2
  rw[List.length_cons,← Nat.add_assoc]
  simp only[seqs,exec,h1]
  exact h3
theorem segF_ok {F : Nat→FFunc} (hF : FnOk P F) {n : Nat} : ∀ {l : List Code} {t : TT} {m : List Nat} {H : FH} {tm : Array Value} {Hs : Heap} {k : TT→List Nat→FH→RF},
  TR t tm→HR (comp P) H Hs→Good (segF P F n (l.map (comp P)) t m H k)→∃ t' m' H' tm' Hs',SegOk P n l ⟨tm,m,Hs⟩ ⟨tm',m',Hs'⟩∧TR t' tm'∧HR (comp P) H' Hs'∧segF P F n (l.map (comp P)) t m H k=k t' m' H'
 | [],t,m,H,tm,Hs,k,ht,hr,_=>⟨t,m,H,tm,Hs,rfl,ht,hr,rfl⟩
 | c::l,t,m,H,tm,Hs,k,ht,hr,h=>by
  have e0 : segF P F n ((c::l).map (comp P)) t m H k=contR (execF P F (n+l.length) (comp P c) none m t H) fun t m H=>segF P F n (l.map (comp P)) t m H k:=by
   simp only[List.map_cons,segF,List.length_map]
  rw[e0] at h ⊢
  have hg : Good (execF P F (n+l.length) (comp P c) none m t H):=by
   intro q hq
   rw[hq] at h
   exact not_good (n:=q) h
  obtain⟨e,a,e1,e2⟩:=execF_ok hF (n+l.length) c none m t H tm Hs ht hr hg
  cases hx : execF P F (n+l.length) (comp P c) none m t H with
  | fail q=>exact absurd hx (hg q)
  | ex id t' m' H'=>rw[hx] at h;exact not_good (n:=121) h
  | rt t' m' H'=>rw[hx] at h;exact not_good (n:=122) h
  | nx t' m' H'=>
   rw[hx] at h e2
   cases e with
   | ret=>exact e2.elim
   | exit id=>exact e2.elim
   | normal=>
    obtain⟨f1,f2,f3⟩:=e2
    obtain⟨tm1,m1,Hs1⟩:=a
    cases f3
    obtain⟨t2,m2,H2,tm2,Hs2,g1,g2,g3,g4⟩:=segF_ok hF (l:=l) f1 f2 h
    exact⟨t2,m2,H2,tm2,Hs2,⟨_,e1,g1⟩,g2,g3,g4⟩
theorem seg_ok {F : Nat→FFunc} (hF : FnOk P F) {n nx nx2 d : Nat} {l : List Code} {xs : List FCode} (hl : l.map (comp P)=xs) {t t2 : TT} {ids ids2 : List Nat} {E E2 : HT}
  (h : startL ids E (pd d) (fun T=>segF P F n xs t [] (.mk nx T) (outR ids2))=.nx t2 [] (.mk nx2 E2)) {tm : Array Value} {Hs : Heap} (hs : StOk (comp P) t ids E nx tm Hs) :
  ∃ tm' Hs',SegOk P n l ⟨tm,[],Hs⟩ ⟨tm',[],Hs'⟩∧StOk (comp P) t2 ids2 E2 nx2 tm' Hs':=by
 subst hl
 obtain⟨h1,h2,h3⟩:=hs
 have hg : Good (startL ids E (pd d) (fun T=>segF P F n (l.map (comp P)) t [] (.mk nx T) (outR ids2))):=by
  intro q hq;rw[h] at hq;cases hq
 obtain⟨T,e1,e2⟩:=startL_ok hg (cp:=comp P) (Hs:=Hs) (fun j=>by rw[getH_pd];trivial) h3
 rw[e1] at h hg
 obtain⟨t',m',H',tm',Hs',g1,g2,g3,g4⟩:=segF_ok hF (l:=l) h1 (show HR (comp P) (.mk nx T) Hs from ⟨h2,e2⟩) hg
 rw[g4] at h
 have h' : RF.nx t' m' (.mk (nextF H') (fetch H' ids2))=.nx t2 [] (.mk nx2 E2):=h
 simp only[RF.nx.injEq,FH.mk.injEq] at h'
 obtain⟨rfl,rfl,k3,k4⟩:=h'
 refine⟨tm',Hs',g1,g2,?_,fetch_ok g3 k4⟩
 cases H' with
 | mk a b=>exact k3.symm.trans g3.1
theorem last_ok {F : Nat→FFunc} (hF : FnOk P F) {n nx d : Nat} {c : Code} {x : FCode} (hl : comp P c=x) {t : TT} {ids : List Nat} {E : HT} {fn : Func} (hok : ∀ r∈fn.results.toList,resOk P r=true) {res : List FRes} (hres : fn.results.toList.map (compR P)=res)
  (h : startL ids E (pd d) (fun T=>afterF (execF P F n x none [] t (.mk nx T)) res endT)=.rt .e [] (.mk 0 .e)) {tm : Array Value} {Hs : Heap} (hs : StOk (comp P) t ids E nx tm Hs) :
  ∃ e a H1,exec P n none c ⟨tm,[],Hs⟩=some (e,a)∧(∀ id,e≠.exit id)∧xunmark a.marks a.heap=some H1∧xresults P H1 fn a.tmps=some (.bool true):=by
 subst hl
 subst hres
 obtain⟨h1,h2,h3⟩:=hs
 have hg : Good (startL ids E (pd d) (fun T=>afterF (execF P F n (comp P c) none [] t (.mk nx T)) (fn.results.toList.map (compR P)) endT)):=by
  intro q hq;rw[h] at hq;cases hq
 obtain⟨T,e1,e2⟩:=startL_ok hg (cp:=comp P) (Hs:=Hs) (fun j=>by rw[getH_pd];trivial) h3
 rw[e1] at h hg
 have hg2 : Good (execF P F n (comp P c) none [] t (.mk nx T)):=by
  intro q hq
  rw[hq] at hg
  exact not_good (n:=q) hg
 obtain⟨e,a,f1,f2⟩:=execF_ok hF n c none [] t (.mk nx T) tm Hs h1 (show HR (comp P) (.mk nx T) Hs from ⟨h2,e2⟩) hg2
 have fin : ∀ t' m' H',TR t' a.tmps→HR (comp P) H' a.heap→a.marks=m'→endF (fn.results.toList.map (compR P)) t' m' H' endT=.rt .e [] (.mk 0 .e) →
   ∃ H1,xunmark a.marks a.heap=some H1∧xresults P H1 fn a.tmps=some (.bool true):=by
  intro t' m' H' k1 k2 k3 k4
  have hg3 : Good (endF (fn.results.toList.map (compR P)) t' m' H' endT):=by
   intro q hq;rw[k4] at hq;cases hq
  obtain⟨v,H1,Hs1,g1,g2,g3,g4⟩:=endF_ok hok k1 (m:=m') k2 hg3
  rw[g4] at k4 hg3
  have hv : v=.bool true:=by
   unfold endT at k4 hg3
   rcases asBool_good hg3 with⟨a,b⟩|⟨a,b⟩|⟨_,_,b⟩
   ·exact a
   ·rw[b] at k4;cases k4
   ·rw[b] at k4;cases k4
  subst hv
  exact⟨Hs1,by rw[k3];exact g1,g2⟩
 cases hxr : execF P F n (comp P c) none [] t (.mk nx T) with
 | fail q=>exact absurd hxr (hg2 q)
 | ex id t' m' H'=>rw[hxr] at hg;exact not_good (n:=71) hg
 | nx t' m' H'=>
  rw[hxr] at h f2
  cases e with
  | ret=>exact f2.elim
  | exit id=>exact f2.elim
  | normal=>
   obtain⟨q1,q2,q3⟩:=f2
   obtain⟨H1,k1,k2⟩:=fin t' m' H' q1 q2 q3 h
   exact⟨_,a,H1,f1,(by intro id h;cases h),k1,k2⟩
 | rt t' m' H'=>
  rw[hxr] at h f2
  cases e with
  | normal=>exact f2.elim
  | exit id=>exact f2.elim
  | ret=>
   obtain⟨q1,q2,q3⟩:=f2
   obtain⟨H1,k1,k2⟩:=fin t' m' H' q1 q2 q3 h
   exact⟨_,a,H1,f1,(by intro id h;cases h),k1,k2⟩
end
theorem closed_x {P : Program} [Gl P] (O : Orc P) (hmix : P.follows .mixedOrders=true) {Hs0 Hs' : Heap}
  (hst : ∀ w : World,O.base≤w.heap.size→O.I w→∃ θ,Rel P θ Hs0 w∧At P θ w∧∀ i p,θ i=some p→p.rw=false) {N f : Nat} (h : xcall P (exec P N) f #[] Hs0=some (.bool true,Hs'))
  (hfn : ∃ fn, P.funcs[f]? = some fn ∧ fn.body.isSome = true ∧ (fn.name == "runtime.NumGoroutine") = false) :
  (∀ (w : World) (r : Option Nat) (n : Nat), O.base ≤ w.heap.size → O.I w → CallsIn (FW r) n P f #[] w (Quiet (.bool true) w)) ∧ ∃ fn, P.funcs[f]? = some fn ∧ fn.body.isSome = true ∧ (fn.name == "runtime.NumGoroutine") = false := by
 refine⟨fun w r n hb hI=>?_,hfn⟩
 obtain⟨θ,hrel,hat,hno⟩:=hst w hb hI
 refine ((xcall_ok (exec_ok hmix N) h hrel hat (args':=#[]) AR.nil r n).1).mono ?_
 rintro e w' ⟨v',θ',k1,k2,k3,k4⟩
 cases k4
 exact⟨k1,k2.size,fun b hb=>k2.frame b hb (fun i p hp hrw=>by rw[hno i p hp] at hrw;cases hrw),k2.os,k2.tape,k2.output⟩
theorem start_x {P : Program} (O : Orc P) (hb : O.base=0) : ∀ w : World,O.base≤w.heap.size→O.I w→∃ θ,Rel P θ Heap.empty w∧@At P (Gl.none P) O θ w∧∀ i p,θ i=some p→p.rw=false:=by
 letI:=Gl.none P
 exact fun w _ hI=>⟨fun _=>none,⟨(fun i o hi=>by simp[Heap.get,Heap.empty,Tr.get] at hi),(fun i p hp=>by cases hp),⟨_,.ro (fun i p hp=>by cases hp) (fun i c el k hi=>by simp[Heap.get,Heap.empty,Tr.get] at hi)⟩⟩,⟨by rw[hb];exact Nat.zero_le _,hI,fun i p hp=>(by cases hp),fun g hg=>(by cases hg)⟩,fun i p hp=>by cases hp⟩
def stake : Nat→Code→List Code
 | n+1,.seq a b=>a::stake n b
 | _,_=>[]
def sdrop : Nat→Code→Code
 | n+1,.seq _ b=>sdrop n b
 | _,c=>c
def fstake : Nat→FCode→List FCode
 | n+1,.seq a b=>a::fstake n b
 | _,_=>[]
def fsdrop : Nat→FCode→FCode
 | n+1,.seq _ b=>fsdrop n b
 | _,c=>c
theorem seqs_stake : ∀ (n : Nat) (c : Code),seqs (stake n c) (sdrop n c)=c
 | 0,c=>by simp[stake,sdrop,seqs]
 | n+1,c=>by
  cases c with
  | seq a b=>simp only[stake,sdrop,seqs,seqs_stake n b]
  | _=>simp[stake,sdrop,seqs]
end Go.Xe
/- An executable reading of the model's code over an abstract heap (part 36): the pieces of a closed call, put together. Conditions: as part 33's. -/
namespace Go.Xe
open Go
theorem sdrop_add : ∀ (n m : Nat) (c : Code),sdrop m (sdrop n c)=sdrop (n+m) c
 | 0,m,c=>by simp[sdrop]
 | n+1,m,c=>by
  cases c with
  | seq a b=>rw[show n+1+m=(n+m)+1 by omega];simp only[sdrop];exact sdrop_add n m b
  | _=>
   rw[show n+1+m=(n+m)+1 by omega]
   simp only[sdrop]
section
variable {P : Program} [Gl P]
theorem comp_drop : ∀ (n : Nat) (c : Code),comp P (sdrop n c)=fsdrop n (comp P c)
 | 0,c=>by simp[sdrop,fsdrop]
 | n+1,c=>by
  cases c with
  | seq a b=>simp only[sdrop,comp,fsdrop];exact comp_drop n b
  | region i ops d=>cases d<;>simp only[sdrop,comp,fsdrop]<;>split<;>simp[fsdrop]
  | _=>simp[sdrop,comp,fsdrop]
theorem comp_take : ∀ (n : Nat) (c : Code),(stake n c).map (comp P)=fstake n (comp P c)
 | 0,c=>by simp[stake,fstake]
 | n+1,c=>by
  cases c with
  | seq a b=>simp only[stake,comp,fstake,List.map_cons,comp_take n b]
  | region i ops d=>cases d<;>simp only[stake,comp,fstake,List.map_nil]<;>split<;>simp[fstake]
  | _=>simp[stake,comp,fstake]
theorem of_entry {fn : Func} {c : Code} {k : Nat} {x : FCode} {tp : TT} {as : List Pth} {rs : List FRes} (h2 : fn.body=some c) (h : compF P fn k=.mk x tp as rs) : comp P c=x∧fn.results.toList.map (compR P)=rs:=by
 unfold compF at h
 rw[h2] at h
 simp only[FFunc.mk.injEq] at h
 exact⟨h.1,h.2.2.2⟩
theorem stOk_start {n : Nat} : StOk (comp P) (mkTT n) [] .e 0 (Array.replicate n undef) Heap.empty:=⟨mkTT_TR n,rfl,trivial⟩
variable [Orc P]
theorem piece {F : Nat→FFunc} (hF : FnOk P F) {c : Code} {x : FCode} (hc : comp P c=x) (o len n : Nat) {nx nx2 d : Nat} (hlen : (fstake len (fsdrop o x)).length=len) {t t2 : TT} {ids ids2 : List Nat} {E E2 : HT}
  (h : startL ids E (pd d) (fun T=>segF P F n (fstake len (fsdrop o x)) t [] (.mk nx T) (outR ids2))=.nx t2 [] (.mk nx2 E2)) {tm : Array Value} {Hs : Heap} (hs : StOk (comp P) t ids E nx tm Hs) :
  ∃ tm' Hs',exec P (n+len) none (sdrop o c) ⟨tm,[],Hs⟩=exec P n none (sdrop (o+len) c) ⟨tm',[],Hs'⟩∧StOk (comp P) t2 ids2 E2 nx2 tm' Hs':=by
 subst hc
 have hl : (stake len (sdrop o c)).map (comp P)=fstake len (fsdrop o (comp P c)):=by rw[comp_take,comp_drop]
 obtain⟨tm',Hs',h1,h2⟩:=seg_ok hF hl h hs
 refine⟨tm',Hs',?_,h2⟩
 have hk : (stake len (sdrop o c)).length=len:=by
  have e:=congrArg List.length hl
  rw[List.length_map,hlen] at e
  exact e
 have:=exec_seqs (c:=sdrop len (sdrop o c)) h1
 rw[seqs_stake,hk,sdrop_add] at this
 exact this
theorem piece_last {F : Nat→FFunc} (hF : FnOk P F) {c : Code} {x : FCode} (hc : comp P c=x) (o n : Nat) {nx d : Nat} {t : TT} {ids : List Nat} {E : HT} {fn : Func} (hok : okF P fn=true) {res : List FRes} (hres : fn.results.toList.map (compR P)=res)
  (h : startL ids E (pd d) (fun T=>afterF (execF P F n (fsdrop o x) none [] t (.mk nx T)) res endT)=.rt .e [] (.mk 0 .e)) {tm : Array Value} {Hs : Heap} (hs : StOk (comp P) t ids E nx tm Hs) :
  ∃ e a H1,exec P n none (sdrop o c) ⟨tm,[],Hs⟩=some (e,a)∧(∀ id,e≠.exit id)∧xunmark a.marks a.heap=some H1∧xresults P H1 fn a.tmps=some (.bool true):=by
 subst hc
 have hok' : ∀ r∈fn.results.toList,resOk P r=true:=by
  unfold okF at hok
  simp only[Bool.and_eq_true,List.all_eq_true] at hok
  exact hok.2
 exact last_ok hF (comp_drop o c) hok' hres h hs
theorem xcall_of {f N : Nat} {fn : Func} {c : Code} {Hs H1 : Heap} {e : XE} {a : AS} {v : Value} (h0 : Orc.O P f=none) (h1 : P.funcs[f]?=some fn) (h2 : fn.body=some c) (h3 : okF P fn=true)
  (hx : exec P N none c ⟨Array.replicate fn.ntmps undef,[],Hs⟩=some (e,a)) (hne : ∀ id,e≠.exit id) (hu : xunmark a.marks a.heap=some H1) (hv : xresults P H1 fn a.tmps=some v) :
  xcall P (exec P N) f #[] Hs = some (v, H1) ∧ ∃ fn, P.funcs[f]? = some fn ∧ fn.body.isSome = true ∧ (fn.name == "runtime.NumGoroutine") = false := by
 have hn : (fn.name == "runtime.NumGoroutine") = false := by
  unfold okF at h3
  simp only[Bool.and_eq_true,Bool.not_eq_true'] at h3
  exact h3.1
 refine⟨?_,fn,h1,by rw[h2];rfl,hn⟩
 unfold xcall
 simp only[h0,h1,h2,hn,if_true]
 have e5 : (#[] : Array Value)++Array.replicate (fn.ntmps-(#[] : Array Value).size) undef=Array.replicate fn.ntmps undef:=by simp
 rw[e5,hx]
 cases e with
 | exit id=>exact absurd rfl (hne id)
 | normal=>simp only[hu,hv]
 | ret=>simp only[hu,hv]
end
end Go.Xe
/- An executable reading of the model's code over an abstract heap (part 37): closed calls where one table among the package-level variables is known. Conditions: as part 33's; the table lies where the variable lies. -/
namespace Go.Xe
open Go
def TabAt (g : Nat) (tab : List Value) (w : World) : Prop:=∃ c el fz,w.heap[g]?=some (.cells c el fz)∧∀ (k : Nat) (v : Value),tab[k]?=some v→c[k]?=some v
theorem TabAt.keep {g : Nat} {tab : List Value} {w w' : World} (hb : ∀ b,b<g+1→w'.heap[b]?=w.heap[b]?) (h : TabAt g tab w) : TabAt g tab w':=by
 obtain⟨c,el,fz,h1,h2⟩:=h
 exact⟨c,el,fz,(hb g (Nat.lt_succ_self g)).trans h1,h2⟩
end Go.Xe
