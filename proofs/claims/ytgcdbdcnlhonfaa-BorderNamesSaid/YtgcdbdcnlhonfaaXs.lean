/- An executable reading of the model's code over an abstract heap (part 19): what the parts of the machine for the kernel come to, when they do not fail. Conditions: none. -/
import Derived.Test.YtgcdbdcnlhonfaaXr
namespace Go.Xe
open Go
def Good (r : RF) : Prop:=∀ n,r≠.fail n
theorem not_good {n : Nat} {p : Prop} (h : Good (.fail n)) : p:=absurd rfl (h n)
theorem gN_eq (n : Nat) (k : Nat→RF) : gN n k=k n:=by cases n<;>rfl
theorem gI_eq (n : Int) (k : Int→RF) : gI n k=k n:=by
 cases n with
 | ofNat m=>exact gN_eq m fun m=>k (.ofNat m)
 | negSucc m=>exact gN_eq m fun m=>k (.negSucc m)
theorem ifB_t (x y : RF) : ifB true x y=x:=rfl
theorem ifB_f (x y : RF) : ifB false x y=y:=rfl
theorem ifB_good {b : Bool} {x : RF} {n : Nat} (h : Good (ifB b x (.fail n))) : b=true∧ifB b x (.fail n)=x:=by
 cases b
 ·exact not_good h
 ·exact⟨rfl,rfl⟩
theorem hV_eq (v : Value) (k : Value→RF) : hV v k=k v:=by cases v<;>rfl
theorem asPtr_good {v : Value} {k : Nat→Nat→RF} (h : Good (asPtr v k)) : ∃ i o,v=.pointer (some ⟨i,o,none⟩)∧asPtr v k=k i o:=by
 cases v with
 | pointer a=>
  cases a with
  | none=>exact not_good h
  | some a=>
   obtain⟨i,o,s⟩:=a
   cases s with
   | none=>exact⟨i,o,rfl,rfl⟩
   | some s=>exact not_good h
 | _=>exact not_good h
theorem asInt_good {v : Value} {k : IntKind→Int→RF} {d : RF} : (∃ kd n,v=.int kd n∧asInt v k d=k kd n)∨((∀ kd n,v≠.int kd n)∧asInt v k d=d):=by
 cases v with
 | int kd n=>exact .inl ⟨kd,n,rfl,rfl⟩
 | _=>exact .inr ⟨by intro _ _ h;(first|cases h),rfl⟩
theorem asNat_good {v : Value} {k : Nat→RF} (h : Good (asNat v k)) : ∃ (kd : IntKind) (n : Nat),v=.int kd (.ofNat n)∧asNat v k=k n:=by
 cases v with
 | int kd n=>
  cases n with
  | ofNat n=>exact⟨kd,n,rfl,rfl⟩
  | negSucc n=>exact not_good h
 | _=>exact not_good h
theorem asBool_good {v : Value} {a b c : RF} (h : Good (asBool v a b c)) : (v=.bool true∧asBool v a b c=a)∨(v=.bool false∧asBool v a b c=b)∨((∀ t,v≠.bool t)∧v≠.chan none∧asBool v a b c=c):=by
 cases v with
 | bool t=>
  cases t
  ·exact .inr (.inl ⟨rfl,rfl⟩)
  ·exact .inl ⟨rfl,rfl⟩
 | chan r=>exact not_good h
 | _=>exact .inr (.inr ⟨(by intro _ h;cases h),(by intro h;cases h),rfl⟩)
theorem asAgg_good {v : Value} {k : List Value→RF} (h : Good (asAgg v k)) : ∃ l,v=.agg ⟨l⟩∧asAgg v k=k l:=by
 cases v with
 | agg a=>exact⟨a.toList,rfl,rfl⟩
 | _=>exact not_good h
theorem asTuple_good {v : Value} {k : List Value→RF} (h : Good (asTuple v k)) : ∃ l,v=.tuple ⟨l⟩∧asTuple v k=k l:=by
 cases v with
 | tuple a=>exact⟨a.toList,rfl,rfl⟩
 | _=>exact not_good h
theorem asCells_good {v : Value} {k : List Value→RF} {d : RF} (h : Good (asCells v k d)) :
  notTop v=true∧((∃ l,v=.agg ⟨l⟩∧asCells v k d=k l)∨((∀ l,v≠.agg l)∧v.cells=#[v]∧asCells v k d=d)):=by
 cases v with
 | agg a=>exact⟨rfl,.inl ⟨a.toList,rfl,rfl⟩⟩
 | chan r=>exact not_good h
 | _=>exact⟨rfl,.inr ⟨(by intro _ h;cases h),rfl,rfl⟩⟩
theorem asSlice_good {v : Value} {k : Nat→Nat→Nat→Nat→RF} {e : Nat→Nat→Nat→Nat→Nat→RF} {z : Nat→Nat→RF} (h : Good (asSlice v k e z)) :
  (∃ i o n c,v=.slice (some ⟨i,o,none⟩) n c∧asSlice v k e z=k i o n c)∨(∃ i o s n c,v=.slice (some ⟨i,o,some s⟩) n c∧asSlice v k e z=e i o s n c)∨(∃ n c,v=.slice none n c∧asSlice v k e z=z n c):=by
 cases v with
 | slice a n c=>
  cases a with
  | none=>exact .inr (.inr ⟨n,c,rfl,rfl⟩)
  | some a=>
   obtain⟨i,o,s⟩:=a
   cases s with
   | none=>exact .inl ⟨i,o,n,c,rfl,rfl⟩
   | some s=>exact .inr (.inl ⟨i,o,s,n,c,rfl,rfl⟩)
 | _=>exact not_good h
theorem asMap_good {v : Value} {k : Nat→RF} {z : RF} (h : Good (asMap v k z)) : (∃ i,v=.map (some i)∧asMap v k z=k i)∨(v=.map none∧asMap v k z=z):=by
 cases v with
 | map r=>
  cases r with
  | none=>exact .inr ⟨rfl,rfl⟩
  | some i=>exact .inl ⟨i,rfl,rfl⟩
 | _=>exact not_good h
theorem asFunc_good {v : Value} {k : Nat→List Value→List Value→RF} {y : Nat→List Value→RF} (h : Good (asFunc v k y)) :
  (∃ f a b,v=.func (.func f) ⟨a⟩ ⟨b⟩∧asFunc v k y=k f a b)∨(∃ l a b,v=.func (.yield l) ⟨a⟩ b∧asFunc v k y=y l a):=by
 cases v with
 | func f a b=>
  cases f with
  | func f=>exact .inl ⟨f,a.toList,b.toList,rfl,rfl⟩
  | yield l=>exact .inr ⟨l,a.toList,b,rfl,rfl⟩
  | _=>exact not_good h
 | _=>exact not_good h
theorem asLen_good {v : Value} {k s : Nat→RF} {z : RF} {m : Nat→RF} (h : Good (asLen v k s z m)) :
  (∃ a n c,v=.slice a n c∧asLen v k s z m=k n)∨(∃ b,v=.string b∧asLen v k s z m=s b.size)∨(v=.map none∧asLen v k s z m=z)∨(∃ i,v=.map (some i)∧asLen v k s z m=m i):=by
 cases v with
 | slice a n c=>exact .inl ⟨a,n,c,rfl,rfl⟩
 | string s=>exact .inr (.inl ⟨s,rfl,gN_eq _ _⟩)
 | map r=>
  cases r with
  | none=>exact .inr (.inr (.inl ⟨rfl,rfl⟩))
  | some i=>exact .inr (.inr (.inr ⟨i,rfl,rfl⟩))
 | _=>exact not_good h
theorem nthL_good : ∀ {n : Nat} {l : List Value} {k : Value→RF},Good (nthL n l k)→∃ v,l[n]?=some v∧nthL n l k=k v
 | 0,[],_,h=>not_good h
 | 0,x::l,_,_=>⟨x,by simp,rfl⟩
 | n+1,[],_,h=>not_good h
 | n+1,x::l,k,h=>by
  obtain⟨v,h1,h2⟩:=nthL_good (n:=n) (l:=l) (k:=k) h
  exact⟨v,by simpa using h1,h2⟩
theorem setL_good {v : Value} : ∀ {n : Nat} {l : List Value} {k : List Value→RF},Good (setL v n l k)→n<l.length∧setL v n l k=k (l.set n v)
 | 0,[],_,h=>not_good h
 | 0,x::l,_,_=>⟨by simp,rfl⟩
 | n+1,[],_,h=>not_good h
 | n+1,x::l,k,h=>by
  obtain⟨h1,h2⟩:=setL_good (v:=v) (n:=n) (l:=l) (k:=fun r=>k (x::r)) h
  exact⟨by simpa using h1,h2⟩
theorem overL_good : ∀ {vs l : List Value} {k : List Value→RF},Good (overL vs l k)→vs.length≤l.length∧overL vs l k=k (vs++l.drop vs.length)
 | [],l,k,_=>⟨by simp,by simp;rfl⟩
 | v::vs,[],k,h=>not_good h
 | v::vs,x::l,k,h=>by
  obtain⟨h1,h2⟩:=overL_good (vs:=vs) (l:=l) (k:=fun r=>k (v::r)) h
  refine⟨by simpa using h1,?_⟩
  have e : overL (v::vs) (x::l) k=overL vs l fun r=>k (v::r):=rfl
  rw[e,h2];simp
theorem setCells_over : ∀ (vs l : List Value),vs.length≤l.length→setCells vs 0 ⟨l⟩=⟨vs++l.drop vs.length⟩
 | [],l,_=>by simp[setCells]
 | v::vs,[],h=>by simp at h
 | v::vs,x::l,h=>by
  have e1 : (⟨x::l⟩ : Array Value).setIfInBounds 0 v=⟨v::l⟩:=by apply Array.toList_inj.1;simp
  simp only[setCells,e1]
  rw[setCells_cons,setCells_over vs l (by simpa using h)]
  simp
theorem spliceL_good {vs : List Value} : ∀ {o : Nat} {l : List Value} {k : List Value→RF},Good (spliceL vs o l k)→∃ r,o+vs.length≤l.length∧setCells vs o ⟨l⟩=⟨r⟩∧spliceL vs o l k=k r
 | 0,l,k,h=>by
  obtain⟨h1,h2⟩:=overL_good (vs:=vs) (l:=l) (k:=k) h
  exact⟨_,by simpa using h1,setCells_over vs l h1,h2⟩
 | o+1,[],k,h=>not_good h
 | o+1,x::l,k,h=>by
  obtain⟨r,h1,h2,h3⟩:=spliceL_good (vs:=vs) (o:=o) (l:=l) (k:=fun r=>k (x::r)) h
  refine⟨x::r,by simp only[List.length_cons];omega,?_,h3⟩
  rw[setCells_cons,h2]
theorem takeL_good : ∀ {n : Nat} {l : List Value} {k : List Value→RF},Good (takeL n l k)→n≤l.length∧takeL n l k=k (l.take n)
 | 0,l,k,_=>⟨by simp,by simp;rfl⟩
 | n+1,[],k,h=>not_good h
 | n+1,x::l,k,h=>by
  obtain⟨h1,h2⟩:=takeL_good (n:=n) (l:=l) (k:=fun r=>k (x::r)) h
  refine⟨by simpa using h1,?_⟩
  have e : takeL (n+1) (x::l) k=takeL n l fun r=>k (x::r):=rfl
  rw[e,h2];simp
theorem subL_good {n : Nat} : ∀ {o : Nat} {l : List Value} {k : List Value→RF},Good (subL n o l k)→o+n≤l.length∧subL n o l k=k ((⟨l⟩ : Array Value).extract o (o+n)).toList
 | 0,l,k,h=>by
  obtain⟨h1,h2⟩:=takeL_good (n:=n) (l:=l) (k:=k) h
  refine⟨by simpa using h1,?_⟩
  have e : subL n 0 l k=takeL n l k:=rfl
  rw[e,h2,Array.toList_extract];simp[List.extract_eq_take_drop]
 | o+1,[],k,h=>not_good h
 | o+1,x::l,k,h=>by
  obtain⟨h1,h2⟩:=subL_good (n:=n) (o:=o) (l:=l) (k:=k) h
  refine⟨by simp only[List.length_cons];omega,?_⟩
  rw[Array.toList_extract] at h2 ⊢
  have e : o+1+n-(o+1)=o+n-o:=by omega
  simp only[List.extract_eq_take_drop,List.drop_succ_cons,e] at h2 ⊢
  exact h2
theorem catL_eq {b : List Value} : ∀ {a : List Value} {k : List Value→RF},catL b a k=k (a++b)
 | [],_=>rfl
 | x::a,k=>catL_eq (b:=b) (a:=a) (k:=fun r=>k (x::r))
theorem lenIs_good : ∀ {l : List Value} {n : Nat} {k : RF},Good (lenIs l n k)→l.length=n∧lenIs l n k=k
 | [],0,k,_=>⟨rfl,rfl⟩
 | [],n+1,k,h=>not_good h
 | x::l,0,k,h=>not_good h
 | x::l,n+1,k,h=>by
  obtain⟨h1,h2⟩:=lenIs_good (l:=l) (n:=n) (k:=k) h
  exact⟨by simp[h1],h2⟩
theorem okCell_good {v : Value} {k : RF} (h : Good (okCell v k)) : (v.oneCell' && notTop v)=true∧okCell v k=k:=by
 cases v with
 | chan r=>exact not_good h
 | agg r=>exact not_good h
 | tuple r=>exact not_good h
 | _=>exact⟨rfl,rfl⟩
theorem allL_good : ∀ {l : List Value} {k : RF},Good (allL l k)→l.all (fun y=>y.oneCell' && notTop y)=true∧allL l k=k
 | [],k,_=>⟨rfl,rfl⟩
 | x::l,k,h=>by
  obtain⟨h1,h2⟩:=okCell_good (v:=x) (k:=allL l k) h
  have h' : Good (allL l k):=by
   intro n hn
   exact h n (h2.trans hn)
  obtain⟨h3,h4⟩:=allL_good h'
  exact⟨by simp only[List.all_cons,h1,h3,Bool.and_self],h2.trans h4⟩
def TT.at : TT→Nat→Option Value
 | .e,_=>none
 | .n v _ _,0=>some v
 | .n _ l r,m+1=>match Nat.beq (m%2) 0 with
  | true=>l.at (m/2)
  | false=>r.at (m/2)
def pthF : Nat→Nat→Pth
 | 0,_=>.o
 | _+1,0=>.o
 | f+1,m+1=>match Nat.beq (m%2) 0 with
  | true=>.l (pthF f (m/2))
  | false=>.r (pthF f (m/2))
def pth (i : Nat) : Pth:=pthF i i
theorem beq_mod (m : Nat) : (Nat.beq (m%2) 0=true∧m%2=0)∨(Nat.beq (m%2) 0=false∧m%2=1):=by
 by_cases h : m%2=0
 ·exact .inl ⟨by rw[h];rfl,h⟩
 ·have : m%2=1:=by omega
  exact .inr ⟨by rw[this];rfl,this⟩
theorem getP_F : ∀ {f i : Nat} {t : TT},i≤f→getP (pthF f i) t=(t.at i).getD undef
 | 0,0,.e,_=>rfl
 | 0,0,.n v l r,_=>rfl
 | f+1,0,.e,_=>rfl
 | f+1,0,.n v l r,_=>rfl
 | f+1,m+1,t,h=>by
  rcases beq_mod m with⟨hb,_⟩|⟨hb,_⟩
  ·have e : pthF (f+1) (m+1)=.l (pthF f (m/2)):=by simp only[pthF,hb]
   rw[e]
   cases t with
   | e=>rfl
   | n v l r=>
    have : (TT.n v l r).at (m+1)=l.at (m/2):=by simp only[TT.at,hb]
    rw[this]
    exact getP_F (f:=f) (i:=m/2) (t:=l) (by omega)
  ·have e : pthF (f+1) (m+1)=.r (pthF f (m/2)):=by simp only[pthF,hb]
   rw[e]
   cases t with
   | e=>rfl
   | n v l r=>
    have : (TT.n v l r).at (m+1)=r.at (m/2):=by simp only[TT.at,hb]
    rw[this]
    exact getP_F (f:=f) (i:=m/2) (t:=r) (by omega)
 | 0,m+1,t,h=>absurd h (by omega)
theorem getP_at (i : Nat) (t : TT) : getP (pth i) t=(t.at i).getD undef:=getP_F (Nat.le_refl i)
theorem setP_F {v : Value} : ∀ {f i : Nat} {t : TT} {k : TT→RF},i≤f→Good (setP v (pthF f i) t k) →
  ∃ t',(t.at i).isSome=true∧(∀ j,t'.at j=if j=i then some v else t.at j)∧setP v (pthF f i) t k=k t':=by
 intro f
 induction f with
 | zero=>
  intro i t k hi h
  have : i=0:=by omega
  subst this
  cases t with
  | e=>exact not_good h
  | n x l r=>
   refine⟨.n v l r,rfl,?_,rfl⟩
   intro j
   cases j with
   | zero=>rfl
   | succ j=>rw[if_neg (by omega)];simp only[TT.at]
 | succ f ih=>
  intro i t k hi h
  cases i with
  | zero=>
   cases t with
   | e=>exact not_good h
   | n x l r=>
    refine⟨.n v l r,rfl,?_,rfl⟩
    intro j
    cases j with
    | zero=>rfl
    | succ j=>rw[if_neg (by omega)];simp only[TT.at]
  | succ m=>
   rcases beq_mod m with⟨hb,hm⟩|⟨hb,hm⟩
   ·have e : pthF (f+1) (m+1)=.l (pthF f (m/2)):=by simp only[pthF,hb]
    rw[e] at h ⊢
    cases t with
    | e=>exact not_good h
    | n x l r=>
     obtain⟨l',h1,h2,h3⟩:=ih (i:=m/2) (t:=l) (k:=fun l'=>k (.n x l' r)) (by omega) h
     refine⟨.n x l' r,by simpa only[TT.at,hb] using h1,?_,h3⟩
     intro j
     cases j with
     | zero=>rw[if_neg (by omega)];simp only[TT.at]
     | succ j=>
      rcases beq_mod j with⟨hb',hj⟩|⟨hb',hj⟩
      ·simp only[TT.at,hb',h2]
       by_cases hjm : j=m
       ·subst hjm;simp
       ·rw[if_neg (by omega),if_neg (by omega)]
      ·simp only[TT.at,hb']
       rw[if_neg (by omega)]
   ·have e : pthF (f+1) (m+1)=.r (pthF f (m/2)):=by simp only[pthF,hb]
    rw[e] at h ⊢
    cases t with
    | e=>exact not_good h
    | n x l r=>
     obtain⟨r',h1,h2,h3⟩:=ih (i:=m/2) (t:=r) (k:=fun r'=>k (.n x l r')) (by omega) h
     refine⟨.n x l r',by simpa only[TT.at,hb] using h1,?_,h3⟩
     intro j
     cases j with
     | zero=>rw[if_neg (by omega)];simp only[TT.at]
     | succ j=>
      rcases beq_mod j with⟨hb',hj⟩|⟨hb',hj⟩
      ·simp only[TT.at,hb']
       rw[if_neg (by omega)]
      ·simp only[TT.at,hb',h2]
       by_cases hjm : j=m
       ·subst hjm;simp
       ·rw[if_neg (by omega),if_neg (by omega)]
def TR (t : TT) (a : Array Value) : Prop:=∀ i,t.at i=a[i]?
theorem TR.get {t : TT} {a : Array Value} (h : TR t a) (i : Nat) : getP (pth i) t=a.getD i undef:=by
 rw[getP_at,h i,Array.getD_eq_getD_getElem?]
theorem TR.set {t : TT} {a : Array Value} (hT : TR t a) {v : Value} {i : Nat} {k : TT→RF} (h : Good (setP v (pth i) t k)) : ∃ t',TR t' (a.setIfInBounds i v)∧i<a.size∧setP v (pth i) t k=k t':=by
 obtain⟨t',h1,h2,h3⟩:=setP_F (Nat.le_refl i) h
 have hlt : i<a.size:=by
  rw[hT i] at h1
  by_cases hi : i<a.size
  ·exact hi
  ·rw[Array.getElem?_eq_none (by omega)] at h1;simp at h1
 refine⟨t',?_,hlt,h3⟩
 intro j
 rw[h2,Array.getElem?_setIfInBounds,hT j]
 by_cases hj : j=i
 ·subst hj;simp[hlt]
 ·rw[if_neg hj,if_neg (fun h=>hj h.symm)]
theorem setH_good {x : FO} : ∀ {t : HT} {i : Nat} {k : HT→RF},Good (setH x t i k)→∃ t',(∀ j,getH t' j=if j=i then x else getH t j)∧setH x t i k=k t':=by
 intro t
 induction t with
 | e=>
  intro i k h
  cases i with
  | zero=>
   refine⟨.n x .e .e,?_,rfl⟩
   intro j
   cases j with
   | zero=>rfl
   | succ j=>
    rw[if_neg (by omega)]
    rcases beq_mod j with⟨hb,_⟩|⟨hb,_⟩<;>(have e : getH (.n x .e .e) (j+1)=Bool.rec (motive:=fun _=>FO) .dead .dead (Nat.beq (j%2) 0):=rfl;rw[e,hb];rfl)
  | succ i=>exact not_good h
 | n o l r ihl ihr=>
  have gs : ∀ (o : FO) (l r : HT) (j : Nat),getH (.n o l r) (j+1)=Bool.rec (motive:=fun _=>FO) (getH r (j/2)) (getH l (j/2)) (Nat.beq (j%2) 0):=fun _ _ _ _=>rfl
  have gz : ∀ (o : FO) (l r : HT),getH (.n o l r) 0=o:=fun _ _ _=>rfl
  intro i k h
  cases i with
  | zero=>
   refine⟨.n x l r,?_,rfl⟩
   intro j
   cases j with
   | zero=>rfl
   | succ j=>rw[if_neg (by omega),gs,gs]
  | succ m=>
   have e : setH x (.n o l r) (m+1) k=Bool.rec (motive:=fun _=>RF) (setH x r (m/2) fun r'=>k (.n o l r')) (setH x l (m/2) fun l'=>k (.n o l' r)) (Nat.beq (m%2) 0):=rfl
   rw[e] at h ⊢
   rcases beq_mod m with⟨hb,hm⟩|⟨hb,hm⟩
   ·rw[hb] at h ⊢
    obtain⟨l',h1,h2⟩:=ihl (i:=m/2) (k:=fun l'=>k (.n o l' r)) h
    refine⟨.n o l' r,?_,h2⟩
    intro j
    cases j with
    | zero=>rw[if_neg (by omega),gz,gz]
    | succ j=>
     rw[gs,gs,h1]
     rcases beq_mod j with⟨hb',hj⟩|⟨hb',hj⟩<;>rw[hb']
     ·by_cases hjm : j=m
      ·subst hjm;simp
      ·rw[if_neg (show ¬ (j/2=m/2) by omega),if_neg (show ¬ (j+1=m+1) by omega)]
     ·rw[if_neg (show ¬ (j+1=m+1) by omega)]
   ·rw[hb] at h ⊢
    obtain⟨r',h1,h2⟩:=ihr (i:=m/2) (k:=fun r'=>k (.n o l r')) h
    refine⟨.n o l r',?_,h2⟩
    intro j
    cases j with
    | zero=>rw[if_neg (by omega),gz,gz]
    | succ j=>
     rw[gs,gs,h1]
     rcases beq_mod j with⟨hb',hj⟩|⟨hb',hj⟩<;>rw[hb']
     ·rw[if_neg (show ¬ (j+1=m+1) by omega)]
     ·by_cases hjm : j=m
      ·subst hjm;simp
      ·rw[if_neg (show ¬ (j/2=m/2) by omega),if_neg (show ¬ (j+1=m+1) by omega)]
end Go.Xe
