/- An executable reading of the model's code over an abstract heap (part 29): calls: the machine's call is the reading's. Conditions: the code of a function runs as the reading's (ExF), and F is the program's functions (FnOk). -/
import Derived.Test.YtgcdbdcnlhonfaaYb
namespace Go.Xe
open Go
def comp (P : Program) [Gl P] : Code→FCode
 | .skip=>.skip
 | .label _=>.skip
 | .exit id=>.exit id
 | .ret=>.ret
 | .seq x y=>.seq (comp P x) (comp P y)
 | .cond c x y=>.cond (compA P c) (comp P x) (comp P y)
 | .block id b=>.block id (comp P b)
 | .scope b=>.scope (comp P b)
 | .loop b=>.loop (comp P b)
 | .region _ ops true=>if planOk ops (mkPlan ops) then .draw ops.size ((mkPlan ops).sig.map (compAt P ops)) ((List.range ops.size).map (chkOf P ops (mkPlan ops))) else .bad
 | .region _ ops false=>.run (ops.toList.map (compFIS P ops))
 | .rangeFunc f ps a b=>.rangeFunc (compA P f) (ps.toList.map pth) a b (comp P a) (comp P b)
 | _=>.bad
def compR (P : Program) : ResultVar→FRes
 | .tmp t=>.tmp (pth t)
 | .cell a t=>match P.underlying t,P.info? t with
  | some (.struct _),some i|some (.array _ _),some i=>.many (pth a) i.size
  | some _,some _=>.one (pth a)
  | _,_=>.many (pth a) 0
def mkTTF : Nat→Nat→TT
 | 0,_=>.e
 | _+1,0=>.e
 | f+1,n+1=>.n undef (mkTTF f ((n+1)/2)) (mkTTF f (n/2))
def mkTT (n : Nat) : TT:=mkTTF n n
theorem mkTTF_at : ∀ (f n i : Nat),n≤f→(mkTTF f n).at i=if i<n then some undef else none
 | 0,0,i,_=>by simp[mkTTF,TT.at]
 | 0,n+1,i,h=>absurd h (by omega)
 | f+1,0,i,_=>by simp[mkTTF,TT.at]
 | f+1,n+1,0,h=>by simp[mkTTF,TT.at]
 | f+1,n+1,i+1,h=>by
  simp only[mkTTF,TT.at]
  rcases beq_mod i with⟨hb,hi⟩|⟨hb,hi⟩
  ·simp only[hb]
   rw[mkTTF_at f ((n+1)/2) (i/2) (by omega)]
   by_cases h1 : i/2<(n+1)/2
   ·rw[if_pos h1,if_pos (show i+1<n+1 by omega)]
   ·rw[if_neg h1,if_neg (show ¬ (i+1<n+1) by omega)]
  ·simp only[hb]
   rw[mkTTF_at f (n/2) (i/2) (by omega)]
   by_cases h1 : i/2<n/2
   ·rw[if_pos h1,if_pos (show i+1<n+1 by omega)]
   ·rw[if_neg h1,if_neg (show ¬ (i+1<n+1) by omega)]
theorem mkTT_TR (n : Nat) : TR (mkTT n) (Array.replicate n undef):=by
 intro i
 rw[mkTT,mkTTF_at n n i (Nat.le_refl n),Array.getElem?_replicate]
def setAll : List Value→List Nat→Array Value→Array Value
 | v::vs,i::is,a=>setAll vs is (a.setIfInBounds i v)
 | _,_,a=>a
theorem setArgs_ok : ∀ {args : List Value} {is : List Nat} {t : TT} {a : Array Value} {k : TT→RF},TR t a→Good (setArgs args (is.map pth) t k) →
  args.length=is.length∧(∀ i∈is,i<a.size)∧∃ t',TR t' (setAll args is a)∧setArgs args (is.map pth) t k=k t'
 | [],[],t,a,k,ht,h=>⟨rfl,by simp,t,ht,rfl⟩
 | [],i::is,t,a,k,ht,h=>not_good h
 | v::vs,[],t,a,k,ht,h=>not_good h
 | v::vs,i::is,t,a,k,ht,h=>by
  have e : setArgs (v::vs) ((i::is).map pth) t k=setP v (pth i) t fun t'=>setArgs vs (is.map pth) t' k:=rfl
  rw[e] at h ⊢
  obtain⟨t1,h1,h2,h3⟩:=ht.set h
  rw[h3] at h ⊢
  obtain⟨h4,h5,t2,h6,h7⟩:=setArgs_ok h1 h
  refine⟨by simp[h4],?_,t2,h6,h7⟩
  intro j hj
  rcases List.mem_cons.1 hj with rfl|hj
  ·exact h2
  ·have:=h5 j hj
   simpa using this
theorem setAll_range : ∀ (args : List Value) (s : Nat) (a : Array Value),s+args.length≤a.size→∀ i,(setAll args (List.range' s args.length) a)[i]?=if s≤i∧i<s+args.length then args[i-s]? else a[i]?
 | [],s,a,_,i=>by
  simp only[setAll,List.length_nil,Nat.add_zero]
  rw[if_neg (by omega)]
 | v::vs,s,a,h,i=>by
  simp only[List.length_cons,List.range'_succ,setAll]
  simp only[List.length_cons] at h
  rw[setAll_range vs (s+1) _ (by simp only[Array.size_setIfInBounds];omega) i]
  by_cases h1 : s+1≤i∧i<s+1+vs.length
  ·rw[if_pos h1,if_pos (by omega)]
   have : i-s=(i-(s+1))+1:=by omega
   rw[this,List.getElem?_cons_succ]
  ·rw[if_neg h1,Array.getElem?_setIfInBounds]
   by_cases h2 : s=i
   ·subst h2
    rw[if_pos rfl,if_pos (by omega),if_pos (by omega)]
    simp
   ·rw[if_neg h2,if_neg (by omega)]
theorem args_ok {args : List Value} {n : Nat} (h : args.length≤n) : setAll args (List.range' 0 args.length) (Array.replicate n undef)=(⟨args⟩ : Array Value)++Array.replicate (n-args.length) undef:=by
 apply Array.ext_getElem?
 intro i
 rw[setAll_range args 0 _ (by simpa using h)]
 simp only[Nat.zero_add,Nat.zero_le,true_and,Nat.sub_zero]
 by_cases hi : i<args.length
 ·rw[if_pos hi,Array.getElem?_append_left (by simpa using hi)]
  simp
 ·rw[if_neg hi,Array.getElem?_append_right (by simpa using hi)]
  simp only[List.size_toArray,Array.getElem?_replicate]
  by_cases h2 : i<n
  ·rw[if_pos h2,if_pos (by omega)]
  ·rw[if_neg h2,if_neg (by omega)]
end Go.Xe
