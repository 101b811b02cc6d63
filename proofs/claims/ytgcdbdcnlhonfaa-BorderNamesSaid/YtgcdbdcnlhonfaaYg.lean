/- An executable reading of the model's code over an abstract heap (part 33): a table of functions, and closed calls: what the machine for the kernel answers for a function without parameters, started with no memory at all, the model's call returns in every world, and leaves the world as it was. Conditions: the table holds the program's own functions; the program follows the mixed orders. -/
import Derived.Test.YtgcdbdcnlhonfaaYf
namespace Go.Xe
open Go
def rfs : Code→List (Code×Code)
 | .seq a b=>rfs a++rfs b
 | .cond _ a b=>rfs a++rfs b
 | .block _ b=>rfs b
 | .scope b=>rfs b
 | .loop b=>rfs b
 | .rangeFunc _ _ a b=>(a,b)::(rfs a++rfs b)
 | _=>[]
def rfA (fn : Func) (k : Nat) : Code:=match fn.body with
 | some c=>match (rfs c)[k]? with
  | some x=>x.1
  | none=>.skip
 | none=>.skip
def rfB (fn : Func) (k : Nat) : Code:=match fn.body with
 | some c=>match (rfs c)[k]? with
  | some x=>x.2
  | none=>.skip
 | none=>.skip
def compF (P : Program) [Gl P] (fn : Func) (k : Nat) : FFunc:=match fn.body with
 | some c=>.mk (comp P c) (mkTT fn.ntmps) ((List.range' 0 k).map pth) (fn.results.toList.map (compR P))
 | none=>.bad
def okF (P : Program) (fn : Func) : Bool := !(fn.name == "runtime.NumGoroutine") && fn.results.toList.all (resOk P)
def EntryOk (P : Program) [Gl P] (o : Nat→Option Bool) (g : Nat) (f : FFunc) : Prop:=f=.bad∨(∃ b,f=.orc b∧o g=some b)∨(o g=none∧∃ fn k,P.funcs[g]?=some fn∧okF P fn=true∧compF P fn k=f)
inductive FT where
 | e
 | n (f : FFunc) (l r : FT)
noncomputable def look (t : FT) : Nat→FFunc:=FT.rec (motive:=fun _=>Nat→FFunc) (fun _=>.bad) (fun o _ _ ihl ihr n=>Nat.rec (motive:=fun _=>FFunc) o (fun m _=>Bool.rec (motive:=fun _=>FFunc) (ihr (Nat.div m 2)) (ihl (Nat.div m 2)) (Nat.beq (Nat.mod m 2) 0)) n) t
def FT.Ok (Q : Nat→FFunc→Prop) : FT→(Nat→Nat)→Prop
 | .e,_=>True
 | .n f l r,φ=>Q (φ 0) f∧FT.Ok Q l (fun k=>φ (2*k+1))∧FT.Ok Q r (fun k=>φ (2*k+2))
theorem look_ok {Q : Nat→FFunc→Prop} (hb : ∀ n,Q n .bad) : ∀ {t : FT} {φ : Nat→Nat},t.Ok Q φ→∀ n,Q (φ n) (look t n)
 | .e,_,_,n=>hb _
 | .n f l r,φ,h,0=>h.1
 | .n f l r,φ,h,m+1=>by
  have e : look (.n f l r) (m+1)=Bool.rec (motive:=fun _=>FFunc) (look r (Nat.div m 2)) (look l (Nat.div m 2)) (Nat.beq (Nat.mod m 2) 0):=rfl
  rw[e]
  have h1 : Nat.div m 2=m/2:=rfl
  rw[h1]
  rcases beq_mod m with⟨hb',hm⟩|⟨hb',hm⟩
  ·have h2 : Nat.beq (Nat.mod m 2) 0=true:=hb'
   rw[h2]
   have:=look_ok hb h.2.1 (m/2)
   rw[show m+1=2*(m/2)+1 by omega]
   exact this
  ·have h2 : Nat.beq (Nat.mod m 2) 0=false:=hb'
   rw[h2]
   have:=look_ok hb h.2.2 (m/2)
   rw[show m+1=2*(m/2)+2 by omega]
   exact this
theorem fnOk_of {P : Program} [Gl P] (O : Orc P) {t : FT} (h : t.Ok (EntryOk P O.O) (fun k=>k)) : @FnOk P _ O (look t):=by
 intro g
 rcases look_ok (Q:=EntryOk P O.O) (fun _=>.inl rfl) h g with h1|h1|⟨h0,fn,k,h1,h2,h3⟩
 ·exact .inl h1
 ·exact .inr (.inl h1)
 ·unfold compF at h3
  split at h3
  ·rename_i c hc
   unfold okF at h2
   simp only[Bool.and_eq_true,Bool.not_eq_true',List.all_eq_true] at h2
   exact .inr (.inr ⟨fn,c,k,h0,h1,hc,h2.1,h2.2,h3.symm⟩)
  ·exact .inl h3.symm
noncomputable def endT (v : Value) (_ : FH) : RF:=asBool v (.rt .e [] (.mk 0 .e)) (.fail 2000) (.fail 3000)
end Go.Xe
