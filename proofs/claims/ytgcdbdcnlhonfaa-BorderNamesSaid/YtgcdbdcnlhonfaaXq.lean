/- An executable reading of the model's code over an abstract heap (part 17): the same by lists alone, for the kernel: what this comes to, the reading comes to. Conditions: none. -/
import Derived.Test.YtgcdbdcnlhonfaaXp
namespace Go.Xe
open Go
theorem setCells_cons : ∀ (vs : List Value) (o : Nat) (x : Value) (c : List Value),setCells vs (o+1) ⟨x::c⟩=⟨x::(setCells vs o ⟨c⟩).toList⟩
 | [],o,x,c=>rfl
 | v::vs,o,x,c=>by
  simp only[setCells]
  have e1 : (⟨x::c⟩ : Array Value).setIfInBounds (o+1) v=⟨x::(c.set o v)⟩:=by apply Array.toList_inj.1;simp
  have e2 : (⟨c⟩ : Array Value).setIfInBounds o v=⟨c.set o v⟩:=by apply Array.toList_inj.1;simp
  rw[e1,e2,setCells_cons vs (o+1)]
theorem zip_setCells (off : Nat) : ∀ (l : List Value) (n : Nat) (a : Array Value),(l.zipIdx n).foldl (fun cs (x : Value×Nat)=>cs.setIfInBounds (off+x.2) x.1) a=setCells l (off+n) a
 | [],n,a=>rfl
 | v::l,n,a=>by
  simp only[List.zipIdx_cons,List.foldl_cons,setCells]
  rw[zip_setCells off l (n+1)]
  rfl
def forceN {α : Type} (n : Nat) (k : Nat→α) : α:=match n with
 | 0=>k 0
 | m+1=>k (m+1)
def forceI {α : Type} (n : Int) (k : Int→α) : α:=match n with
 | .ofNat m=>forceN m fun m=>k (.ofNat m)
 | .negSucc m=>forceN m fun m=>k (.negSucc m)
def forceA {α : Type} (a : Addr) (k : Addr→α) : α:=match a with
 | ⟨b,o,s⟩=>forceN b fun b=>forceN o fun o=>k ⟨b,o,s⟩
def forceV {α : Type} (v : Value) (k : Value→α) : α:=match v with
 | .bool b=>match b with
  | true=>k (.bool true)
  | false=>k (.bool false)
 | .int kd n=>forceI n fun n=>k (.int kd n)
 | .pointer a=>match a with
  | some a=>forceA a fun a=>k (.pointer (some a))
  | none=>k (.pointer none)
 | .slice a n c=>match a with
  | some a=>forceA a fun a=>forceN n fun n=>forceN c fun c=>k (.slice (some a) n c)
  | none=>k (.slice none n c)
 | .map r=>match r with
  | some r=>forceN r fun r=>k (.map (some r))
  | none=>k (.map none)
 | v=>k v
theorem forceN_eq {α : Type} (n : Nat) (k : Nat→α) : forceN n k=k n:=by cases n<;>rfl
theorem forceI_eq {α : Type} (n : Int) (k : Int→α) : forceI n k=k n:=by cases n<;>simp[forceI,forceN_eq]
theorem forceA_eq {α : Type} (a : Addr) (k : Addr→α) : forceA a k=k a:=by cases a;simp[forceA,forceN_eq]
theorem forceV_eq {α : Type} (v : Value) (k : Value→α) : forceV v k=k v:=by
 cases v with
 | bool b=>cases b<;>rfl
 | int kd n=>simp[forceV,forceI_eq]
 | pointer a=>cases a<;>simp[forceV,forceA_eq]
 | slice a n c=>cases a<;>simp[forceV,forceA_eq,forceN_eq]
 | map r=>cases r<;>simp[forceV,forceN_eq]
 | _=>rfl
end Go.Xe
