/- An executable reading of the model's code over an abstract heap (part 36): the pieces of a closed call, put together. Conditions: as part 33's. -/
import Derived.Test.YtgcdbdcnlhonfaaYi
namespace Go.Xe
open Go
section
variable {P : Program} [Gl P]
theorem comp_drop : ∀ (n : Nat) (c : Code),comp P (sdrop n c)=fsdrop n (comp P c)
 | 0,c=>by simp[sdrop,fsdrop]
 | n+1,c=>by
  cases c with
  | seq a b=>simp only[sdrop,comp,fsdrop];exact comp_drop n b
  | region i ops d=>cases d<;>simp only[sdrop,comp,fsdrop]<;>split<;>simp[fsdrop]
  | _=>simp[sdrop,comp,fsdrop]
theorem of_entry {fn : Func} {c : Code} {k : Nat} {x : FCode} {tp : TT} {as : List Pth} {rs : List FRes} (h2 : fn.body=some c) (h : compF P fn k=.mk x tp as rs) : comp P c=x∧fn.results.toList.map (compR P)=rs:=by
 unfold compF at h
 rw[h2] at h
 simp only[FFunc.mk.injEq] at h
 exact⟨h.1,h.2.2.2⟩
theorem stOk_start {n : Nat} : StOk (comp P) (mkTT n) [] .e 0 (Array.replicate n undef) Heap.empty:=⟨mkTT_TR n,rfl,trivial⟩
variable [Orc P]
theorem piece_last {F : Nat→FFunc} (hF : FnOk P F) {c : Code} {x : FCode} (hc : comp P c=x) (o n : Nat) {nx d : Nat} {t : TT} {ids : List Nat} {E : HT} {fn : Func} (hok : okF P fn=true) {res : List FRes} (hres : fn.results.toList.map (compR P)=res)
  (h : startL ids E (pd d) (fun T=>afterF (execF P F n (fsdrop o x) none [] t (.mk nx T)) res endT)=.rt .e [] (.mk 0 .e)) {tm : Array Value} {Hs : Heap} (hs : StOk (comp P) t ids E nx tm Hs) :
  ∃ e a H1,exec P n none (sdrop o c) ⟨tm,[],Hs⟩=some (e,a)∧(∀ id,e≠.exit id)∧xunmark a.marks a.heap=some H1∧xresults P H1 fn a.tmps=some (.bool true):=by
 subst hc
 have hok' : ∀ r∈fn.results.toList,resOk P r=true:=by
  unfold okF at hok
  simp only[Bool.and_eq_true,List.all_eq_true] at hok
  exact hok.2
 exact last_ok hF (comp_drop o c) hok' hres h hs
theorem xcall_of {f N : Nat} {fn : Func} {c : Code} {Hs H1 : Heap} {e : XE} {a : AS} {v : Value} (h0 : Orc.O P f=none) (h1 : P.funcs[f]?=some fn) (h2 : fn.body=some c) (h3 : okF P fn=true)
  (hx : exec P N none c ⟨Array.replicate fn.ntmps undef,[],Hs⟩=some (e,a)) (hne : ∀ id,e≠.exit id) (hu : xunmark a.marks a.heap=some H1) (hv : xresults P H1 fn a.tmps=some v) :
  xcall P (exec P N) f #[] Hs = some (v, H1) ∧ ∃ fn, P.funcs[f]? = some fn ∧ fn.body.isSome = true ∧ (fn.name == "runtime.NumGoroutine") = false := by
 have hn : (fn.name == "runtime.NumGoroutine") = false := by
  unfold okF at h3
  simp only[Bool.and_eq_true,Bool.not_eq_true'] at h3
  exact h3.1
 refine⟨?_,fn,h1,by rw[h2];rfl,hn⟩
 unfold xcall
 simp only[h0,h1,h2,hn,if_true]
 have e5 : (#[] : Array Value)++Array.replicate (fn.ntmps-(#[] : Array Value).size) undef=Array.replicate fn.ntmps undef:=by simp
 rw[e5,hx]
 cases e with
 | exit id=>exact absurd rfl (hne id)
 | normal=>simp only[hu,hv]
 | ret=>simp only[hu,hv]
end
end Go.Xe
