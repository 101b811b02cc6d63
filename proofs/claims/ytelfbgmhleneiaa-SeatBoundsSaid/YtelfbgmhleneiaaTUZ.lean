/- What the functions of the layer seat come to: more votes, and the only result. Conditions: none. -/
import Derived.Test.YtelfbgmhleneiaaTUT
import Derived.Test.YtelfbgmhleneiaaZu
-- MOD TV
namespace Go.Xe.TVX
open Go Go.Xe Go.Proofs
open Nat renaming reduceLeDiff → qA, reduceSub → qB, reduceAdd → qC, reduceEqDiff → qD, reduceLT → qE
open Int renaming reduceNegSucc → qF, reduceEq → qG
open Go.Xe.V renaming seq → sA, block → sB, scope → sC, skip → sD, close → sE
open Go.Xe renaming pth → P
open Go.Xe.Sea
set_option maxRecDepth 100000
set_option maxHeartbeats 3200000
set_option linter.unusedSimpArgs false
section
open Classical
theorem cn_mono {P Q : Nat→Prop} {n : Nat} (h : ∀ t,t<n→P t→Q t) : cn P n≤cn Q n:=
 sm_le fun t ht=>by
  by_cases k : P t
  ·rw[if_pos k,if_pos (h t ht k)];omega
  ·rw[if_neg k];split<;>omega
theorem ck_mono {v v' : Nat→Int} {n : Nat} {P Q : Nat→Nat→Prop} (hv : ∀ q,q<8→0<v q→0<v' q) (h : ∀ q t,q<8→0<v q→t<n→P q t→Q q t) : ck v n P≤ck v' n Q:=
 sm_le fun q hq=>by
  by_cases k : 0<v q
  ·rw[if_pos k,if_pos (hv q hq k)]
   exact cn_mono fun t ht=>h q t hq k ht
  ·rw[if_neg k]
   have:=(cn_nn (Q q) n).1
   split<;>omega
end
theorem own_cmp {m S : Int} {v v' : Nat→Int} (h5 : m≠5) {k : Nat} (h : 0<v k) (h' : 0<v' k) (s t : Int) : qlt (clq m S v k s) (clq m S v k t)↔qlt (clq m S v' k s) (clq m S v' k t):=by
 have e : ∀ (u : Nat→Int) (a : Int),clq m S u k a=(u k*u k*1,dsq m a):=fun u a=>by unfold clq;rw[if_neg h5,Int.mul_one]
 rw[e,e,e,e]
 exact (qlt_scale (a:=(1,dsq m s)) (b:=(1,dsq m t)) (Int.mul_pos h h)).trans (qlt_scale (a:=(1,dsq m s)) (b:=(1,dsq m t)) (Int.mul_pos h' h')).symm
theorem clq_more {m S : Int} {v v' : Nat→Int} (h5 : m≠5) {k : Nat} (h0 : 0≤v k) (h : v k≤v' k) {s : Int} (hs : 0≤s) : ¬ qlt (clq m S v' k s) (clq m S v k s):=by
 unfold clq
 rw[if_neg h5,if_neg h5]
 have d0:=dsq_nn (m:=m) hs
 have hsq : v k*v k≤v' k*v' k:=Int.mul_le_mul h h h0 (by omega)
 unfold qlt
 split
 ·simp only;omega
 ·simp only
  have:=Int.mul_le_mul_of_nonneg_right hsq d0
  omega
theorem otc_no {m S : Int} {v : Nat→Int} (hv : vok v) (hS : 0≤S∧S≤61) (hv8 : ∀ p,¬ p<8→v p=0) {p : Nat} (h : ¬ 0<v p) : (otc m S v).1 p=0∧(otc m S v).2 p=0:=by
 have F:=otc_fin (m:=m) hv hS hv8
 have e:=F.1.adm p (fun k=>h k.2)
 refine⟨e,?_⟩
 rcases F.2 with⟨_,_,k⟩|⟨_,_,k⟩|⟨_,_,_,k⟩
 ·rw[k];exact e
 ·rw[k];exact e
 ·rw[k];unfold Sea.up;rw[if_neg (fun k=>h (mem_tp.1 k).2.1)];exact e
theorem mono {m S : Int} {v v' : Nat→Int} (h5 : m≠5) (hv : vok v) (hv' : vok v') (hS : 0≤S∧S≤61) (hv8 : ∀ p,¬ p<8→v p=0) (hv8' : ∀ p,¬ p<8→v' p=0) {k : Nat} (hk : k<8) (h1 : v' k≤v k) (h2 : ∀ q,q≠k→v q≤v' q) :
  (otc m S v').1 k≤(otc m S v).1 k∧(otc m S v').2 k≤(otc m S v).2 k:=by
 obtain⟨n,hn⟩ : ∃ n : Nat,S=n:=⟨S.toNat,by omega⟩
 have i1:=otc_hi (m:=m) hv hS hv8 k
 have i2:=otc_hi (m:=m) hv' hS hv8' k
 have b1:=(Fin.bd (otc_fin (m:=m) hv hS hv8) hS.1).2.1 k
 have b2:=(Fin.bd (otc_fin (m:=m) hv' hS hv8') hS.1).2.1 k
 by_cases vk' : 0<v' k
 rotate_left
 ·have:=otc_no (m:=m) hv' hS hv8' vk'
  omega
 have vk : 0<v k:=by omega
 have pos : ∀ q,q<8→0<v q→0<v' q:=fun q hq hvq=>by
  by_cases e : q=k
  ·subst e;exact vk'
  ·have:=h2 q e;omega
 have kk : ∀ s,0≤s→¬ qlt (clq m S v k s) (clq m S v' k s):=fun s hs=>clq_more h5 (by omega) h1 hs
 have qq : ∀ q s,q≠k→0<v q→0≤s→¬ qlt (clq m S v' q s) (clq m S v q s):=fun q s e hvq hs=>clq_more h5 (by omega) (h2 q e) hs
 have ok : ∀ q (t : Int),q<8→0<v q→0≤t→qok (clq m S v q t):=fun q t hq hvq ht=>clq_ok hv hS hq hvq ht
 have ok' : ∀ q (t : Int),q<8→0<v q→0≤t→qok (clq m S v' q t):=fun q t hq hvq ht=>clq_ok hv' hS hq (pos q hq hvq) ht
 constructor
 ·apply Decidable.by_contra
  intro hh
  obtain⟨s,hs⟩ : ∃ s : Nat,(otc m S v).1 k=s:=⟨((otc m S v).1 k).toNat,by omega⟩
  have hsn : s<n:=by omega
  have A:=(spread (p:=k) (s:=s) hn h5 hv hS hv8 hk vk hsn).1
  have B:=(spread (p:=k) (s:=s) hn h5 hv' hS hv8' hk vk' hsn).1
  have c : ck v n (fun q t=>¬ qlt (clq m S v q t) (clq m S v k s))≤ck v' n (fun q t=>¬ qlt (clq m S v' q t) (clq m S v' k s)):=ck_mono pos fun q t hq hvq _ hp=>by
   by_cases e : q=k
   ·subst e
    exact fun hh=>hp ((own_cmp h5 vk vk' _ _).2 hh)
   ·exact qlt_neg (ok' q t hq hvq (by omega)) (ok q t hq hvq (by omega)) (ok' k s hk vk (by omega)) (qq q t e hvq (by omega)) (qlt_neg (ok q t hq hvq (by omega)) (ok k s hk vk (by omega)) (ok' k s hk vk (by omega)) hp (kk s (by omega)))
  have:=A.1 (Int.le_trans c (B.2 (by omega)))
  omega
 ·apply Decidable.by_contra
  intro hh
  obtain⟨s,hs⟩ : ∃ s : Nat,(otc m S v).2 k=s:=⟨((otc m S v).2 k).toNat,by omega⟩
  have hsn : s<n:=by omega
  have A:=(spread (p:=k) (s:=s) hn h5 hv hS hv8 hk vk hsn).2
  have B:=(spread (p:=k) (s:=s) hn h5 hv' hS hv8' hk vk' hsn).2
  have c : ck v n (fun q t=>qlt (clq m S v k s) (clq m S v q t))≤ck v' n (fun q t=>qlt (clq m S v' k s) (clq m S v' q t)):=ck_mono pos fun q t hq hvq _ hp=>by
   by_cases e : q=k
   ·subst e
    exact (own_cmp h5 vk vk' _ _).1 hp
   ·exact qlt_le (ok' k s hk vk (by omega)) (ok q t hq hvq (by omega)) (ok' q t hq hvq (by omega)) (le_qlt (ok' k s hk vk (by omega)) (ok k s hk vk (by omega)) (ok q t hq hvq (by omega)) (kk s (by omega)) hp) (qq q t e hvq (by omega))
  have:=A.1 (Int.lt_of_le_of_lt c (B.2 (by omega)))
  omega
end Go.Xe.TVX
/- What the functions of the layer seat come to: the smallest change. Conditions: none. -/
-- MOD TV
namespace Go.Xe.TVX
open Go Go.Xe Go.Proofs
open Nat renaming reduceLeDiff → qA, reduceSub → qB, reduceAdd → qC, reduceEqDiff → qD, reduceLT → qE
open Int renaming reduceNegSucc → qF, reduceEq → qG
open Go.Xe.V renaming seq → sA, block → sB, scope → sC, skip → sD, close → sE
open Go.Xe renaming pth → P
open Go.Xe.Sea
set_option maxRecDepth 100000
set_option maxHeartbeats 3200000
set_option linter.unusedSimpArgs false
def chg (c : Nat→Int) (p : Nat) (n : Int) : Nat→Int:=fun i=>if i=p then c p+n else c i
def Mov (m S L : Int) (c s : Nat→Int) (p : Nat) (n : Int) : Prop:=(0≤c p+n∧c p+n≤10000)∧¬ jo m S (vts L (chg c p n)) s
instance (m S L : Int) (c s : Nat→Int) (p : Nat) (n : Int) : Decidable (Mov m S L c s p n):=by unfold Mov;infer_instance
end Go.Xe.TVX
/- What the functions of the layer seat come to: changes of a list. Conditions: none. -/
-- MOD TV
namespace Go.Xe.TVX
open Go Go.Xe Go.Proofs
open Nat renaming reduceLeDiff → qA, reduceSub → qB, reduceAdd → qC, reduceEqDiff → qD, reduceLT → qE
open Int renaming reduceNegSucc → qF, reduceEq → qG
open Go.Xe.V renaming seq → sA, block → sB, scope → sC, skip → sD, close → sE
open Go.Xe renaming pth → P
open Go.Xe.Sea
set_option maxRecDepth 100000
set_option maxHeartbeats 3200000
set_option linter.unusedSimpArgs false
theorem fl_eq {n : Nat} {f g : Nat→Int} : fl n f=fl n g↔∀ p,p<n→f p=g p:=by
 constructor
 ·intro h p hp
  have h1:=fl_at (n:=n) (f:=f) (i:=p) (by rw[fl_len];exact hp)
  have h2:=fl_at (n:=n) (f:=g) (i:=p) (by rw[fl_len];exact hp)
  rw[← h1,← h2]
  simp only[h]
 ·intro h
  unfold fl
  apply List.map_congr_left
  intro p hp
  exact h p (List.mem_range.1 hp)
def Stay (m S L : Int) (l : List Int) (p : Nat) (y : Int) : Prop:=sure m S (vl L (l.set p y))∧fl l.length (otc m S (vl L l)).1=fl l.length (otc m S (vl L (l.set p y))).1
instance (m S L : Int) (l : List Int) (p : Nat) (y : Int) : Decidable (Stay m S L l p y):=by unfold Stay;infer_instance
end Go.Xe.TVX
/- What the functions of the layer seat come to: SeatShifts. Conditions: none. -/
-- MOD TV
namespace Go.Xe.TVX
open Go Go.Xe Go.Proofs
open Nat renaming reduceLeDiff → qA, reduceSub → qB, reduceAdd → qC, reduceEqDiff → qD, reduceLT → qE
open Int renaming reduceNegSucc → qF, reduceEq → qG
open Go.Xe.V renaming seq → sA, block → sB, scope → sC, skip → sD, close → sE
open Go.Xe renaming pth → P
open Go.Xe.Sea
set_option maxRecDepth 100000
set_option maxHeartbeats 3200000
set_option linter.unusedSimpArgs false
end Go.Xe.TVX
/- What the functions of the layer seat come to: SeatShift. Conditions: none. -/
-- MOD TV
namespace Go.Xe.TVX
open Go Go.Xe Go.Proofs
open Nat renaming reduceLeDiff → qA, reduceSub → qB, reduceAdd → qC, reduceEqDiff → qD, reduceLT → qE
open Int renaming reduceNegSucc → qF, reduceEq → qG
open Go.Xe.V renaming seq → sA, block → sB, scope → sC, skip → sD, close → sE
open Go.Xe renaming pth → P
open Go.Xe.Sea
set_option maxRecDepth 100000
set_option maxHeartbeats 3200000
set_option linter.unusedSimpArgs false
end Go.Xe.TVX
/- Rules of reasoning over the executable reading of the model's code (part Z23): a slice of any shape that came in. Conditions: none; for every program. -/
namespace Go.Xe
open Go Go.RowKit Go.ChangeShapes Go.WideShapes
theorem arg_sl {H : Type} {enc : TypeId×Value→H} {P : Program} {w : World} {A : Heap} (hA : Abs w A) {t : TypeId} {s : Sh} (m : Nat) (hs : shOf P m t=some s) {p : Option Addr} {n c : Nat} {d : DataW H} {ps : List MemPlace} (h : DataW.Trod enc P w 0 (fun _=>true) true t (.slice p n c) d ps) :
  ∃ y,Sem A s [absV w.heap.size (.slice p n c)] y:=by
 obtain⟨fuel,hf⟩:=h
 obtain⟨y,hy⟩:=arg_any hA m t s hs fuel _ _ hf
 exact⟨y,by simpa [Value.cells,absV] using hy⟩
end Go.Xe
/- What the functions of the layer seat come to: Bounds. Conditions: none. -/
-- MOD TV
namespace Go.Xe
theorem Bx.apart {A B : Heap} {s : Value} {i : Nat} {c : List Value} {e : TypeId} (h : Bx A i c e) (g : Apart A B s) (hs : blk s≠some i) : Bx B i c e:=
 ⟨Nat.lt_of_lt_of_le h.1 g.1,by
  have:=g.2 i h.1 (fun o n c he=>hs (by rw[he];rfl))
  have h2:=h.2
  unfold Heap.cellsAt at h2 ⊢
  rw[this]
  exact h2⟩
end Go.Xe
namespace Go.Xe.TVX
open Go Go.Xe Go.Proofs
open Nat renaming reduceLeDiff → qA, reduceSub → qB, reduceAdd → qC, reduceEqDiff → qD, reduceLT → qE
open Int renaming reduceNegSucc → qF, reduceEq → qG
open Go.Xe.V renaming seq → sA, block → sB, scope → sC, skip → sD, close → sE
open Go.Xe renaming pth → P
open Go.Xe.Sea
set_option maxRecDepth 100000
set_option maxHeartbeats 3200000
set_option linter.unusedSimpArgs false
noncomputable def d67 : FCode:=(.seq (.run (.go (.box 49 (tm 0)) (P 1)::
.go (.move (.con (.bool false))) (P 2)::
[])) (.seq (.draw 18 (.go (.fieldAddr 0 (tm 1)) (P 3)::
.go (.load1 (tm 3)) (P 4)::
.go (.fieldAddr 1 (tm 1)) (P 5)::
.go (.load1 (tm 5)) (P 6)::
.go (.bin .leq 3 (tm 4) (tm 6)) (P 7)::
.go (.move (tm 7)) (P 8)::
.gd (P 8) true (.call (.con (.func (.func 73) ⟨[]⟩ ⟨[]⟩)) []) (P 9)::
.gd (P 8) true (.fieldAddr 0 (tm 1)) (P 10)::
.gd (P 8) true (.load1 (tm 10)) (P 11)::
.gd (P 8) true (.call (.con (.func (.func 60) ⟨[]⟩ ⟨[]⟩)) [(tm 9),(tm 11)]) (P 12)::
.go (.pick (tm 8) (tm 12) (.con (.bool false))) (P 13)::
.go (.move (tm 13)) (P 14)::
.gd (P 14) true (.call (.con (.func (.func 73) ⟨[]⟩ ⟨[]⟩)) []) (P 15)::
.gd (P 14) true (.fieldAddr 1 (tm 1)) (P 16)::
.gd (P 14) true (.load1 (tm 16)) (P 17)::
.gd (P 14) true (.call (.con (.func (.func 60) ⟨[]⟩ ⟨[]⟩)) [(tm 15),(tm 17)]) (P 18)::
.go (.pick (tm 14) (tm 18) (.con (.bool false))) (P 19)::
.go (.move (tm 19)) (P 2)::
[]) [.ok,.ok,.ok,.ok,.ok,.ok,.ok,.ok,.rd (some ((P 8),true)) (.load1 (tm 10)) (some (P 11)) [0],.ok,.ok,.ok,.ok,.ok,.rd (some ((P 14),true)) (.load1 (tm 16)) (some (P 17)) [10],.ok,.ok,.ok]) .ret))
theorem de67 : @compF Try.prog (Gl.none Try.prog) Try.f67 1=.mk d67 (mkTT 20) [(P 0)] [.tmp (P 2)]:=by kernel_rfl
theorem dg67 : Try.prog.funcs[67]?=some Try.f67:=Try.func67
theorem do67 : okF Try.prog Try.f67=true:=by kernel_rfl
noncomputable def d88 : FCode:=(.seq (.run (.go (.move (.con (.bool false))) (P 4)::
[])) (.seq (.seq (.run (.go (.move (tm 0)) (P 7)::
.go (.len 0 (tm 7)) (P 8)::
.go (.move (.con (.int .i64 (.ofNat 0)))) (P 9)::
[])) (.block 0 (.loop (.seq (.run (.go (.bin .lss 3 (tm 9) (tm 8)) (P 10)::
[])) (.seq (.cond (tm 10) .skip (.exit 0)) (.seq (.block 1 (.seq (.run (.go (.indexAddr none 2 (tm 7) (tm 9)) (P 11)::
.go (.loadN 2 (tm 11)) (P 12)::
.go (.alloc 49 [(.int .i64 (.ofNat 0)),(.int .i64 (.ofNat 0))]) (P 6)::
.un (.store 2 (tm 6) (tm 12))::
[])) (.seq (.run (.go (.move (tm 1)) (P 13)::
.go (.loadN 2 (tm 6)) (P 14)::
.go (.call (tm 13) [tm 14]) (P 15)::
.go (.un .not (tm 15)) (P 16)::
[])) (.cond (tm 16) (.seq (.run (.go (.move (.con (.bool false))) (P 4)::
[])) .ret) .skip)))) (.run (.go (.bin .add 3 (tm 9) (.con (.int .i64 (.ofNat 1)))) (P 17)::
.go (.move (tm 17)) (P 9)::
[])))))))) (.seq (.run (.go (.move (.con (.bool true))) (P 4)::
[])) .ret)))
theorem de88 : @compF Try.prog (Gl.none Try.prog) Try.f88 2=.mk d88 (mkTT 18) [(P 0),(P 1)] [.tmp (P 4)]:=by kernel_rfl
theorem dg88 : Try.prog.funcs[88]?=some Try.f88:=Try.func88
theorem do88 : okF Try.prog Try.f88=true:=by kernel_rfl
noncomputable def d66 : FCode:=(.seq (.run (.go (.box 28 (tm 0)) (P 3)::
.go (.move (.con (.int .i64 (.ofNat 0)))) (P 6)::
[])) (.seq (.block 0 (.seq (.run (.go (.loadN 3 (tm 3)) (P 8)::
.go (.call (.con (.func (.func 53) ⟨[]⟩ ⟨[]⟩)) [tm 8]) (P 9)::
.go (.un .not (tm 9)) (P 10)::
.go (.move (tm 10)) (P 7)::
[])) (.cond (tm 7) (.seq (.run (.go (.move (.con (.int .i64 (.ofNat 1)))) (P 6)::
[])) .ret) (.seq (.run (.go (.move (tm 1)) (P 12)::
.go (.len 0 (tm 12)) (P 13)::
.go (.bin .gtr 3 (tm 13) (.con (.int .i64 (.ofNat 8)))) (P 14)::
.go (.move (tm 14)) (P 11)::
[])) (.cond (tm 11) (.seq (.run (.go (.move (.con (.int .i64 (.ofNat 3)))) (P 6)::
[])) .ret) (.seq (.run (.go (.move (tm 1)) (P 16)::
.go (.move (tm 2)) (P 17)::
.go (.call (.con (.func (.func 88) ⟨[]⟩ ⟨[]⟩)) [(tm 16),(tm 17)]) (P 18)::
.go (.un .not (tm 18)) (P 19)::
.go (.move (tm 19)) (P 15)::
[])) (.cond (tm 15) (.seq (.run (.go (.move (.con (.int .i64 (.ofNat 2)))) (P 6)::
[])) .ret) .skip))))))) (.seq (.run (.go (.move (.con (.int .i64 (.ofNat 0)))) (P 6)::
[])) .ret)))
theorem de66 : @compF Try.prog (Gl.none Try.prog) Try.f66 3=.mk d66 (mkTT 20) [(P 0),(P 1),(P 2)] [.tmp (P 6)]:=by kernel_rfl
theorem dg66 : Try.prog.funcs[66]?=some Try.f66:=Try.func66
theorem do66 : okF Try.prog Try.f66=true:=by kernel_rfl
noncomputable def d100 : FCode:=(.seq (.run (.go (.move (.con (.slice none 0 0))) (P 2)::
[])) (.seq (.seq (.run (.go (.move (tm 0)) (P 3)::
.go (.bin .eql 24 (tm 3) (.con (.slice none 0 0))) (P 4)::
[])) (.cond (tm 4) (.seq (.run (.go (.move (.con (.slice none 0 0))) (P 2)::
[])) .ret) .skip)) (.seq (.run (.go (.buildSlice 3 0 [] []) (P 5)::
.go (.move (tm 0)) (P 6)::
.go (.append 3 1 8 (tm 5) (tm 6)) (P 7)::
.go (.move (tm 7)) (P 2)::
[])) .ret)))
theorem de100 : @compF Try.prog (Gl.none Try.prog) Try.f100 1=.mk d100 (mkTT 8) [(P 0)] [.tmp (P 2)]:=by kernel_rfl
theorem dg100 : Try.prog.funcs[100]?=some Try.f100:=Try.func100
theorem do100 : okF Try.prog Try.f100=true:=by kernel_rfl
noncomputable def d89 : FCode:=(.seq (.run (.go (.move (.con (.slice none 0 0))) (P 6)::
[])) (.seq (.run (.go (.move (tm 0)) (P 7)::
.go (.call (.con (.func (.func 100) ⟨[]⟩ ⟨[]⟩)) [tm 7]) (P 8)::
.go (.move (tm 8)) (P 0)::
[])) (.seq (.run (.go (.move (tm 0)) (P 9)::
.go (.move (tm 1)) (P 10)::
.go (.move (tm 2)) (P 11)::
.go (.indexAddr none 1 (tm 9) (tm 10)) (P 12)::
.un (.store 1 (tm 12) (tm 11))::
[])) (.seq (.run (.go (.move (tm 0)) (P 13)::
.go (.move (tm 13)) (P 6)::
[])) .ret))))
theorem de89 : @compF Try.prog (Gl.none Try.prog) Try.f89 3=.mk d89 (mkTT 14) [(P 0),(P 1),(P 2)] [.tmp (P 6)]:=by kernel_rfl
theorem dg89 : Try.prog.funcs[89]?=some Try.f89:=Try.func89
theorem do89 : okF Try.prog Try.f89=true:=by kernel_rfl
abbrev R2:=Int×Int
abbrev q2 (r : R2) : List Value:=A2 r.1 r.2
def rok (r : R2) : Prop:=r.1≤r.2∧(0≤r.1∧r.1≤10000)∧0≤r.2∧r.2≤10000
instance (r : R2) : Decidable (rok r):=by unfold rok;infer_instance
structure RS (H : Heap) (x : Value) (R : List R2) : Prop where
 s : Sw 2 H x (R.map q2)
theorem RS.grow {A B : Heap} (g : Grow A B) {x : Value} {R : List R2} (h : RS A x R) : RS B x R:=⟨h.s.grow g⟩
theorem RS.isS {H : Heap} {x : Value} {R : List R2} (h : RS H x R) : ∃ p n c,x=.slice p n c:=by
 obtain⟨h⟩:=h
 generalize R.map q2=l at h
 cases h<;>exact⟨_,_,_,rfl⟩
theorem RS.len {H : Heap} {x : Value} {R : List R2} (h : RS H x R) : ∀ X,ylen 0 X x=some (I R.length):=by
 intro X
 have:=h.s.len
 rw[List.length_map] at this
 obtain⟨p,n,c,rfl⟩:=h.isS
 exact this
theorem RS.at {H : Heap} {x : Value} {R : List R2} (h : RS H x R) {k : Nat} (hk : k<R.length) : ∃ i o,yindexAddr none 2 x (I k)=some (.pointer (some ⟨i,o,none⟩))∧∀ H',Grow H H'→yloadN 2 H' (.pointer (some ⟨i,o,none⟩))=some (.agg ⟨A2 R[k].1 R[k].2⟩)∧yload1 H' (.pointer (some ⟨i,o,none⟩))=some (I R[k].1)∧yload1 H' (.pointer (some ⟨i,o+1,none⟩))=some (I R[k].2):=by
 obtain⟨i,o,h1,h2⟩:=h.s.at2 (by decide) (k:=k) (x:=q2 R[k]) (by simp[hk])
 refine⟨i,o,h1 _,fun H' g=>?_⟩
 obtain⟨a,b⟩:=h2 H' g
 exact⟨a,b 0 _ rfl,b 1 _ rfl⟩
theorem f67_ok (a b : Int) (H : Heap) : Gives Try.prog 67 [.agg ⟨A2 a b⟩] H (.bool (decide (rok (a,b)))):=by
 refine F.entryL rfl dg67 do67 de67 rfl (by kernel_rfl) ?_
 simp only[sets]
 refine V.re [(0,.agg ⟨A2 a b⟩)] (N:=20) zE zY ?_
 intro t hF hA
 simp only[Kn,and_true] at hA
 refine zS ?_
 refine V.l0 ?_
 refine V.heap (fun X=>Grow H X∧Bx X H.next (A2 a b) 49) ⟨?_,?_⟩ ?_
 ·exact zW
 ·exact zB
 rintro H1 ⟨g1,b1⟩
 refine zS ?_
 refine V.draw ?_
 have zf:=b1.2
 refine VD.nz 6 ?_
 simp only[ds]
 first|refine VD.callGt zG (fun hc=>zI) (fun hc=>f73_ok _) (fun hc=>zI) (fun H2 g2=>?_)|refine VD.callGf zG (fun hc=>zI) (fun hc=>f73_ok _) (fun hc=>zI) (fun H2 g2=>?_)
 have b2:=b1.grow g2
 have zf:=b2.2
 refine VD.nz 2 ?_
 simp only[ds]
 first|refine VD.callGt zG (fun hc=>zI) (fun hc=>f60_ok 0 10000 a _) (fun hc=>zI) (fun H3 g3=>?_)|refine VD.callGf zG (fun hc=>zI) (fun hc=>f60_ok 0 10000 a _) (fun hc=>zI) (fun H3 g3=>?_)
 have b3:=b2.grow g3
 have zf:=b3.2
 refine VD.nz 2 ?_
 simp only[ds]
 first|refine VD.callGt zG (fun hc=>zI) (fun hc=>f73_ok _) (fun hc=>zI) (fun H4 g4=>?_)|refine VD.callGf zG (fun hc=>zI) (fun hc=>f73_ok _) (fun hc=>zI) (fun H4 g4=>?_)
 have b4:=b3.grow g4
 have zf:=b4.2
 refine VD.nz 2 ?_
 simp only[ds]
 first|refine VD.callGt zG (fun hc=>zI) (fun hc=>f60_ok 0 10000 b _) (fun hc=>zI) (fun H5 g5=>?_)|refine VD.callGf zG (fun hc=>zI) (fun hc=>f60_ok 0 10000 b _) (fun hc=>zI) (fun H5 g5=>?_)
 have b5:=b4.grow g5
 have m2:=g2.1
 have m3:=g3.1
 have m4:=g4.1
 have m5:=g5.1
 refine VD.d0 ?_ ?_ rfl ?_
 ·exact zM
 ·simp only[dcAll,dcOk,wantD,List.cons_append,List.nil_append,true_and,and_true]
  exact⟨fun hw q hq=>by simp only[wantD,D5,hF,hA,↓reduceIte,qD,qE,beq_iff_eq,decide_eq_false_iff_not,decide_eq_true_eq] at hw;simp only[List.mem_cons,List.not_mem_nil,or_false] at hq;(repeat (rcases hq with rfl|hq;exact⟨_,_,_,rfl,(by simp +contextual (disch:=first|omega|simp only[nx];omega) only[D4,qF,qG,qA,qB,qC,D5,hF,hA,↓reduceIte,qD,qE,if_true,not_false_eq_true,not_true_eq_false,hw,b1.2,b2.2,b3.2,b4.2,b5.2];with_reducible rfl),fun p hp=>by cases hp;simp only[D5,hF,hA,↓reduceIte,qD,qE,hw,if_true,not_false_eq_true];first|exact vEq_An|(simp[vEq,vEq0,all2];done)|assumption⟩));(try (subst hq;exact⟨_,_,_,rfl,(by simp +contextual (disch:=first|omega|simp only[nx];omega) only[D4,qF,qG,qA,qB,qC,D5,hF,hA,↓reduceIte,qD,qE,if_true,not_false_eq_true,not_true_eq_false,hw,b1.2,b2.2,b3.2,b4.2,b5.2];with_reducible rfl),fun p hp=>by cases hp;simp only[D5,hF,hA,↓reduceIte,qD,qE,hw,if_true,not_false_eq_true];first|exact vEq_An|(simp[vEq,vEq0,all2];done)|assumption⟩)),fun hw q hq=>by simp only[wantD,D5,hF,hA,↓reduceIte,qD,qE,beq_iff_eq,decide_eq_false_iff_not,decide_eq_true_eq] at hw;simp only[List.mem_cons,List.not_mem_nil,or_false] at hq;(repeat (rcases hq with rfl|hq;exact⟨_,_,_,rfl,(by simp +contextual (disch:=first|omega|simp only[nx];omega) only[D4,qF,qG,qA,qB,qC,D5,hF,hA,↓reduceIte,qD,qE,if_true,not_false_eq_true,not_true_eq_false,hw,b1.2,b2.2,b3.2,b4.2,b5.2];with_reducible rfl),fun p hp=>by cases hp;simp only[D5,hF,hA,↓reduceIte,qD,qE,hw,if_true,not_false_eq_true];first|exact vEq_An|(simp[vEq,vEq0,all2];done)|assumption⟩));(try (subst hq;exact⟨_,_,_,rfl,(by simp +contextual (disch:=first|omega|simp only[nx];omega) only[D4,qF,qG,qA,qB,qC,D5,hF,hA,↓reduceIte,qD,qE,if_true,not_false_eq_true,not_true_eq_false,hw,b1.2,b2.2,b3.2,b4.2,b5.2];with_reducible rfl),fun p hp=>by cases hp;simp only[D5,hF,hA,↓reduceIte,qD,qE,hw,if_true,not_false_eq_true];first|exact vEq_An|(simp[vEq,vEq0,all2];done)|assumption⟩))⟩
 refine zS ?_
 refine V.ret (V.rets rfl (Lv.retG (by simp +contextual (disch:=first|omega|simp only[nx];omega) only[D1,cells_alloc_at,cells_alloc_ne,cells_set_at,cells_set_ne,yres,yres1,yresL,qA,qB,qC,D5,hF,hA,↓reduceIte,qD,qE];rfl) ?_ ?_))
 ·exact (((g1.trans g2).trans g3).trans g4).trans g5
 ·congr 1
  rw[decide_eq_decide]
  unfold rok
  simp only[and_assoc]
theorem f67_fv (a b : Int) (X : Heap) : FV Try.prog (fn 67) [.agg ⟨A2 a b⟩] X (fun v X'=>v=.bool (decide (rok (a,b)))∧Grow X X'):=f67_ok a b X
theorem f88_ok {H : Heap} {x : Value} {R : List R2} (h : RS H x R) (hn : R.length≤1048576) : Gives Try.prog 88 [x,fn 67] H (.bool (decide (∀ r∈R,rok r))):=by
 have hl:=h.len
 obtain⟨px,nx',cx,rfl⟩:=h.isS
 refine F.entryL rfl dg88 do88 de88 rfl (by kernel_rfl) ?_
 simp only[sets]
 refine V.re [(0,.slice px nx' cx),(1,fn 67)] (N:=18) zE zY ?_
 intro t hF hA
 simp only[Kn,and_true] at hA
 refine zS ?_
 refine V.l0 ?_
 refine zS ?_
 have zf:=@hl
 refine V.lz ?_
 refine zS ?_
 refine V.loop (fun z t mm X=>∃ (k : Nat),k≤R.length∧z=R.length-k∧mm=[]∧Grow H X∧(∀ r∈R.take k,rok r)∧Full 18 t∧Kn [(1,fn 67),(7,.slice px nx' cx),(8,I R.length),(9,I k)] t) R.length ?_ ?_
 ·exact⟨0,by omega,by omega,rfl,.refl _,by simp,zF,zK⟩
 clear hF hA
 rintro z t mm X ⟨k,hk,rfl,rfl,hg,hall,hF,hA⟩
 simp only[Kn,and_true] at hA
 refine zS ?_
 refine V.l0 ?_
 refine zS ?_
 refine V.condP zP (fun hlt=>?_) (fun hlt=>?_)
 ·have hlt' : k<R.length:=by omega
  obtain⟨i,o,h1,h2⟩:=h.at hlt'
  have h3:=(h2 X hg).1
  refine zS ?_
  have zf:=And.intro @h1<|@h3
  refine V.lz ?_
  refine V.heap (fun Y=>Grow X Y∧Bx Y X.next (A2 R[k].1 R[k].2) 49) ⟨?_,?_⟩ ?_
  ·exact zW
  ·exact zB
  rintro X1 ⟨gx,bx⟩
  refine zS ?_
  refine V.run ?_
  have zf:=bx.2
  refine VI.sz 2 ?_
  simp only[ds]
  refine VI.callV (y:=fn 67) zA (by simp only[List.map_cons,List.map_nil,D6,D5,hF,hA,↓reduceIte,qD,qE];exact f67_fv R[k].1 R[k].2 X1) (fun v X2 hv=>?_)
  obtain⟨rfl,g2⟩:=hv
  have hg2:=(hg.trans gx).trans g2
  refine VI.l0 ?_
  refine zS ?_
  refine V.condP zP (fun hb=>?_) (fun hb=>?_)
  ·refine zS ?_
   refine V.l0 ?_
   refine zS ?_
   refine V.ret (V.rets rfl (Or.inr ⟨by simp,V.rets rfl (Lv.retG (by simp +contextual (disch:=first|omega|simp only[nx];omega) only[D1,cells_alloc_at,cells_alloc_ne,cells_set_at,cells_set_ne,yres,yres1,yresL,qA,qB,qC,D5,hF,hA,↓reduceIte,qD,qE];rfl) ?_ ?_)⟩))
   ·exact hg2
   ·congr 1
    exact (decide_eq_false (fun hh=>hb (hh _ (List.getElem_mem hlt')))).symm
  ·refine zS ?_
   refine V.l0 ?_
   refine V.nil (Or.inl ⟨rfl,R.length-(k+1),by omega,?_⟩)
   refine⟨k+1,hlt',rfl,rfl,hg2,?_,zF,zK⟩
   intro v hv
   rw[tk1 hlt'] at hv
   rcases List.mem_append.1 hv with hv|hv
   ·exact hall v hv
   ·rw[List.mem_singleton.1 hv];exact Decidable.not_not.1 hb
 ·obtain rfl : k=R.length:=by omega
  rw[List.take_length] at hall
  refine V.exit ?_
  refine zX ?_
  refine V.nil (Or.inr ⟨by simp,?_⟩)
  refine zX ?_
  refine zS ?_
  refine V.l0 ?_
  refine zS ?_
  refine V.ret (V.rets rfl (Lv.retG (by simp +contextual (disch:=first|omega|simp only[nx];omega) only[D1,cells_alloc_at,cells_alloc_ne,cells_set_at,cells_set_ne,yres,yres1,yresL,qA,qB,qC,D5,hF,hA,↓reduceIte,qD,qE];rfl) ?_ ?_))
  ·exact hg
  ·rw[decide_eq_true hall]
def flr (m S L : Int) (R : List R2) : Int:=if rvalid m S L then (if R.length≤8 then (if ∀ r∈R,rok r then 0 else 2) else 3) else 1
theorem flr_0 {m S L : Int} {R : List R2} : flr m S L R=0↔rvalid m S L∧R.length≤8∧∀ r∈R,rok r:=by
 unfold flr
 by_cases h1 : rvalid m S L
 ·rw[if_pos h1]
  by_cases h2 : R.length≤8
  ·rw[if_pos h2]
   by_cases h3 : ∀ r∈R,rok r
   ·rw[if_pos h3];exact iff_of_true rfl ⟨h1,h2,h3⟩
   ·rw[if_neg h3];exact iff_of_false (by omega) (fun h=>h3 h.2.2)
  ·rw[if_neg h2];exact iff_of_false (by omega) (fun h=>h2 h.2.1)
 ·rw[if_neg h1];exact iff_of_false (by omega) (fun h=>h1 h.1)
theorem f66_ok {H : Heap} {m S L : Int} {x : Value} {R : List R2} (h : RS H x R) : Gives Try.prog 66 [.agg ⟨A3 m S L⟩,x,fn 67] H (I (flr m S L R)):=by
 have hl:=h.len
 obtain⟨px,nx',cx,rfl⟩:=h.isS
 unfold flr
 refine F.entryL rfl dg66 do66 de66 rfl (by kernel_rfl) ?_
 simp only[sets]
 refine V.re [(0,.agg ⟨A3 m S L⟩),(1,.slice px nx' cx),(2,fn 67)] (N:=20) zE zY ?_
 intro t hF hA
 simp only[Kn,and_true] at hA
 refine zS ?_
 refine V.l0 ?_
 refine V.heap (fun X=>Grow H X∧Bx X H.next (A3 m S L) 28) ⟨?_,?_⟩ ?_
 ·exact zW
 ·exact zB
 rintro H1 ⟨g1,b1⟩
 refine zS ?_
 refine V.run ?_
 have zf:=b1.2
 refine VI.sz 1 ?_
 simp only[ds]
 refine VI.callA rfl (f53_ok m S L _) zA (fun H2 g2=>?_)
 have b2:=b1.grow g2
 have g12:=g1.trans g2
 refine VI.l0 ?_
 refine zS ?_
 refine V.condP zP (fun hv=>?_) (fun hv=>?_)
 ·refine zS ?_
  refine V.l0 ?_
  refine zS ?_
  refine V.ret (V.rets rfl (Lv.retG (by simp +contextual (disch:=first|omega|simp only[nx];omega) only[D1,cells_alloc_at,cells_alloc_ne,cells_set_at,cells_set_ne,yres,yres1,yresL,qA,qB,qC,D5,hF,hA,↓reduceIte,qD,qE];rfl) ?_ ?_))
  ·exact g12
  ·rw[if_neg hv]
 ·rw[if_pos (Decidable.not_not.1 hv)]
  refine zS ?_
  have zf:=@hl
  refine V.lz ?_
  refine zS ?_
  refine V.condP zP (fun hn=>?_) (fun hn=>?_)
  ·refine zS ?_
   refine V.l0 ?_
   refine zS ?_
   refine V.ret (V.rets rfl (Lv.retG (by simp +contextual (disch:=first|omega|simp only[nx];omega) only[D1,cells_alloc_at,cells_alloc_ne,cells_set_at,cells_set_ne,yres,yres1,yresL,qA,qB,qC,D5,hF,hA,↓reduceIte,qD,qE];rfl) ?_ ?_))
   ·exact g12
   ·rw[if_neg (by omega)]
  ·rw[if_pos (by omega)]
   refine zS ?_
   refine V.run ?_
   refine VI.s0 2 ?_
   simp only[ds]
   refine VI.callA rfl (f88_ok (h.grow g12) (by omega)) zA (fun H3 g3=>?_)
   refine VI.l0 ?_
   refine zS ?_
   refine V.condP zP (fun ha=>?_) (fun ha=>?_)
   ·refine zS ?_
    refine V.l0 ?_
    refine zS ?_
    refine V.ret (V.rets rfl (Lv.retG (by simp +contextual (disch:=first|omega|simp only[nx];omega) only[D1,cells_alloc_at,cells_alloc_ne,cells_set_at,cells_set_ne,yres,yres1,yresL,qA,qB,qC,D5,hF,hA,↓reduceIte,qD,qE];rfl) ?_ ?_))
    ·exact g12.trans g3
    ·rw[if_neg ha]
   ·refine zS ?_
    refine V.l0 ?_
    refine zS ?_
    refine V.ret (V.rets rfl (Lv.retG (by simp +contextual (disch:=first|omega|simp only[nx];omega) only[D1,cells_alloc_at,cells_alloc_ne,cells_set_at,cells_set_ne,yres,yres1,yresL,qA,qB,qC,D5,hF,hA,↓reduceIte,qD,qE];rfl) ?_ ?_))
    ·exact g12.trans g3
    ·rw[if_pos (Decidable.not_not.1 ha)]
theorem eqn24 {a : Addr} {n c : Nat} : xbinOp Try.prog .eql 24 (.slice (some a) n c) (.slice none 0 0)=some (.bool false):=by
 unfold xbinOp xeqNil
 simp only[Try.underlying24]
 rfl
theorem f100_ok {H : Heap} {a : Addr} {n c : Nat} {l : List Int} (h : LS H (.slice (some a) n c) l) (hn : l.length≤1048576) : F Try.prog 100 ⟨[.slice (some a) n c]⟩ H (fun v X=>Grow H X∧Ow H X 3 v (Li l)):=by
 have gh : Grow H (H.alloc (.cells ⟨[]⟩ 3 true)):=(Grow.refl H).alloc _
 obtain⟨w,H',k1,k2,k3,k4⟩:=Ow.append (H0:=H) (e:=3) (bytes:=8) (s:=.slice (some ⟨H.next,0,none⟩) 0 0) (l:=[]) gh (.inr ⟨H.next,Nat.le_refl _,Nat.lt_succ_self _,rfl,cells_alloc _ _ _ _⟩) (h.s.grow gh) (Li_ok l) (by simp[Li_len];omega) (by simp[Li_len];omega)
 rw[List.nil_append] at k2
 have e:=@eqn24 a n c
 refine F.entryL rfl dg100 do100 de100 rfl (by kernel_rfl) ?_
 simp only[sets]
 refine V.re [(0,.slice (some a) n c)] (N:=8) zE zY ?_
 intro t hF hA
 simp only[Kn,and_true] at hA
 refine zS ?_
 refine V.l0 ?_
 refine zS ?_
 have zf:=@e
 refine V.lz ?_
 refine zS ?_
 refine V.condF zA ?_
 refine zS ?_
 have zf:=@k1
 refine V.lz ?_
 refine zS ?_
 refine V.ret (V.rets rfl (Lv.retF (by simp +contextual (disch:=first|omega|simp only[nx];omega) only[D1,cells_alloc_at,cells_alloc_ne,cells_set_at,cells_set_ne,yres,yres1,yresL,qA,qB,qC,D5,hF,hA,↓reduceIte,qD,qE];rfl) ?_))
 exact⟨k3,k2⟩
theorem f89_ok {H : Heap} {x : Value} {l : List Int} {p : Nat} {n : Int} (h : LS H x l) (hp : p<l.length) (hn : l.length≤1048576) : F Try.prog 89 ⟨[x,I p,I n]⟩ H (fun v X=>Grow H X∧LS X v (l.set p n)):=by
 obtain⟨px,nx',cx,rfl⟩:=h.s.isS
 have hl0:=h.len H
 obtain⟨a,rfl⟩ : ∃ a,px=some a:=by
  cases px with
  | some a=>exact⟨a,rfl⟩
  | none=>
   exfalso
   have hs:=h.s
   generalize hLi : Li l=y at hs
   cases hs
   have:=congrArg List.length hLi
   rw[Li_len,List.length_nil] at this
   omega
 have hLl : Li l≠[]:=fun e=>by
  have:=congrArg List.length e
  rw[Li_len,List.length_nil] at this
  omega
 refine F.entryL rfl dg89 do89 de89 rfl (by kernel_rfl) ?_
 simp only[sets]
 refine V.re [(0,.slice (some a) nx' cx),(1,I p),(2,I n)] (N:=14) zE zY ?_
 intro t hF hA
 simp only[Kn,and_true] at hA
 refine zS ?_
 refine V.l0 ?_
 refine zS ?_
 refine V.run ?_
 refine VI.s0 1 ?_
 simp only[ds]
 refine VI.callR zA (f100_ok h hn) zA (fun w1 H1 ⟨g1,o1⟩=>?_)
 rcases o1 with⟨_,e⟩|⟨ix,ix1,ix2,rfl,ix3⟩
 ·exact absurd e hLl
 rw[Li_len]
 have oi:=own_idx (y:=ix) (c:=l.length) hp
 have hLs:=Li_set l p n
 refine VI.l0 ?_
 refine zS ?_
 have zf:=And.intro @oi<|And.intro @ix3<|And.intro @Li_len<|And.intro @hp<|@hLs
 refine V.lz ?_
 refine zS ?_
 refine V.l0 ?_
 refine zS ?_
 refine V.ret (V.rets rfl (Lv.retF (by simp +contextual (disch:=first|omega|simp only[nx];omega) only[D1,cells_alloc_at,cells_alloc_ne,cells_set_at,cells_set_ne,yres,yres1,yresL,qA,qB,qC,D5,hF,hA,↓reduceIte,qD,qE];rfl) ?_))
 refine⟨g1.set (by omega) _,?_⟩
 exact ow_ls (H0:=H) (.inr ⟨ix,ix1,ix2,by rw[Li_len,List.length_set],cells_set _ _ _ _ _⟩)
def bLo (m S L : Int) (R : List R2) (p : Nat) : Int:=(otc m S (vl L ((R.map (·.2)).set p (gl0 (R.map (·.1)) p)))).1 p
def bHi (m S L : Int) (R : List R2) (p : Nat) : Int:=(otc m S (vl L ((R.map (·.1)).set p (gl0 (R.map (·.2)) p)))).2 p
def bnd (m S L : Int) (R : List R2) (k : Nat) : List R2:=(List.range k).map fun p=>(bLo m S L R p,bHi m S L R p)
theorem bnd_len {m S L : Int} {R : List R2} {k : Nat} : (bnd m S L R k).length=k:=by simp[bnd]
theorem bnd_1 {m S L : Int} {R : List R2} {k : Nat} : bnd m S L R (k+1)=bnd m S L R k++[(bLo m S L R k,bHi m S L R k)]:=by simp[bnd,List.range_succ]
theorem q2_w {R : List R2} : ∀ x∈R.map q2,x.length=2:=by
 intro x hx
 obtain⟨r,_,rfl⟩:=List.mem_map.1 hx
 rfl
end Go.Xe.TVX
