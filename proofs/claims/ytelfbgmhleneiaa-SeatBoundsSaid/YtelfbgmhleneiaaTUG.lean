/- What the functions of the layer seat come to: SeatVotes. Conditions: none. -/
import Derived.Test.YtelfbgmhleneiaaTVL
-- MOD TV
namespace Go.Xe.TVX
open Go Go.Xe Go.Proofs
open Nat renaming reduceLeDiff → qA, reduceSub → qB, reduceAdd → qC, reduceEqDiff → qD, reduceLT → qE
open Int renaming reduceNegSucc → qF, reduceEq → qG
open Go.Xe.V renaming seq → sA, block → sB, scope → sC, skip → sD, close → sE
open Go.Xe renaming pth → P
open Go.Xe.Sea
set_option maxRecDepth 100000
set_option maxHeartbeats 3200000
set_option linter.unusedSimpArgs false
theorem own_idx {y n c g : Nat} (h : g<n) : yindexAddr none 1 (.slice (some ⟨y,0,none⟩) n c) (I (g : Nat))=some (.pointer (some ⟨y,g,none⟩)):=by
 simp only[yindexAddr]
 rw[if_pos ⟨by omega,by omega⟩]
 simp
theorem Li_set (l : List Int) (k : Nat) (y : Int) : (Li l).set k (I y)=Li (l.set k y):=by simp[Li,List.map_set]
theorem gl0_set {l : List Int} {k : Nat} (hk : k<l.length) (y : Int) (q : Nat) : gl0 (l.set k y) q=if q=k then y else gl0 l q:=by
 unfold gl0
 rw[List.getD_eq_getElem?_getD,List.getElem?_set]
 by_cases h : k=q
 ·subst h;rw[if_pos rfl,if_pos hk,if_pos rfl];rfl
 ·rw[if_neg h,if_neg (fun e=>h e.symm),List.getD_eq_getElem?_getD]
theorem adm_le {L a b : Int} (h : a≤b) (hb : 0≤b) : (if adm L a then a else 0)≤if adm L b then b else 0:=by
 by_cases h1 : adm L a
 ·have h2 : adm L b:=⟨by have:=h1.1;omega,by have:=h1.2;omega⟩
  rw[if_pos h1,if_pos h2];exact h
 ·rw[if_neg h1]
  split<;>omega
end Go.Xe.TVX
/- What the functions of the layer seat come to: one seat more. Conditions: none. -/
-- MOD TV
namespace Go.Xe.TVX
open Go Go.Xe Go.Proofs
open Nat renaming reduceLeDiff → qA, reduceSub → qB, reduceAdd → qC, reduceEqDiff → qD, reduceLT → qE
open Int renaming reduceNegSucc → qF, reduceEq → qG
open Go.Xe.V renaming seq → sA, block → sB, scope → sC, skip → sD, close → sE
open Go.Xe renaming pth → P
open Go.Xe.Sea
set_option maxRecDepth 100000
set_option maxHeartbeats 3200000
set_option linter.unusedSimpArgs false
end Go.Xe.TVX
/- What the functions of the layer seat come to: SeatHouse. Conditions: none. -/
-- MOD TV
namespace Go.Xe.TVX
open Go Go.Xe Go.Proofs
open Nat renaming reduceLeDiff → qA, reduceSub → qB, reduceAdd → qC, reduceEqDiff → qD, reduceLT → qE
open Int renaming reduceNegSucc → qF, reduceEq → qG
open Go.Xe.V renaming seq → sA, block → sB, scope → sC, skip → sD, close → sE
open Go.Xe renaming pth → P
open Go.Xe.Sea
set_option maxRecDepth 100000
set_option maxHeartbeats 3200000
set_option linter.unusedSimpArgs false
end Go.Xe.TVX
/- What the functions of the layer seat come to: SeatHouse. Conditions: none. -/
-- MOD TV
namespace Go.Xe.TVX
open Go Go.Xe Go.Proofs
open Nat renaming reduceLeDiff → qA, reduceSub → qB, reduceAdd → qC, reduceEqDiff → qD, reduceLT → qE
open Int renaming reduceNegSucc → qF, reduceEq → qG
open Go.Xe.V renaming seq → sA, block → sB, scope → sC, skip → sD, close → sE
open Go.Xe renaming pth → P
open Go.Xe.Sea
set_option maxRecDepth 100000
set_option maxHeartbeats 3200000
set_option linter.unusedSimpArgs false
end Go.Xe.TVX
/- What the functions of the layer seat come to: shares, rounded down and up. Conditions: none. -/
-- MOD TV
namespace Go.Xe.TVX
open Go Go.Xe Go.Proofs
open Nat renaming reduceLeDiff → qA, reduceSub → qB, reduceAdd → qC, reduceEqDiff → qD, reduceLT → qE
open Int renaming reduceNegSucc → qF, reduceEq → qG
open Go.Xe.V renaming seq → sA, block → sB, scope → sC, skip → sD, close → sE
open Go.Xe renaming pth → P
open Go.Xe.Sea
set_option maxRecDepth 100000
set_option maxHeartbeats 3200000
set_option linter.unusedSimpArgs false
end Go.Xe.TVX
/- What the functions of the layer seat come to: SeatQuotas. Conditions: none. -/
-- MOD TV
namespace Go.Xe.TVX
open Go Go.Xe Go.Proofs
open Nat renaming reduceLeDiff → qA, reduceSub → qB, reduceAdd → qC, reduceEqDiff → qD, reduceLT → qE
open Int renaming reduceNegSucc → qF, reduceEq → qG
open Go.Xe.V renaming seq → sA, block → sB, scope → sC, skip → sD, close → sE
open Go.Xe renaming pth → P
open Go.Xe.Sea
set_option maxRecDepth 100000
set_option maxHeartbeats 3200000
set_option linter.unusedSimpArgs false
end Go.Xe.TVX
/- What the functions of the layer seat come to: SeatTimes. Conditions: none. -/
-- MOD TV
namespace Go.Xe.TVX
open Go Go.Xe Go.Proofs
open Nat renaming reduceLeDiff → qA, reduceSub → qB, reduceAdd → qC, reduceEqDiff → qD, reduceLT → qE
open Int renaming reduceNegSucc → qF, reduceEq → qG
open Go.Xe.V renaming seq → sA, block → sB, scope → sC, skip → sD, close → sE
open Go.Xe renaming pth → P
open Go.Xe.Sea
set_option maxRecDepth 100000
set_option maxHeartbeats 3200000
set_option linter.unusedSimpArgs false
theorem qlt_scale {a b : Q2} {k : Int} (hk : 0<k) : qlt (k*a.1,a.2) (k*b.1,b.2)↔qlt a b:=by
 unfold qlt
 simp only
 split
 ·exact⟨fun h=>Int.lt_of_mul_lt_mul_left h (Int.le_of_lt hk),fun h=>Int.mul_lt_mul_of_pos_left h hk⟩
 ·rw[Int.mul_assoc,Int.mul_assoc]
  exact⟨fun h=>Int.lt_of_mul_lt_mul_left h (Int.le_of_lt hk),fun h=>Int.mul_lt_mul_of_pos_left h hk⟩
end Go.Xe.TVX
/- What the functions of the layer seat come to: SeatQuota. Conditions: none. -/
-- MOD TV
namespace Go.Xe.TVX
open Go Go.Xe Go.Proofs
open Nat renaming reduceLeDiff → qA, reduceSub → qB, reduceAdd → qC, reduceEqDiff → qD, reduceLT → qE
open Int renaming reduceNegSucc → qF, reduceEq → qG
open Go.Xe.V renaming seq → sA, block → sB, scope → sC, skip → sD, close → sE
open Go.Xe renaming pth → P
open Go.Xe.Sea
set_option maxRecDepth 100000
set_option maxHeartbeats 3200000
set_option linter.unusedSimpArgs false
end Go.Xe.TVX
/- What the functions of the layer seat come to: SeatQuota. Conditions: none. -/
-- MOD TV
namespace Go.Xe.TVX
open Go Go.Xe Go.Proofs
open Nat renaming reduceLeDiff → qA, reduceSub → qB, reduceAdd → qC, reduceEqDiff → qD, reduceLT → qE
open Int renaming reduceNegSucc → qF, reduceEq → qG
open Go.Xe.V renaming seq → sA, block → sB, scope → sC, skip → sD, close → sE
open Go.Xe renaming pth → P
open Go.Xe.Sea
set_option maxRecDepth 100000
set_option maxHeartbeats 3200000
set_option linter.unusedSimpArgs false
theorem sm_ub {s : Nat→Int} {b : Int} : ∀ {n : Nat},(∀ p,p<n→0≤s p∧s p≤b)→0≤sm s n∧sm s n≤b*n
 | 0,_=>by simp[sm]
 | n+1,h=>by
  have h1:=sm_ub (s:=s) (b:=b) (n:=n) (fun p hp=>h p (by omega))
  have h2:=h n (by omega)
  simp only[sm]
  have e : b*((n+1 : Nat) : Int)=b*n+b:=by
   have : ((n+1 : Nat) : Int)=(n : Int)+1:=by omega
   rw[this,Int.mul_add];omega
  rw[e];omega
end Go.Xe.TVX
/- What the functions of the layer seat come to: whether seats are a result. Conditions: none. -/
-- MOD TV
namespace Go.Xe.TVX
open Go Go.Xe Go.Proofs
open Nat renaming reduceLeDiff → qA, reduceSub → qB, reduceAdd → qC, reduceEqDiff → qD, reduceLT → qE
open Int renaming reduceNegSucc → qF, reduceEq → qG
open Go.Xe.V renaming seq → sA, block → sB, scope → sC, skip → sD, close → sE
open Go.Xe renaming pth → P
open Go.Xe.Sea
set_option maxRecDepth 100000
set_option maxHeartbeats 3200000
set_option linter.unusedSimpArgs false
def due (S : Int) (v : Nat→Int) : Int:=if sm v 8=0 then 0 else S
def gal (S : Int) (v s : Nat→Int) : Prop:=(∀ p,p<8→¬ (0<s p∧v p=0))∧sm s 8=due S v
instance (v s : Nat→Int) : Decidable (∀ p,p<8→¬ (0<s p∧v p=0)):=Nat.decidableBallLT 8 fun p _=>¬ (0<s p∧v p=0)
instance (S : Int) (v s : Nat→Int) : Decidable (gal S v s):=by unfold gal;infer_instance
def fu (m S : Int) (v s : Nat→Int) : Nat→Q2
 | 0=>(0,1)
 | k+1=>if qlt (fu m S v s k) (lw (clq m S v (pix v k) (s (pix v k)))) then lw (clq m S v (pix v k) (s (pix v k))) else fu m S v s k
def la (m S : Int) (v s : Nat→Int) : Nat→Q2
 | 0=>(100000000,0)
 | k+1=>if 0<s (pix v k) then (if qlt (la m S v s k) (lw (clq m S v (pix v k) (s (pix v k)-1))) then la m S v s k else lw (clq m S v (pix v k) (s (pix v k)-1))) else la m S v s k
def jr (m S : Int) (v s : Nat→Int) : Prop:=if gal S v s∧¬ due S v=0 then ¬ qlt (la m S v s (adl v 8).length) (fu m S v s (adl v 8).length) else gal S v s
def jo (m S : Int) (v s : Nat→Int) : Prop:=if gal S v s∧¬ due S v=0 then qlt (fu m S v s (adl v 8).length) (la m S v s (adl v 8).length) else gal S v s
instance (m S : Int) (v s : Nat→Int) : Decidable (jr m S v s):=by unfold jr;infer_instance
instance (m S : Int) (v s : Nat→Int) : Decidable (jo m S v s):=by unfold jo;infer_instance
end Go.Xe.TVX
/- What the functions of the layer seat come to: ProveSeats, and SeatAll. Conditions: none. -/
-- MOD TV
namespace Go.Xe.TVX
open Go Go.Xe Go.Proofs
open Nat renaming reduceLeDiff → qA, reduceSub → qB, reduceAdd → qC, reduceEqDiff → qD, reduceLT → qE
open Int renaming reduceNegSucc → qF, reduceEq → qG
open Go.Xe.V renaming seq → sA, block → sB, scope → sC, skip → sD, close → sE
open Go.Xe renaming pth → P
open Go.Xe.Sea
set_option maxRecDepth 100000
set_option maxHeartbeats 3200000
set_option linter.unusedSimpArgs false
def PRV (m S L : Int) (l st : List Int) : Prop:=flt m S L l=0∧st.length=l.length∧(∀ x∈st,0≤x∧x≤S)∧jr m S (vl L l) (gl0 st)
instance (m S L : Int) (l st : List Int) : Decidable (PRV m S L l st):=by unfold PRV;infer_instance
end Go.Xe.TVX
/- What the functions of the layer seat come to: SeatAll. Conditions: none. -/
-- MOD TV
namespace Go.Xe.TVX
open Go Go.Xe Go.Proofs
open Nat renaming reduceLeDiff → qA, reduceSub → qB, reduceAdd → qC, reduceEqDiff → qD, reduceLT → qE
open Int renaming reduceNegSucc → qF, reduceEq → qG
open Go.Xe.V renaming seq → sA, block → sB, scope → sC, skip → sD, close → sE
open Go.Xe renaming pth → P
open Go.Xe.Sea
set_option maxRecDepth 100000
set_option maxHeartbeats 3200000
set_option linter.unusedSimpArgs false
end Go.Xe.TVX
/- What the functions of the layer seat come to: claims. Conditions: none. -/
-- MOD TV
namespace Go.Xe.TVX
open Go Go.Xe Go.Proofs
open Nat renaming reduceLeDiff → qA, reduceSub → qB, reduceAdd → qC, reduceEqDiff → qD, reduceLT → qE
open Int renaming reduceNegSucc → qF, reduceEq → qG
open Go.Xe.V renaming seq → sA, block → sB, scope → sC, skip → sD, close → sE
open Go.Xe renaming pth → P
open Go.Xe.Sea
set_option maxRecDepth 100000
set_option maxHeartbeats 3200000
set_option linter.unusedSimpArgs false
noncomputable def d70 : FCode:=(.seq (.run (.go (.alloc 101 [(.int .i64 (.ofNat 0)),(.int .i64 (.ofNat 0))]) (P 6)::
[])) (.seq (.seq (.run (.go (.move (tm 0)) (P 7)::
[])) (.block 0 (.seq (.run (.go (.bin .eql 5 (tm 7) (.con (.int .u8 (.ofNat 1)))) (P 9)::
.go (.move (tm 9)) (P 8)::
[])) (.cond (tm 8) (.seq (.run (.go (.move (tm 1)) (P 10)::
.go (.move (tm 2)) (P 11)::
.go (.build [(.int .i64 (.ofNat 0)),(.int .i64 (.ofNat 0))] [(0,1,(tm 10)),(1,1,(tm 11))]) (P 12)::
.un (.store 2 (tm 6) (tm 12))::
[])) .ret) (.seq (.run (.go (.bin .eql 5 (tm 7) (.con (.int .u8 (.ofNat 2)))) (P 14)::
.go (.move (tm 14)) (P 13)::
[])) (.cond (tm 13) (.seq (.run (.go (.move (tm 1)) (P 15)::
.go (.move (tm 2)) (P 16)::
.go (.bin .add 3 (tm 16) (.con (.int .i64 (.ofNat 1)))) (P 17)::
.go (.build [(.int .i64 (.ofNat 0)),(.int .i64 (.ofNat 0))] [(0,1,(tm 15)),(1,1,(tm 17))]) (P 18)::
.un (.store 2 (tm 6) (tm 18))::
[])) .ret) (.seq (.run (.go (.bin .eql 5 (tm 7) (.con (.int .u8 (.ofNat 3)))) (P 20)::
.go (.move (tm 20)) (P 19)::
[])) (.cond (tm 19) (.seq (.run (.go (.move (tm 1)) (P 21)::
.go (.move (tm 2)) (P 22)::
.go (.bin .mul 3 (.con (.int .i64 (.ofNat 2))) (tm 22)) (P 23)::
.go (.bin .add 3 (tm 23) (.con (.int .i64 (.ofNat 1)))) (P 24)::
.go (.build [(.int .i64 (.ofNat 0)),(.int .i64 (.ofNat 0))] [(0,1,(tm 21)),(1,1,(tm 24))]) (P 25)::
.un (.store 2 (tm 6) (tm 25))::
[])) .ret) .skip)))))))) (.seq (.seq (.run (.go (.move (tm 2)) (P 26)::
.go (.bin .eql 3 (tm 26) (.con (.int .i64 (.ofNat 0)))) (P 27)::
[])) (.cond (tm 27) (.seq (.run (.go (.move (tm 1)) (P 28)::
.go (.build [(.int .i64 (.ofNat 0)),(.int .i64 (.ofNat 0))] [(0,1,(tm 28)),(1,1,(.con (.int .i64 (.ofNat 0))))]) (P 29)::
.un (.store 2 (tm 6) (tm 29))::
[])) .ret) .skip)) (.seq (.run (.go (.move (tm 1)) (P 30)::
.go (.move (tm 1)) (P 31)::
.go (.bin .mul 3 (tm 30) (tm 31)) (P 32)::
.go (.move (tm 2)) (P 33)::
.go (.move (tm 2)) (P 34)::
.go (.bin .add 3 (tm 34) (.con (.int .i64 (.ofNat 1)))) (P 35)::
.go (.bin .mul 3 (tm 33) (tm 35)) (P 36)::
.go (.build [(.int .i64 (.ofNat 0)),(.int .i64 (.ofNat 0))] [(0,1,(tm 32)),(1,1,(tm 36))]) (P 37)::
.un (.store 2 (tm 6) (tm 37))::
[])) .ret))))
theorem de70 : @compF Try.prog (Gl.none Try.prog) Try.f70 3=.mk d70 (mkTT 38) [(P 0),(P 1),(P 2)] [.many (P 6) 2]:=by kernel_rfl
theorem dg70 : Try.prog.funcs[70]?=some Try.f70:=Try.func70
theorem do70 : okF Try.prog Try.f70=true:=by kernel_rfl
noncomputable def d71 : FCode:=(.seq (.run (.go (.box 101 (tm 0)) (P 2)::
.go (.box 101 (tm 1)) (P 3)::
.go (.move (.con (.bool false))) (P 4)::
[])) (.seq (.block 0 (.seq (.run (.go (.fieldAddr 1 (tm 2)) (P 6)::
.go (.load1 (tm 6)) (P 7)::
.go (.bin .eql 3 (tm 7) (.con (.int .i64 (.ofNat 0)))) (P 8)::
.go (.move (tm 8)) (P 9)::
.gd (P 9) true (.fieldAddr 1 (tm 3)) (P 10)::
.gd (P 9) true (.load1 (tm 10)) (P 11)::
.gd (P 9) true (.bin .eql 3 (tm 11) (.con (.int .i64 (.ofNat 0)))) (P 12)::
.go (.pick (tm 9) (tm 12) (.con (.bool false))) (P 13)::
.go (.move (tm 13)) (P 5)::
[])) (.cond (tm 5) (.seq (.run (.go (.fieldAddr 0 (tm 2)) (P 14)::
.go (.load1 (tm 14)) (P 15)::
.go (.fieldAddr 0 (tm 3)) (P 16)::
.go (.load1 (tm 16)) (P 17)::
.go (.bin .gtr 3 (tm 15) (tm 17)) (P 18)::
.go (.move (tm 18)) (P 4)::
[])) .ret) (.seq (.run (.go (.fieldAddr 1 (tm 2)) (P 20)::
.go (.load1 (tm 20)) (P 21)::
.go (.bin .eql 3 (tm 21) (.con (.int .i64 (.ofNat 0)))) (P 22)::
.go (.move (tm 22)) (P 19)::
[])) (.cond (tm 19) (.seq (.run (.go (.move (.con (.bool true))) (P 4)::
[])) .ret) (.seq (.run (.go (.fieldAddr 1 (tm 3)) (P 24)::
.go (.load1 (tm 24)) (P 25)::
.go (.bin .eql 3 (tm 25) (.con (.int .i64 (.ofNat 0)))) (P 26)::
.go (.move (tm 26)) (P 23)::
[])) (.cond (tm 23) (.seq (.run (.go (.move (.con (.bool false))) (P 4)::
[])) .ret) .skip))))))) (.seq (.run (.go (.fieldAddr 0 (tm 2)) (P 27)::
.go (.load1 (tm 27)) (P 28)::
.go (.fieldAddr 1 (tm 3)) (P 29)::
.go (.load1 (tm 29)) (P 30)::
.go (.bin .mul 3 (tm 28) (tm 30)) (P 31)::
.go (.fieldAddr 0 (tm 3)) (P 32)::
.go (.load1 (tm 32)) (P 33)::
.go (.fieldAddr 1 (tm 2)) (P 34)::
.go (.load1 (tm 34)) (P 35)::
.go (.bin .mul 3 (tm 33) (tm 35)) (P 36)::
.go (.bin .gtr 3 (tm 31) (tm 36)) (P 37)::
.go (.move (tm 37)) (P 4)::
[])) .ret)))
theorem de71 : @compF Try.prog (Gl.none Try.prog) Try.f71 2=.mk d71 (mkTT 38) [(P 0),(P 1)] [.tmp (P 4)]:=by kernel_rfl
theorem dg71 : Try.prog.funcs[71]?=some Try.f71:=Try.func71
theorem do71 : okF Try.prog Try.f71=true:=by kernel_rfl
def ofq (m c s : Int) : Q2:=if m=1 then (c,s) else if m=2 then (c,s+1) else if m=3 then (c,2*s+1) else if s=0 then (c,0) else (c*c,s*(s+1))
theorem f70_ok {H : Heap} {m c s : Int} (hc : 0≤c∧c≤10000) : F Try.prog 70 ⟨[.int .u8 m,I c,I s]⟩ H (fun w X=>Grow H X∧∃ a,w=Qv a∧(0≤s∧s≤100→a=ofq m c s)):=by
 have hq:=sq_bd hc
 refine F.entryL rfl dg70 do70 de70 rfl (by kernel_rfl) ?_
 simp only[sets]
 refine V.re [(0,.int .u8 m),(1,I c),(2,I s)] (N:=38) zE zY ?_
 intro t hF hA
 simp only[Kn,and_true] at hA
 refine zS ?_
 refine V.l0 ?_
 refine V.heap (fun X=>Grow H X∧Bx X H.next (A2 0 0) 101) ⟨?_,?_⟩ ?_
 ·exact zW
 ·exact zB
 rintro H1 ⟨g1,b1⟩
 refine zS ?_
 refine V.l0 ?_
 refine zS ?_
 refine V.l0 ?_
 refine zS ?_
 unfold ofq
 refine V.condP zP (fun h1=>?_) (fun h1=>?_)
 ·refine zS ?_
  have zf:=b1.2
  refine V.lz ?_
  refine zS ?_
  refine V.ret (V.rets rfl (Lv.retF (by simp +contextual (disch:=first|omega|simp only[nx];omega) only[D1,cells_alloc_at,cells_alloc_ne,cells_set_at,cells_set_ne,yres,yres1,yresL,qA,qB,qC,D5,hF,hA,↓reduceIte,qD,qE];rfl) ?_))
  exact⟨g1.set (Nat.le_refl _) _,(c,s),rfl,fun _=>by rw[if_pos h1]⟩
 rw[if_neg h1]
 refine zS ?_
 refine V.l0 ?_
 refine zS ?_
 refine V.condP zP (fun h2=>?_) (fun h2=>?_)
 ·refine zS ?_
  have zf:=b1.2
  refine V.lz ?_
  refine zS ?_
  refine V.ret (V.rets rfl (Lv.retF (by simp +contextual (disch:=first|omega|simp only[nx];omega) only[D1,cells_alloc_at,cells_alloc_ne,cells_set_at,cells_set_ne,yres,yres1,yresL,qA,qB,qC,D5,hF,hA,↓reduceIte,qD,qE];rfl) ?_))
  refine⟨g1.set (Nat.le_refl _) _,(c,IntKind.i64.wrap (s+1)),rfl,fun hs=>?_⟩
  rw[if_pos h2,wrap_i64 (by omega) (by omega)]
 rw[if_neg h2]
 refine zS ?_
 refine V.l0 ?_
 refine zS ?_
 refine V.condP zP (fun h3=>?_) (fun h3=>?_)
 ·refine zS ?_
  have zf:=b1.2
  refine V.lz ?_
  refine zS ?_
  refine V.ret (V.rets rfl (Lv.retF (by simp +contextual (disch:=first|omega|simp only[nx];omega) only[D1,cells_alloc_at,cells_alloc_ne,cells_set_at,cells_set_ne,yres,yres1,yresL,qA,qB,qC,D5,hF,hA,↓reduceIte,qD,qE];rfl) ?_))
  refine⟨g1.set (Nat.le_refl _) _,(c,IntKind.i64.wrap (IntKind.i64.wrap (2*s)+1)),rfl,fun hs=>?_⟩
  have e : IntKind.i64.wrap (2*s)=2*s:=wrap_i64 (by omega) (by omega)
  rw[if_pos h3,e,wrap_i64 (by omega) (by omega)]
 rw[if_neg h3]
 refine zS ?_
 refine V.l0 ?_
 refine zS ?_
 refine V.condP zP (fun h0=>?_) (fun h0=>?_)
 ·refine zS ?_
  have zf:=b1.2
  refine V.lz ?_
  refine zS ?_
  refine V.ret (V.rets rfl (Lv.retF (by simp +contextual (disch:=first|omega|simp only[nx];omega) only[D1,cells_alloc_at,cells_alloc_ne,cells_set_at,cells_set_ne,yres,yres1,yresL,qA,qB,qC,D5,hF,hA,↓reduceIte,qD,qE];rfl) ?_))
  exact⟨g1.set (Nat.le_refl _) _,(c,0),rfl,fun _=>by rw[if_pos h0]⟩
 refine zS ?_
 have zf:=b1.2
 refine V.lz ?_
 refine zS ?_
 refine V.ret (V.rets rfl (Lv.retF (by simp +contextual (disch:=first|omega|simp only[nx];omega) only[D1,cells_alloc_at,cells_alloc_ne,cells_set_at,cells_set_ne,yres,yres1,yresL,qA,qB,qC,D5,hF,hA,↓reduceIte,qD,qE];rfl) ?_))
 refine⟨g1.set (Nat.le_refl _) _,(c*c,IntKind.i64.wrap (s*IntKind.i64.wrap (s+1))),rfl,fun hs=>?_⟩
 have hb : 0≤s*(s+1)∧s*(s+1)≤100*101:=⟨Int.mul_nonneg hs.1 (by omega),Int.mul_le_mul hs.2 (by omega) (by omega) (by omega)⟩
 have e : IntKind.i64.wrap (s+1)=s+1:=wrap_i64 (by omega) (by omega)
 rw[if_neg h0,e,wrap_i64 (by omega) (by omega)]
theorem f71_ok {H : Heap} {a b : Q2} : F Try.prog 71 ⟨[Qv a,Qv b]⟩ H (fun w X=>Grow H X∧∃ r,w=.bool r∧(qok a→qok b→qb a→qb b→r=decide (qlt b a))):=by
 refine F.entryL rfl dg71 do71 de71 rfl (by kernel_rfl) ?_
 simp only[sets]
 refine V.re [(0,Qv a),(1,Qv b)] (N:=38) zE zY ?_
 intro t hF hA
 simp only[Kn,and_true] at hA
 refine zS ?_
 refine V.l0 ?_
 refine V.heap (fun X=>Grow H X∧Bx X H.next (A2 a.1 a.2) 101∧Bx X (H.next+1) (A2 b.1 b.2) 101) ⟨?_,?_,?_⟩ ?_
 ·exact zW
 ·exact zB
 ·exact zB
 rintro H1 ⟨g1,b1,c1⟩
 refine zS ?_
 have zf:=And.intro b1.2<|c1.2
 refine V.lz ?_
 refine zS ?_
 refine V.condP zP (fun h1=>?_) (fun h1=>?_)
 ·refine zS ?_
  have zf:=And.intro b1.2<|c1.2
  refine V.lz ?_
  refine zS ?_
  refine V.ret (V.rets rfl (Lv.retF (by simp +contextual (disch:=first|omega|simp only[nx];omega) only[D1,cells_alloc_at,cells_alloc_ne,cells_set_at,cells_set_ne,yres,yres1,yresL,qA,qB,qC,D5,hF,hA,↓reduceIte,qD,qE];rfl) ?_))
  refine⟨g1,_,rfl,fun _ _ _ _=>?_⟩
  rw[decide_eq_decide,qlt_z h1.2 h1.1]
 refine zS ?_
 have zf:=b1.2
 refine V.lz ?_
 refine zS ?_
 refine V.condP zP (fun h2=>?_) (fun h2=>?_)
 ·refine zS ?_
  refine V.l0 ?_
  refine zS ?_
  refine V.ret (V.rets rfl (Lv.retF (by simp +contextual (disch:=first|omega|simp only[nx];omega) only[D1,cells_alloc_at,cells_alloc_ne,cells_set_at,cells_set_ne,yres,yres1,yresL,qA,qB,qC,D5,hF,hA,↓reduceIte,qD,qE];rfl) ?_))
  refine⟨g1,_,rfl,fun oa ob _ _=>?_⟩
  exact (decide_eq_true (qlt_nzz (fun hb=>h1 ⟨h2,hb⟩) h2 ob oa)).symm
 refine zS ?_
 have zf:=c1.2
 refine V.lz ?_
 refine zS ?_
 refine V.condP zP (fun h3=>?_) (fun h3=>?_)
 ·refine zS ?_
  refine V.l0 ?_
  refine zS ?_
  refine V.ret (V.rets rfl (Lv.retF (by simp +contextual (disch:=first|omega|simp only[nx];omega) only[D1,cells_alloc_at,cells_alloc_ne,cells_set_at,cells_set_ne,yres,yres1,yresL,qA,qB,qC,D5,hF,hA,↓reduceIte,qD,qE];rfl) ?_))
  refine⟨g1,_,rfl,fun oa ob _ _=>?_⟩
  exact (decide_eq_false (qlt_zn h3 h2 ob oa)).symm
 refine zS ?_
 have zf:=And.intro b1.2<|c1.2
 refine V.lz ?_
 refine zS ?_
 refine V.ret (V.rets rfl (Lv.retF (by simp +contextual (disch:=first|omega|simp only[nx];omega) only[D1,cells_alloc_at,cells_alloc_ne,cells_set_at,cells_set_ne,yres,yres1,yresL,qA,qB,qC,D5,hF,hA,↓reduceIte,qD,qE];rfl) ?_))
 refine⟨g1,decide (IntKind.i64.wrap (b.1*a.2)<IntKind.i64.wrap (a.1*b.2)),rfl,fun oa ob ba bb=>?_⟩
 have e1:=mul_bd ba.1 bb.2
 have e2:=mul_bd bb.1 ba.2
 rw[wrap_i64 (by omega) (by omega),wrap_i64 (by omega) (by omega),decide_eq_decide,qlt_nz (fun h=>h2 h.2)]
theorem ofq_ok {m c s : Int} (hc : 0<c) (hs : 0≤s) : qok (ofq m c s):=by
 unfold ofq qok
 split
 ·exact⟨by omega,hs,fun _=>hc⟩
 ·split
  ·exact⟨by omega,by simp only;omega,fun _=>hc⟩
  ·split
   ·exact⟨by omega,by simp only;omega,fun _=>hc⟩
   ·split
    ·exact⟨by omega,by simp,fun _=>hc⟩
    ·exact⟨Int.mul_nonneg (by omega) (by omega),Int.mul_nonneg hs (by omega),fun _=>Int.mul_pos hc hc⟩
theorem ofq_qb {m c s : Int} (hc : 0≤c∧c≤10000) (hs : 0≤s∧s≤100) : qb (ofq m c s):=by
 have h1:=sq_bd hc
 have hb : 0≤s*(s+1)∧s*(s+1)≤100*101:=⟨Int.mul_nonneg hs.1 (by omega),Int.mul_le_mul hs.2 (by omega) (by omega) (by omega)⟩
 unfold ofq qb
 split
 ·simp only;omega
 ·split
  ·simp only;omega
  ·split
   ·simp only;omega
   ·split
    ·simp only;omega
    ·simp only;omega
theorem sq_iff {x y : Int} (hx : 0≤x) (hy : 0≤y) : x<y↔x*x<y*y:=by
 constructor
 ·exact sq_lt hx
 ·intro h
  apply Decidable.by_contra
  intro hn
  have:=Int.mul_le_mul (show y≤x by omega) (show y≤x by omega) hy hx
  omega
theorem qlt_sq {a b c d : Int} (ha : 0≤a) (hb : 0≤b) (hc : 0≤c) (hd : 0≤d) : qlt (a,b) (c,d)↔qlt (a*a,b*b) (c*c,d*d):=by
 have z : ∀ x : Int,x*x=0↔x=0:=fun x=>⟨fun h=>by rcases Int.mul_eq_zero.1 h with h|h<;>exact h,fun h=>by rw[h];rfl⟩
 by_cases hz : b=0∧d=0
 ·rw[qlt_z hz.1 hz.2,qlt_z ((z b).2 hz.1) ((z d).2 hz.2)]
  exact sq_iff ha hc
 ·rw[qlt_nz hz,qlt_nz (fun h=>hz ⟨(z b).1 h.1,(z d).1 h.2⟩)]
  simp only
  rw[mm2,mm2]
  exact sq_iff (Int.mul_nonneg ha hd) (Int.mul_nonneg hc hb)
theorem ofq_cmp {m S : Int} {v : Nat→Int} (hm : 1≤m∧m≤4) {p o : Nat} {s t : Int} (hp : 0<v p) (ho : 0<v o) (hs : 0≤s) (ht : 0≤t) : qlt (ofq m (v p) s) (ofq m (v o) t)↔qlt (clq m S v p s) (clq m S v o t):=by
 have h5 : m≠5:=by omega
 unfold clq
 rw[if_neg h5,if_neg h5]
 unfold ofq dsq
 by_cases h1 : m=1
 ·subst h1
  rw[if_pos rfl,if_pos rfl,if_neg (by omega),if_neg (by omega),if_neg (by omega),if_neg (by omega),if_neg (by omega),if_neg (by omega)]
  exact qlt_sq (by omega) hs (by omega) ht
 rw[if_neg h1,if_neg h1]
 by_cases h2 : m=2
 ·subst h2
  rw[if_pos rfl,if_pos rfl,if_neg (by omega),if_neg (by omega),if_pos rfl,if_neg (by omega),if_neg (by omega),if_pos rfl]
  exact qlt_sq (by omega) (by omega) (by omega) (by omega)
 rw[if_neg h2,if_neg h2]
 by_cases h3 : m=3
 ·subst h3
  rw[if_pos rfl,if_pos rfl,if_neg (by omega),if_pos rfl,if_neg (by omega),if_pos rfl]
  exact qlt_sq (by omega) (by omega) (by omega) (by omega)
 rw[if_neg h3,if_neg h3]
 have h4 : m=4:=by omega
 rw[if_pos h4,if_pos h4]
 have vp2:=Int.mul_pos hp hp
 have vo2:=Int.mul_pos ho ho
 have d : ∀ x : Int,0≤x→x≠0→0<x*(x+1):=fun x h0 h=>Int.mul_pos (by omega) (by omega)
 by_cases s0 : s=0<;>by_cases t0 : t=0
 ·subst s0 t0
  rw[if_pos rfl,if_pos rfl,qlt_z rfl rfl,qlt_z (by simp) (by simp)]
  exact sq_iff (by omega) (by omega)
 ·subst s0
  have:=d t ht t0
  rw[if_pos rfl,if_neg t0]
  exact iff_of_false (qlt_zn rfl (by simp only;omega) ⟨by simp only;omega,by simp,fun _=>hp⟩ ⟨by simp only;omega,by simp only;omega,by simp only;omega⟩)
   (qlt_zn (by simp) (by simp only;omega) ⟨by simp only;omega,by simp,fun _=>vp2⟩ ⟨by simp only;omega,by simp only;omega,by simp only;omega⟩)
 ·subst t0
  have:=d s hs s0
  rw[if_neg s0,if_pos rfl]
  exact iff_of_true (qlt_nzz (by simp only;omega) rfl ⟨by simp only;omega,by simp only;omega,by simp only;omega⟩ ⟨by simp only;omega,by simp,fun _=>ho⟩)
   (qlt_nzz (by simp only;omega) (by simp) ⟨by simp only;omega,by simp only;omega,by simp only;omega⟩ ⟨by simp only;omega,by simp,fun _=>vo2⟩)
 ·rw[if_neg s0,if_neg t0]
end Go.Xe.TVX
