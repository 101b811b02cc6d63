/- What the functions of the layer seat come to: SeatKind. Conditions: none. -/
import Derived.Test.YtelfbgmhleneiaaTVJ
-- MOD TV
namespace Go.Xe.TVX
open Go Go.Xe Go.Proofs
open Nat renaming reduceLeDiff → qA, reduceSub → qB, reduceAdd → qC, reduceEqDiff → qD, reduceLT → qE
open Int renaming reduceNegSucc → qF, reduceEq → qG
open Go.Xe.V renaming seq → sA, block → sB, scope → sC, skip → sD, close → sE
open Go.Xe renaming pth → P
open Go.Xe.Sea
set_option maxRecDepth 100000
set_option maxHeartbeats 3200000
set_option linter.unusedSimpArgs false
theorem SR.ok {m S L : Int} {l : List Int} {X : Heap} {w : Value} (h : SR m S L l X w) (h0 : flt m S L l=0) : ∃ y e,w=.tuple ⟨[y,I e]⟩∧((¬ sure m S (vl L l)∧y=.slice none 0 0∧e=10)∨(sure m S (vl L l)∧e=0∧LS X y (fl l.length (otc m S (vl L l)).1))):=by
 obtain⟨y,e,hw,h⟩:=h
 refine⟨y,e,hw,?_⟩
 rcases h with⟨h,_⟩|⟨_,h⟩|⟨_,h⟩
 ·exact absurd h0 h
 ·exact .inl h
 ·exact .inr h
end Go.Xe.TVX
/- What the functions of the layer seat come to: SeatVotes. Conditions: none. -/
-- MOD TV
namespace Go.Xe.TVX
open Go Go.Xe Go.Proofs
open Nat renaming reduceLeDiff → qA, reduceSub → qB, reduceAdd → qC, reduceEqDiff → qD, reduceLT → qE
open Int renaming reduceNegSucc → qF, reduceEq → qG
open Go.Xe.V renaming seq → sA, block → sB, scope → sC, skip → sD, close → sE
open Go.Xe renaming pth → P
open Go.Xe.Sea
set_option maxRecDepth 100000
set_option maxHeartbeats 3200000
set_option linter.unusedSimpArgs false
theorem clq_le {m S : Int} {v : Nat→Int} (hv : vok v) (hS : 0≤S∧S≤61) {p : Nat} (hp : p<8) (h : 0<v p) : ∀ {n : Nat} {s : Int},0≤s→¬ qlt (clq m S v p s) (clq m S v p (s+n))
 | 0,s,_=>by
  have e : s+((0 : Nat) : Int)=s:=by omega
  rw[e];exact qlt_irr _
 | n+1,s,hs=>by
  have h1:=clq_le (m:=m) hv hS hp h (n:=n) hs
  have h2:=clq_dec (m:=m) hv hS hp h (s:=s+n) (by omega)
  have e : s+((n+1 : Nat) : Int)=s+n+1:=by omega
  rw[e]
  exact qlt_neg (clq_ok hv hS hp h hs) (clq_ok hv hS hp h (by omega)) (clq_ok hv hS hp h (by omega)) h1 h2
theorem clq_le' {m S : Int} {v : Nat→Int} (hv : vok v) (hS : 0≤S∧S≤61) {p : Nat} (hp : p<8) (h : 0<v p) {s t : Int} (hs : 0≤s) (hst : s≤t) : ¬ qlt (clq m S v p s) (clq m S v p t):=by
 have:=clq_le (m:=m) hv hS hp h (n:=(t-s).toNat) hs
 have e : s+((t-s).toNat : Int)=t:=by omega
 rw[e] at this
 exact this
theorem sure_sum {m S : Int} {v : Nat→Int} (hv : vok v) (hS : 0≤S∧S≤61) (hv8 : ∀ p,¬ p<8→v p=0) (hs : sure m S v) : ((∃ p,p<8∧0<v p)∧sm (otc m S v).1 8=S)∨((∀ p,p<8→¬ 0<v p)∧(otc m S v).1=fun _=>0):=by
 have F:=otc_fin (m:=m) hv hS hv8
 rcases F.2 with⟨h,e,_⟩|⟨h,e,_⟩|⟨h,e1,e2,e3⟩
 ·exact .inr ⟨h,e⟩
 ·exact .inl ⟨h,e⟩
 ·exfalso
  obtain⟨T,hT⟩ : ∃ T,T=tp v (fun p=>clq m S v p ((otc m S v).1 p)) 8:=⟨_,rfl⟩
  rw[← hT] at e2 e3
  have hne : T≠[]:=fun h=>by rw[h] at e2;simp at e2;omega
  obtain⟨p,hp⟩:=List.exists_mem_of_ne_nil _ hne
  have hp8 : p<8:=by rw[hT] at hp;exact (mem_tp.1 hp).1
  have:=hs p hp8
  rw[e3] at this
  unfold up at this
  rw[if_pos hp] at this
  omega
theorem sure_none {m S : Int} {v : Nat→Int} (h : ∀ p,p<8→¬ 0<v p) (F : Fin v (clq m S v) S (otc m S v).1 (otc m S v).2) : (otc m S v).1=fun _=>0:=by
 rcases F.2 with⟨_,e,_⟩|⟨⟨p,h1,h2⟩,_⟩|⟨⟨p,h1,h2⟩,_⟩
 ·exact e
 ·exact absurd h2 (h p h1)
 ·exact absurd h2 (h p h1)
theorem sm_pos' {v : Nat→Int} (hv : vok v) : 0<sm v 8↔∃ p,p<8∧0<v p:=by
 constructor
 ·intro h
  apply Decidable.by_contra
  intro hn
  have : sm v 8=sm (fun _=>0) 8:=sm_cong fun p hp=>by
   apply Decidable.by_contra
   intro hh
   exact hn ⟨p,hp,by have:=(hv p hp).1;omega⟩
  rw[this,sm_0] at h
  omega
 ·rintro⟨p,hp,h⟩
  exact sm_pos hv hp h
end Go.Xe.TVX
/- What the functions of the layer seat come to: SeatVotes. Conditions: none. -/
-- MOD TV
namespace Go.Xe.TVX
open Go Go.Xe Go.Proofs
open Nat renaming reduceLeDiff → qA, reduceSub → qB, reduceAdd → qC, reduceEqDiff → qD, reduceLT → qE
open Int renaming reduceNegSucc → qF, reduceEq → qG
open Go.Xe.V renaming seq → sA, block → sB, scope → sC, skip → sD, close → sE
open Go.Xe renaming pth → P
open Go.Xe.Sea
set_option maxRecDepth 100000
set_option maxHeartbeats 3200000
set_option linter.unusedSimpArgs false
theorem own_idx {y n c g : Nat} (h : g<n) : yindexAddr none 1 (.slice (some ⟨y,0,none⟩) n c) (I (g : Nat))=some (.pointer (some ⟨y,g,none⟩)):=by
 simp only[yindexAddr]
 rw[if_pos ⟨by omega,by omega⟩]
 simp
theorem Li_set (l : List Int) (k : Nat) (y : Int) : (Li l).set k (I y)=Li (l.set k y):=by simp[Li,List.map_set]
theorem gl0_set {l : List Int} {k : Nat} (hk : k<l.length) (y : Int) (q : Nat) : gl0 (l.set k y) q=if q=k then y else gl0 l q:=by
 unfold gl0
 rw[List.getD_eq_getElem?_getD,List.getElem?_set]
 by_cases h : k=q
 ·subst h;rw[if_pos rfl,if_pos hk,if_pos rfl];rfl
 ·rw[if_neg h,if_neg (fun e=>h e.symm),List.getD_eq_getElem?_getD]
end Go.Xe.TVX
/- What the functions of the layer seat come to: one seat more. Conditions: none. -/
-- MOD TV
namespace Go.Xe.TVX
open Go Go.Xe Go.Proofs
open Nat renaming reduceLeDiff → qA, reduceSub → qB, reduceAdd → qC, reduceEqDiff → qD, reduceLT → qE
open Int renaming reduceNegSucc → qF, reduceEq → qG
open Go.Xe.V renaming seq → sA, block → sB, scope → sC, skip → sD, close → sE
open Go.Xe renaming pth → P
open Go.Xe.Sea
set_option maxRecDepth 100000
set_option maxHeartbeats 3200000
set_option linter.unusedSimpArgs false
end Go.Xe.TVX
/- What the functions of the layer seat come to: SeatHouse. Conditions: none. -/
-- MOD TV
namespace Go.Xe.TVX
open Go Go.Xe Go.Proofs
open Nat renaming reduceLeDiff → qA, reduceSub → qB, reduceAdd → qC, reduceEqDiff → qD, reduceLT → qE
open Int renaming reduceNegSucc → qF, reduceEq → qG
open Go.Xe.V renaming seq → sA, block → sB, scope → sC, skip → sD, close → sE
open Go.Xe renaming pth → P
open Go.Xe.Sea
set_option maxRecDepth 100000
set_option maxHeartbeats 3200000
set_option linter.unusedSimpArgs false
end Go.Xe.TVX
/- What the functions of the layer seat come to: SeatHouse. Conditions: none. -/
-- MOD TV
namespace Go.Xe.TVX
open Go Go.Xe Go.Proofs
open Nat renaming reduceLeDiff → qA, reduceSub → qB, reduceAdd → qC, reduceEqDiff → qD, reduceLT → qE
open Int renaming reduceNegSucc → qF, reduceEq → qG
open Go.Xe.V renaming seq → sA, block → sB, scope → sC, skip → sD, close → sE
open Go.Xe renaming pth → P
open Go.Xe.Sea
set_option maxRecDepth 100000
set_option maxHeartbeats 3200000
set_option linter.unusedSimpArgs false
end Go.Xe.TVX
/- What the functions of the layer seat come to: shares, rounded down and up. Conditions: none. -/
-- MOD TV
namespace Go.Xe.TVX
open Go Go.Xe Go.Proofs
open Nat renaming reduceLeDiff → qA, reduceSub → qB, reduceAdd → qC, reduceEqDiff → qD, reduceLT → qE
open Int renaming reduceNegSucc → qF, reduceEq → qG
open Go.Xe.V renaming seq → sA, block → sB, scope → sC, skip → sD, close → sE
open Go.Xe renaming pth → P
open Go.Xe.Sea
set_option maxRecDepth 100000
set_option maxHeartbeats 3200000
set_option linter.unusedSimpArgs false
def shi (S : Int) (v : Nat→Int) (p : Nat) : Int:=(shr S v p).1+(if 1<(shr S v p).2 then 1 else (shr S v p).2)
end Go.Xe.TVX
/- What the functions of the layer seat come to: SeatQuotas. Conditions: none. -/
-- MOD TV
namespace Go.Xe.TVX
open Go Go.Xe Go.Proofs
open Nat renaming reduceLeDiff → qA, reduceSub → qB, reduceAdd → qC, reduceEqDiff → qD, reduceLT → qE
open Int renaming reduceNegSucc → qF, reduceEq → qG
open Go.Xe.V renaming seq → sA, block → sB, scope → sC, skip → sD, close → sE
open Go.Xe renaming pth → P
open Go.Xe.Sea
set_option maxRecDepth 100000
set_option maxHeartbeats 3200000
set_option linter.unusedSimpArgs false
noncomputable def d6 : FCode:=(.seq (.run (.go (.box 23 (tm 0)) (P 2)::
.go (.move (.con (.bool false))) (P 4)::
[])) (.seq (.seq (.run (.go (.move (tm 1)) (P 11)::
.go (.len 0 (tm 11)) (P 12)::
.go (.bin .gtr 3 (tm 12) (.con (.int .i64 (.ofNat 11)))) (P 13)::
[])) (.cond (tm 13) (.seq (.run (.go (.call (.con (.func (.func 20) ⟨[]⟩ ⟨[]⟩)) []) (P 14)::
.go (.move (tm 14)) (P 4)::
[])) .ret) .skip)) (.seq (.run (.go (.loadN 3 (tm 2)) (P 16)::
.go (.call (.con (.func (.func 22) ⟨[]⟩ ⟨[]⟩)) [tm 16]) (P 17)::
.go (.move (tm 1)) (P 18)::
.go (.call (.con (.func (.func 24) ⟨[]⟩ ⟨[]⟩)) [tm 18]) (P 19)::
.go (.call (.con (.func (.func 35) ⟨[]⟩ ⟨[]⟩)) [(tm 17),(tm 19)]) (P 20)::
.go (.move (tm 20)) (P 15)::
.go (.extract (tm 15) 0) (P 21)::
.go (.extract (tm 15) 1) (P 22)::
.go (.move (tm 21)) (P 5)::
.go (.move (tm 22)) (P 6)::
[])) (.seq (.seq (.run (.go (.loadN 3 (tm 2)) (P 23)::
.go (.move (tm 1)) (P 24)::
.go (.call (.con (.func (.func 25) ⟨[]⟩ ⟨[]⟩)) [(tm 23),(tm 24)]) (P 25)::
.go (.move (tm 25)) (P 7)::
[])) (.seq (.run (.go (.move (tm 7)) (P 26)::
.go (.bin .neq 26 (tm 26) (.con (.int .i64 (.ofNat 0)))) (P 27)::
[])) (.cond (tm 27) (.seq (.run (.go (.move (tm 6)) (P 28)::
.go (.move (tm 7)) (P 29)::
.go (.bin .eql 26 (tm 28) (tm 29)) (P 30)::
.go (.move (tm 30)) (P 31)::
.gd (P 31) true (.move (tm 5)) (P 32)::
.gd (P 31) true (.len 0 (tm 32)) (P 33)::
.gd (P 31) true (.bin .eql 3 (tm 33) (.con (.int .i64 (.ofNat 0)))) (P 34)::
.go (.pick (tm 31) (tm 34) (.con (.bool false))) (P 35)::
.go (.move (tm 35)) (P 36)::
.gd (P 36) true (.call (.con (.func (.func 20) ⟨[]⟩ ⟨[]⟩)) []) (P 37)::
.go (.pick (tm 36) (tm 37) (.con (.bool false))) (P 38)::
.go (.move (tm 38)) (P 4)::
[])) .ret) .skip))) (.seq (.seq (.run (.go (.move (tm 6)) (P 39)::
.go (.bin .neq 26 (tm 39) (.con (.int .i64 (.ofNat 0)))) (P 40)::
.go (.move (tm 40)) (P 41)::
.gd (P 41) false (.move (tm 5)) (P 42)::
.gd (P 41) false (.len 0 (tm 42)) (P 43)::
.gd (P 41) false (.move (tm 1)) (P 44)::
.gd (P 41) false (.len 0 (tm 44)) (P 45)::
.gd (P 41) false (.bin .neq 3 (tm 43) (tm 45)) (P 46)::
.go (.pick (tm 41) (.con (.bool true)) (tm 46)) (P 47)::
[])) (.cond (tm 47) (.seq (.run (.go (.move (.con (.bool false))) (P 4)::
[])) .ret) .skip)) (.seq (.run (.go (.loadN 3 (tm 2)) (P 48)::
.go (.move (tm 1)) (P 49)::
.go (.call (.con (.func (.func 36) ⟨[]⟩ ⟨[]⟩)) [(tm 48),(tm 49)]) (P 50)::
.go (.move (tm 50)) (P 8)::
[])) (.seq (.seq (.run (.go (.move (.con (.int .i64 (.ofNat 0)))) (P 9)::
[])) (.block 0 (.loop (.seq (.seq (.run (.go (.move (tm 9)) (P 51)::
.go (.move (tm 5)) (P 52)::
.go (.len 0 (tm 52)) (P 53)::
.go (.bin .lss 3 (tm 51) (tm 53)) (P 54)::
[])) (.cond (tm 54) .skip (.exit 0))) (.seq (.block 1 (.seq (.run (.go (.build [(.int .i64 (.ofNat 0)),(.int .i64 (.ofNat 0))] []) (P 57)::
.go (.alloc 49 [(.int .i64 (.ofNat 0)),(.int .i64 (.ofNat 0))]) (P 10)::
.un (.store 2 (tm 10) (tm 57))::
[])) (.seq (.seq (.draw 6 (.go (.loadN 3 (tm 2)) (P 58)::
.go (.move (tm 1)) (P 59)::
.go (.move (tm 9)) (P 60)::
.go (.indexAddr none 1 (tm 59) (tm 60)) (P 61)::
.go (.load1 (tm 61)) (P 62)::
.go (.call (.con (.func (.func 37) ⟨[]⟩ ⟨[]⟩)) [(tm 58),(tm 62)]) (P 63)::
[]) [.ok,.ok,.ok,.ok,.ok,.ok]) (.cond (tm 63) (.seq (.block 2 (.loop (.seq (.seq (.draw 13 (.go (.fieldAddr 0 (tm 10)) (P 64)::
.go (.load1 (tm 64)) (P 65)::
.go (.bin .add 3 (tm 65) (.con (.int .i64 (.ofNat 1)))) (P 66)::
.go (.move (tm 8)) (P 67)::
.go (.bin .mul 3 (tm 66) (tm 67)) (P 68)::
.go (.move (tm 1)) (P 69)::
.go (.move (tm 9)) (P 70)::
.go (.indexAddr none 1 (tm 69) (tm 70)) (P 71)::
.go (.load1 (tm 71)) (P 72)::
.go (.fieldAddr 1 (tm 2)) (P 73)::
.go (.load1 (tm 73)) (P 74)::
.go (.bin .mul 3 (tm 72) (tm 74)) (P 75)::
.go (.bin .leq 3 (tm 68) (tm 75)) (P 76)::
[]) [.ok,.ok,.ok,.ok,.ok,.ok,.ok,.ok,.ok,.ok,.ok,.ok,.ok]) (.cond (tm 76) .skip (.exit 2))) (.block 3 (.run (.go (.fieldAddr 0 (tm 10)) (P 77)::
.go (.load1 (tm 77)) (P 78)::
.go (.bin .add 3 (tm 78) (.con (.int .i64 (.ofNat 1)))) (P 79)::
.go (.fieldAddr 0 (tm 10)) (P 80)::
.un (.store 1 (tm 80) (tm 79))::
[])))))) (.block 4 (.loop (.seq (.seq (.draw 12 (.go (.fieldAddr 1 (tm 10)) (P 81)::
.go (.load1 (tm 81)) (P 82)::
.go (.move (tm 8)) (P 83)::
.go (.bin .mul 3 (tm 82) (tm 83)) (P 84)::
.go (.move (tm 1)) (P 85)::
.go (.move (tm 9)) (P 86)::
.go (.indexAddr none 1 (tm 85) (tm 86)) (P 87)::
.go (.load1 (tm 87)) (P 88)::
.go (.fieldAddr 1 (tm 2)) (P 89)::
.go (.load1 (tm 89)) (P 90)::
.go (.bin .mul 3 (tm 88) (tm 90)) (P 91)::
.go (.bin .lss 3 (tm 84) (tm 91)) (P 92)::
[]) [.ok,.ok,.ok,.ok,.ok,.ok,.ok,.ok,.ok,.ok,.ok,.ok]) (.cond (tm 92) .skip (.exit 4))) (.block 5 (.run (.go (.fieldAddr 1 (tm 10)) (P 93)::
.go (.load1 (tm 93)) (P 94)::
.go (.bin .add 3 (tm 94) (.con (.int .i64 (.ofNat 1)))) (P 95)::
.go (.fieldAddr 1 (tm 10)) (P 96)::
.un (.store 1 (tm 96) (tm 95))::
[]))))))) .skip)) (.seq (.draw 6 (.go (.move (tm 5)) (P 97)::
.go (.move (tm 9)) (P 98)::
.go (.indexAddr none 2 (tm 97) (tm 98)) (P 99)::
.go (.loadN 2 (tm 99)) (P 100)::
.go (.loadN 2 (tm 10)) (P 101)::
.go (.bin .neq 49 (tm 100) (tm 101)) (P 102)::
[]) [.ok,.ok,.ok,.ok,.ok,.ok]) (.cond (tm 102) (.seq (.run (.go (.move (.con (.bool false))) (P 4)::
[])) .ret) .skip))))) (.run (.go (.move (tm 9)) (P 55)::
.go (.bin .add 3 (tm 55) (.con (.int .i64 (.ofNat 1)))) (P 56)::
.go (.move (tm 56)) (P 9)::
[]))))))) (.seq (.run (.go (.call (.con (.func (.func 20) ⟨[]⟩ ⟨[]⟩)) []) (P 103)::
.go (.move (tm 103)) (P 4)::
[])) .ret))))))))
end Go.Xe.TVX
/- What the functions of the layer seat come to: SeatTimes. Conditions: none. -/
-- MOD TV
namespace Go.Xe.TVX
open Go Go.Xe Go.Proofs
open Nat renaming reduceLeDiff → qA, reduceSub → qB, reduceAdd → qC, reduceEqDiff → qD, reduceLT → qE
open Int renaming reduceNegSucc → qF, reduceEq → qG
open Go.Xe.V renaming seq → sA, block → sB, scope → sC, skip → sD, close → sE
open Go.Xe renaming pth → P
open Go.Xe.Sea
set_option maxRecDepth 100000
set_option maxHeartbeats 3200000
set_option linter.unusedSimpArgs false
noncomputable def d28 : FCode:=(.seq (.run (.go (.move (.con (.bool false))) (P 4)::
[])) (.seq (.seq (.run (.go (.move (tm 0)) (P 6)::
.go (.len 0 (tm 6)) (P 7)::
.go (.move (tm 1)) (P 8)::
.go (.len 0 (tm 8)) (P 9)::
.go (.bin .neq 3 (tm 7) (tm 9)) (P 10)::
[])) (.cond (tm 10) (.seq (.run (.go (.move (.con (.bool false))) (P 4)::
[])) .ret) .skip)) (.seq (.seq (.run (.go (.move (.con (.int .i64 (.ofNat 0)))) (P 5)::
[])) (.block 0 (.loop (.seq (.seq (.run (.go (.move (tm 5)) (P 11)::
.go (.move (tm 0)) (P 12)::
.go (.len 0 (tm 12)) (P 13)::
.go (.bin .lss 3 (tm 11) (tm 13)) (P 14)::
[])) (.cond (tm 14) .skip (.exit 0))) (.seq (.block 1 (.seq (.draw 9 (.go (.move (tm 0)) (P 17)::
.go (.move (tm 5)) (P 18)::
.go (.indexAddr none 1 (tm 17) (tm 18)) (P 19)::
.go (.load1 (tm 19)) (P 20)::
.go (.move (tm 1)) (P 21)::
.go (.move (tm 5)) (P 22)::
.go (.indexAddr none 1 (tm 21) (tm 22)) (P 23)::
.go (.load1 (tm 23)) (P 24)::
.go (.bin .neq 3 (tm 20) (tm 24)) (P 25)::
[]) [.ok,.ok,.ok,.ok,.ok,.ok,.ok,.ok,.ok]) (.cond (tm 25) (.seq (.run (.go (.move (.con (.bool false))) (P 4)::
[])) .ret) .skip))) (.run (.go (.move (tm 5)) (P 15)::
.go (.bin .add 3 (tm 15) (.con (.int .i64 (.ofNat 1)))) (P 16)::
.go (.move (tm 16)) (P 5)::
[]))))))) (.seq (.run (.go (.move (.con (.bool true))) (P 4)::
[])) .ret))))
theorem de28 : @compF Try.prog (Gl.none Try.prog) Try.f28 2=.mk d28 (mkTT 26) [(P 0),(P 1)] [.tmp (P 4)]:=by kernel_rfl
theorem dg28 : Try.prog.funcs[28]?=some Try.f28:=Try.func28
theorem do28 : okF Try.prog Try.f28=true:=by kernel_rfl
theorem qlt_scale {a b : Q2} {k : Int} (hk : 0<k) : qlt (k*a.1,a.2) (k*b.1,b.2)↔qlt a b:=by
 unfold qlt
 simp only
 split
 ·exact⟨fun h=>Int.lt_of_mul_lt_mul_left h (Int.le_of_lt hk),fun h=>Int.mul_lt_mul_of_pos_left h hk⟩
 ·rw[Int.mul_assoc,Int.mul_assoc]
  exact⟨fun h=>Int.lt_of_mul_lt_mul_left h (Int.le_of_lt hk),fun h=>Int.mul_lt_mul_of_pos_left h hk⟩
theorem sm_scale {v : Nat→Int} {k : Int} : ∀ {n : Nat},sm (fun p=>k*v p) n=k*sm v n
 | 0=>by simp[sm]
 | n+1=>by simp only[sm];rw[sm_scale,Int.mul_add]
theorem f28_ok {H : Heap} {x y : Value} {l1 l2 : List Int} (h1 : LS H x l1) (h2 : LS H y l2) (hn : l1.length≤1048576) : Gives Try.prog 28 [x,y] H (.bool (decide (l1=l2))):=by
 have hl1:=h1.len
 have hl2:=h2.len
 obtain⟨px,nx',cx,rfl⟩:=h1.s.isS
 obtain⟨py,ny',cy,rfl⟩:=h2.s.isS
 refine F.entryL rfl dg28 do28 de28 rfl (by kernel_rfl) ?_
 simp only[sets]
 refine V.re [(0,.slice px nx' cx),(1,.slice py ny' cy)] (N:=26) zE zY ?_
 intro t hF hA
 simp only[Kn,and_true] at hA
 refine zS ?_
 refine V.l0 ?_
 refine zS ?_
 have zf:=And.intro @hl1<|@hl2
 refine V.lz ?_
 refine zS ?_
 refine V.condP zP (fun hne=>?_) (fun hne=>?_)
 ·refine zS ?_
  refine V.l0 ?_
  refine zS ?_
  refine V.ret (V.rets rfl (Lv.retG (by simp +contextual (disch:=first|omega|simp only[nx];omega) only[D1,cells_alloc_at,cells_alloc_ne,cells_set_at,cells_set_ne,yres,yres1,yresL,qA,qB,qC,D5,hF,hA,↓reduceIte,qD,qE];rfl) ?_ ?_))
  ·exact zW
  ·congr 1
   exact (decide_eq_false (fun e=>hne (by rw[e]))).symm
 have hll : l1.length=l2.length:=by omega
 refine zS ?_
 refine V.l0 ?_
 refine zS ?_
 refine V.loop (fun z t m X=>∃ (k : Nat),k≤l1.length∧z=l1.length-k∧m=[]∧X=H∧l1.take k=l2.take k∧Full 26 t∧Kn [(0,.slice px nx' cx),(1,.slice py ny' cy),(5,I k)] t) l1.length ?_ ?_
 ·exact⟨0,by omega,by omega,rfl,rfl,by simp,zF,zK⟩
 clear hF hA
 rintro z t m X ⟨k,hk,rfl,rfl,hX,htk,hF,hA⟩
 obtain rfl : H=X:=hX.symm
 simp only[Kn,and_true] at hA
 refine zS ?_
 have zf:=@hl1
 refine V.lz ?_
 refine zS ?_
 refine V.condP zP (fun hlt=>?_) (fun hlt=>?_)
 ·have hlt1 : k<l1.length:=by omega
  have hlt2 : k<l2.length:=by omega
  obtain⟨p,hp,hx⟩:=h1.at hlt1
  obtain⟨q,hq,hy⟩:=h2.at hlt2
  have hx1:=hx H (.refl _)
  have hy1:=hy H (.refl _)
  refine zS ?_
  have zf:=And.intro @hp<|And.intro @hx1<|And.intro @hq<|@hy1
  refine V.dz ?_ ?_ rfl ?_
  ·exact zM
  ·simp only[dcAll,dcOk,wantD,List.cons_append,List.nil_append,true_and,and_true]
  refine zS ?_
  refine V.condP zP (fun hne2=>?_) (fun hne2=>?_)
  ·refine zS ?_
   refine V.l0 ?_
   refine zS ?_
   refine V.ret (V.rets rfl (Or.inr ⟨by simp,V.rets rfl (Lv.retG (by simp +contextual (disch:=first|omega|simp only[nx];omega) only[D1,cells_alloc_at,cells_alloc_ne,cells_set_at,cells_set_ne,yres,yres1,yresL,qA,qB,qC,D5,hF,hA,↓reduceIte,qD,qE];rfl) ?_ ?_)⟩))
   ·exact zW
   ·congr 1
    refine (decide_eq_false (fun e=>hne2 ?_)).symm
    subst e;rfl
  ·refine zS ?_
   refine V.l0 ?_
   refine V.nil (Or.inl ⟨rfl,l1.length-(k+1),by omega,?_⟩)
   refine⟨k+1,hlt1,rfl,rfl,rfl,?_,zF,zK⟩
   rw[tk1 hlt1,tk1 hlt2,htk,Decidable.not_not.1 hne2]
 ·obtain rfl : k=l1.length:=by omega
  refine V.exit ?_
  refine zX ?_
  refine V.nil (Or.inr ⟨by simp,?_⟩)
  refine zX ?_
  refine zS ?_
  refine V.l0 ?_
  refine zS ?_
  refine V.ret (V.rets rfl (Lv.retG (by simp +contextual (disch:=first|omega|simp only[nx];omega) only[D1,cells_alloc_at,cells_alloc_ne,cells_set_at,cells_set_ne,yres,yres1,yresL,qA,qB,qC,D5,hF,hA,↓reduceIte,qD,qE];rfl) ?_ ?_))
  ·exact zW
  ·congr 1
   refine (decide_eq_true ?_).symm
   rw[List.take_length] at htk
   rw[htk,hll,List.take_length]
end Go.Xe.TVX
/- What the functions of the layer seat come to: SeatQuota. Conditions: none. -/
-- MOD TV
namespace Go.Xe.TVX
open Go Go.Xe Go.Proofs
open Nat renaming reduceLeDiff → qA, reduceSub → qB, reduceAdd → qC, reduceEqDiff → qD, reduceLT → qE
open Int renaming reduceNegSucc → qF, reduceEq → qG
open Go.Xe.V renaming seq → sA, block → sB, scope → sC, skip → sD, close → sE
open Go.Xe renaming pth → P
open Go.Xe.Sea
set_option maxRecDepth 100000
set_option maxHeartbeats 3200000
set_option linter.unusedSimpArgs false
theorem sm_mul {a : Nat→Int} {k : Int} {n : Nat} : sm (fun p=>a p*k) n=sm a n*k:=by
 have:=sm_scale (v:=a) (k:=k) (n:=n)
 rw[Int.mul_comm (sm a n) k,← this]
 exact sm_cong fun p _=>Int.mul_comm _ _
theorem shr_sums {S : Int} {v : Nat→Int} (hv : vok v) (hS : 0≤S∧S≤61) : sm (fun p=>(shr S v p).1) 8≤S∧(0<sm v 8→S≤sm (fun p=>shi S v p) 8):=by
 have ht:=sm_bd hv
 by_cases h0 : 0<sm v 8
 ·have e1 : ∀ p,p<8→v p*S=(shr S v p).1*sm v 8+(shr S v p).2:=by
   intro p _
   unfold shr
   split
   ·rename_i h;rw[h];simp
   ·have:=Int.mul_ediv_add_emod (v p*S) (sm v 8)
    rw[Int.mul_comm (sm v 8)] at this
    exact this.symm
  have e2 : sm v 8*S=sm (fun p=>(shr S v p).1) 8*sm v 8+sm (fun p=>(shr S v p).2) 8:=by
   rw[← sm_mul,← sm_mul,← sm_add]
   exact sm_cong e1
  have e3 : 0≤sm (fun p=>(shr S v p).2) 8:=by
   have:=sm_le (s:=fun _=>0) (t:=fun p=>(shr S v p).2) (n:=8) (fun p hp=>(shr_bd hv hS hp).2.1)
   rw[sm_0] at this;exact this
  refine⟨?_,fun _=>?_⟩
  ·have : sm (fun p=>(shr S v p).1) 8*sm v 8≤S*sm v 8:=by rw[Int.mul_comm S];omega
   exact Int.le_of_mul_le_mul_right this h0
  ·have e4 : sm (fun p=>(shr S v p).2) 8≤sm (fun p=>(shi S v p-(shr S v p).1)*sm v 8) 8:=by
    apply sm_le
    intro p hp
    have hb:=shr_bd hv hS hp
    show (shr S v p).2≤(shi S v p-(shr S v p).1)*sm v 8
    have e5 : shi S v p-(shr S v p).1=if 1<(shr S v p).2 then 1 else (shr S v p).2:=by unfold shi;omega
    rw[e5]
    split
    ·by_cases hz : v p=0
     ·have : (shr S v p).2=0:=by unfold shr;rw[if_pos hz]
      omega
     ·have:=hb.2.2.2 hz;omega
    ·have : (shr S v p).2=0∨(shr S v p).2=1:=by omega
     rcases this with h|h<;>rw[h]<;>omega
   rw[sm_mul] at e4
   have e6 : sm (fun p=>shi S v p-(shr S v p).1) 8=sm (fun p=>shi S v p) 8-sm (fun p=>(shr S v p).1) 8:=by
    have:=sm_add (s:=fun p=>shi S v p-(shr S v p).1) (t:=fun p=>(shr S v p).1) (n:=8)
    have e7 : sm (fun p=>shi S v p-(shr S v p).1+(shr S v p).1) 8=sm (fun p=>shi S v p) 8:=sm_cong fun p _=>by omega
    rw[e7] at this
    omega
   rw[e6,Int.sub_mul] at e4
   have : S*sm v 8≤sm (fun p=>shi S v p) 8*sm v 8:=by rw[Int.mul_comm S];omega
   exact Int.le_of_mul_le_mul_right this h0
 ·have hz : ∀ p,p<8→v p=0:=fun p hp=>by
   have:=sm_ge hv hp
   have:=(hv p hp).1
   omega
  refine⟨?_,fun h=>absurd h h0⟩
  have : sm (fun p=>(shr S v p).1) 8=sm (fun _=>0) 8:=sm_cong fun p hp=>by unfold shr;rw[if_pos (hz p hp)]
  rw[this,sm_0];exact hS.1
end Go.Xe.TVX
/- What the functions of the layer seat come to: SeatQuota. Conditions: none. -/
-- MOD TV
namespace Go.Xe.TVX
open Go Go.Xe Go.Proofs
open Nat renaming reduceLeDiff → qA, reduceSub → qB, reduceAdd → qC, reduceEqDiff → qD, reduceLT → qE
open Int renaming reduceNegSucc → qF, reduceEq → qG
open Go.Xe.V renaming seq → sA, block → sB, scope → sC, skip → sD, close → sE
open Go.Xe renaming pth → P
open Go.Xe.Sea
set_option maxRecDepth 100000
set_option maxHeartbeats 3200000
set_option linter.unusedSimpArgs false
end Go.Xe.TVX
