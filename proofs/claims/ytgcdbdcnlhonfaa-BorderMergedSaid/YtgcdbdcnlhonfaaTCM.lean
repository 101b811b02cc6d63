/- What the functions of the layer border come to: numbers are carried, as the reference has it. Conditions: none. -/
import Derived.Test.YtgcdbdcnlhonfaaTCH
import Derived.Test.YtgcdbdcnlhonfaaZv
-- MOD TB
namespace Go.Xe.TBX
open Go Go.Xe Go.Proofs
open Nat renaming reduceLeDiff → qA, reduceSub → qB, reduceAdd → qC, reduceEqDiff → qD, reduceLT → qE
open Int renaming reduceNegSucc → qF, reduceEq → qG
open Go.Xe.V renaming seq → sA, block → sB, scope → sC, skip → sD, close → sE
open Go.Xe renaming pth → P
open Go.Xe.Rnd
open Go.Xe.Sea (adl adl_1 adl_at mem_adl pix pix_at pix_adl adl_len)
set_option maxRecDepth 100000
set_option maxHeartbeats 3200000
set_option linter.unusedSimpArgs false
end Go.Xe.TBX
/- BorderCarries: a map's numbers are carried as the reference carries them. Conditions: none. -/
-- MOD TB
namespace Go.Xe.TBX
open Go Go.Xe Go.Proofs
open Nat renaming reduceLeDiff → qA, reduceSub → qB, reduceAdd → qC, reduceEqDiff → qD, reduceLT → qE
open Int renaming reduceNegSucc → qF, reduceEq → qG
open Go.Xe.V renaming seq → sA, block → sB, scope → sC, skip → sD, close → sE
open Go.Xe renaming pth → P
open Go.Xe.Rnd
set_option maxRecDepth 100000
set_option maxHeartbeats 3200000
set_option linter.unusedSimpArgs false
noncomputable def d3 : FCode:=(.seq (.run (.go (.box 26 (tm 0)) (P 1)::
.go (.move (.con (.bool false))) (P 2)::
[])) (.seq (.seq (.run (.go (.loadN 4 (tm 1)) (P 9)::
.go (.call (.con (.func (.func 16) ⟨[]⟩ ⟨[]⟩)) [tm 9]) (P 10)::
.go (.un .not (tm 10)) (P 11)::
[])) (.cond (tm 11) (.seq (.run (.go (.call (.con (.func (.func 17) ⟨[]⟩ ⟨[]⟩)) []) (P 12)::
.go (.move (tm 12)) (P 2)::
[])) .ret) .skip)) (.seq (.run (.go (.loadN 4 (tm 1)) (P 13)::
.go (.call (.con (.func (.func 19) ⟨[]⟩ ⟨[]⟩)) [tm 13]) (P 14)::
.go (.call (.con (.func (.func 18) ⟨[]⟩ ⟨[]⟩)) [tm 14]) (P 15)::
.go (.move (tm 15)) (P 3)::
[])) (.seq (.run (.go (.loadN 4 (tm 1)) (P 17)::
.go (.call (.con (.func (.func 19) ⟨[]⟩ ⟨[]⟩)) [tm 17]) (P 18)::
.go (.call (.con (.func (.func 20) ⟨[]⟩ ⟨[]⟩)) [tm 18]) (P 19)::
.go (.move (tm 19)) (P 16)::
.go (.extract (tm 16) 0) (P 20)::
.go (.extract (tm 16) 1) (P 21)::
.go (.extract (tm 16) 2) (P 22)::
.go (.move (tm 20)) (P 4)::
.go (.move (tm 21)) (P 5)::
.go (.move (tm 22)) (P 6)::
[])) (.seq (.run (.go (.loadN 4 (tm 1)) (P 23)::
.go (.call (.con (.func (.func 21) ⟨[]⟩ ⟨[]⟩)) [tm 23]) (P 24)::
.go (.move (tm 24)) (P 7)::
[])) (.seq (.seq (.run (.go (.move (tm 3)) (P 25)::
.go (.move (tm 7)) (P 26)::
.go (.bin .neq 29 (tm 25) (tm 26)) (P 27)::
[])) (.cond (tm 27) (.seq (.run (.go (.move (.con (.bool false))) (P 2)::
[])) .ret) .skip)) (.seq (.seq (.run (.go (.move (tm 7)) (P 28)::
.go (.bin .neq 29 (tm 28) (.con (.int .i64 (.ofNat 0)))) (P 29)::
[])) (.cond (tm 29) (.seq (.run (.go (.move (tm 6)) (P 30)::
.go (.move (tm 7)) (P 31)::
.go (.bin .eql 29 (tm 30) (tm 31)) (P 32)::
.go (.move (tm 32)) (P 33)::
.gd (P 33) true (.move (tm 4)) (P 34)::
.gd (P 33) true (.len 0 (tm 34)) (P 35)::
.gd (P 33) true (.move (tm 5)) (P 36)::
.gd (P 33) true (.len 0 (tm 36)) (P 37)::
.gd (P 33) true (.bin .add 3 (tm 35) (tm 37)) (P 38)::
.gd (P 33) true (.bin .eql 3 (tm 38) (.con (.int .i64 (.ofNat 0)))) (P 39)::
.go (.pick (tm 33) (tm 39) (.con (.bool false))) (P 40)::
.go (.move (tm 40)) (P 41)::
.gd (P 41) true (.call (.con (.func (.func 17) ⟨[]⟩ ⟨[]⟩)) []) (P 42)::
.go (.pick (tm 41) (tm 42) (.con (.bool false))) (P 43)::
.go (.move (tm 43)) (P 2)::
[])) .ret) .skip)) (.seq (.run (.go (.loadN 4 (tm 1)) (P 44)::
.go (.call (.con (.func (.func 22) ⟨[]⟩ ⟨[]⟩)) [tm 44]) (P 45)::
.go (.move (tm 45)) (P 8)::
[])) (.seq (.draw 20 (.go (.move (tm 6)) (P 46)::
.go (.bin .eql 29 (tm 46) (.con (.int .i64 (.ofNat 0)))) (P 47)::
.go (.move (tm 47)) (P 48)::
.gd (P 48) true (.move (tm 4)) (P 49)::
.gd (P 48) true (.move (tm 8)) (P 50)::
.gd (P 48) true (.call (.con (.func (.func 23) ⟨[]⟩ ⟨[]⟩)) [(tm 49),(tm 50)]) (P 51)::
.go (.pick (tm 48) (tm 51) (.con (.bool false))) (P 52)::
.go (.move (tm 52)) (P 53)::
.gd (P 53) true (.move (tm 5)) (P 54)::
.gd (P 53) true (.loadN 4 (tm 1)) (P 55)::
.gd (P 53) true (.loadN 4 (tm 1)) (P 56)::
.gd (P 53) true (.call (.con (.func (.func 25) ⟨[]⟩ ⟨[]⟩)) [tm 56]) (P 57)::
.gd (P 53) true (.move (tm 8)) (P 58)::
.gd (P 53) true (.call (.con (.func (.func 24) ⟨[]⟩ ⟨[]⟩)) [(tm 55),(tm 57),(tm 58)]) (P 59)::
.gd (P 53) true (.call (.con (.func (.func 23) ⟨[]⟩ ⟨[]⟩)) [(tm 54),(tm 59)]) (P 60)::
.go (.pick (tm 53) (tm 60) (.con (.bool false))) (P 61)::
.go (.move (tm 61)) (P 62)::
.gd (P 62) true (.call (.con (.func (.func 17) ⟨[]⟩ ⟨[]⟩)) []) (P 63)::
.go (.pick (tm 62) (tm 63) (.con (.bool false))) (P 64)::
.go (.move (tm 64)) (P 2)::
[]) [.ok,.ok,.ok,.ok,.ok,.ok,.ok,.ok,.ok,.rd (some ((P 53),true)) (.loadN 4 (tm 1)) (some (P 55)) [12],.ok,.ok,.ok,.ok,.ok,.ok,.ok,.ok,.ok,.ok]) .ret)))))))))
end Go.Xe.TBX
/- Rules of reasoning over the executable reading of the model's code (part Z23): a slice of any shape that came in. Conditions: none; for every program. -/
namespace Go.Xe
open Go Go.RowKit Go.ChangeShapes Go.WideShapes
end Go.Xe
/- Maps that come in: what lies where. Conditions: none. -/
namespace Go.Xe.TBX
open Go Go.Xe Go.Proofs
abbrev shJn : Sh:=.pair (.int .i64) (.pair (.int .i64) .unit)
abbrev shSt : Sh:=.pair (.int .i64) (.pair (.int .i64) (.pair (.int .i64) (.pair shJn .unit)))
abbrev shMp : Sh:=.pair (.slice 1 (.int .i64)) (.pair (.int .i64) (.pair (.slice 5 shSt) (.pair (.slice 2 shJn) .unit)))
theorem rs_of {A : Heap} {cs : List Value} {y : Ty (.slice 2 shJn)} (h : Sem A (.slice 2 shJn) cs y) : ∃ v R,cs=[v]∧RS A v R:=by
 obtain⟨v,rows,rfl,h1,h2,_,h3⟩:=h
 refine⟨v,(y : List (Ty shJn)).map fun x=>(x.1,x.2.1),rfl,⟨?_⟩⟩
 have e : rows=((y : List (Ty shJn)).map fun x=>(x.1,x.2.1)).map q2:=by
  apply List.ext_getElem
  ·simp[h2]
  ·intro k k1 k2
   have hk : k<(y : List (Ty shJn)).length:=by omega
   obtain⟨c1,c2,e1,⟨rfl,_⟩,d1,d2,e2,⟨rfl,_⟩,e5⟩:=h3 k rows[k] ((y : List (Ty shJn))[k]) (by simp) (by simp[hk])
   rw[e1,e2,e5]
   simp[q2]
 have:=h1.sw
 rw[e] at this
 exact this
theorem ss_of {A : Heap} {cs : List Value} {y : Ty (.slice 5 shSt)} (h : Sem A (.slice 5 shSt) cs y) : ∃ v S,cs=[v]∧SS A v S:=by
 obtain⟨v,rows,rfl,h1,h2,_,h3⟩:=h
 refine⟨v,(y : List (Ty shSt)).map fun x=>⟨x.1,x.2.1,x.2.2.1,x.2.2.2.1.1,x.2.2.2.1.2.1⟩,rfl,⟨?_⟩⟩
 have e : rows=((y : List (Ty shSt)).map fun x=>(⟨x.1,x.2.1,x.2.2.1,x.2.2.2.1.1,x.2.2.2.1.2.1⟩ : St)).map s5:=by
  apply List.ext_getElem
  ·simp[h2]
  ·intro k k1 k2
   have hk : k<(y : List (Ty shSt)).length:=by omega
   obtain⟨c1,c2,e1,⟨rfl,_⟩,d1,d2,e2,⟨rfl,_⟩,w1,w2,e3,⟨rfl,_⟩,p1,p2,e4,⟨q1,q2,e5,⟨rfl,_⟩,r1,r2,e6,⟨rfl,_⟩,e7⟩,e8⟩:=h3 k rows[k] ((y : List (Ty shSt))[k]) (by simp) (by simp[hk])
   have e7' : r2=[]:=e7
   have e8' : p2=[]:=e8
   rw[e1,e2,e3,e4,e5,e6,e7',e8']
   simp[s5]
 have:=h1.sw
 rw[e] at this
 exact this
theorem ls_of {A : Heap} {cs : List Value} {y : Ty (.slice 1 (.int .i64))} (h : Sem A (.slice 1 (.int .i64)) cs y) : ∃ v l,cs=[v]∧LS A v l:=by
 obtain⟨v,rows,rfl,h1,h2,_,h3⟩:=h
 refine⟨v,y,rfl,?_⟩
 have e : rows=((y : List Int).map I).map fun x=>[x]:=by
  apply List.ext_getElem
  ·simp[h2]
  ·intro k k1 k2
   have hk : k<(y : List Int).length:=by omega
   obtain⟨e1,_⟩:=h3 k rows[k] ((y : List Int)[k]) (by simp) (by simp[hk])
   rw[e1]
   simp
 rw[e] at h1
 exact⟨h1.one⟩
theorem mv_of {A : Heap} {l : List Value} {y : Ty shMp} (h : Sem A shMp l y) : ∃ o s j M,l=mc o s j M.N∧MV A o s j M:=by
 obtain⟨c1,c2,rfl,h1,d1,d2,rfl,⟨rfl,_⟩,e1,e2,rfl,h3,f1,f2,rfl,h4,h5⟩:=h
 obtain⟨o,O,rfl,ho⟩:=ls_of h1
 obtain⟨s,S,rfl,hs⟩:=ss_of h3
 obtain⟨j,J,rfl,hj⟩:=rs_of h4
 have h5' : f2=[]:=h5
 subst h5'
 exact⟨o,s,j,⟨O,_,S,J⟩,rfl,ho,hs,hj⟩
end Go.Xe.TBX
/- What the functions of the layer border come to: the ranges of a district. Conditions: none. -/
-- MOD TB
namespace Go.Xe.TBX
open Go Go.Xe Go.Proofs
open Nat renaming reduceLeDiff → qA, reduceSub → qB, reduceAdd → qC, reduceEqDiff → qD, reduceLT → qE
open Int renaming reduceNegSucc → qF, reduceEq → qG
open Go.Xe.V renaming seq → sA, block → sB, scope → sC, skip → sD, close → sE
open Go.Xe renaming pth → P
open Go.Xe.Rnd
open Go.Xe.Sea (adl adl_1 adl_at mem_adl pix pix_at pix_adl adl_len)
set_option maxRecDepth 100000
set_option maxHeartbeats 3200000
set_option linter.unusedSimpArgs false
noncomputable def d114 : FCode:=(.seq (.run (.go (.box 62 (tm 0)) (P 2)::
.go (.box 62 (tm 1)) (P 3)::
.go (.alloc 62 [(.int .i64 (.ofNat 0)),(.int .i64 (.ofNat 0))]) (P 4)::
[])) (.seq (.run (.go (.fieldAddr 0 (tm 2)) (P 5)::
.go (.load1 (tm 5)) (P 6)::
.go (.fieldAddr 0 (tm 3)) (P 7)::
.go (.load1 (tm 7)) (P 8)::
.go (.bin .add 3 (tm 6) (tm 8)) (P 9)::
.go (.fieldAddr 1 (tm 2)) (P 10)::
.go (.load1 (tm 10)) (P 11)::
.go (.fieldAddr 1 (tm 3)) (P 12)::
.go (.load1 (tm 12)) (P 13)::
.go (.bin .add 3 (tm 11) (tm 13)) (P 14)::
.go (.build [(.int .i64 (.ofNat 0)),(.int .i64 (.ofNat 0))] [(0,1,(tm 9)),(1,1,(tm 14))]) (P 15)::
.un (.store 2 (tm 4) (tm 15))::
[])) .ret))
theorem de114 : @compF Try.prog (Gl.none Try.prog) Try.f114 2=.mk d114 (mkTT 16) [(P 0),(P 1)] [.many (P 4) 2]:=by kernel_rfl
theorem dg114 : Try.prog.funcs[114]?=some Try.f114:=Try.func114
theorem do114 : okF Try.prog Try.f114=true:=by kernel_rfl
noncomputable def d115 : FCode:=(.seq (.run (.go (.move (.con (.int .i64 (.ofNat 0)))) (P 4)::
[])) (.seq (.seq (.run (.go (.move (tm 1)) (P 7)::
.go (.len 0 (tm 7)) (P 8)::
.go (.move (.con (.int .i64 (.ofNat 0)))) (P 9)::
[])) (.block 0 (.loop (.seq (.run (.go (.bin .lss 3 (tm 9) (tm 8)) (P 10)::
[])) (.seq (.cond (tm 10) .skip (.exit 0)) (.seq (.block 1 (.seq (.run (.go (.indexAddr none 1 (tm 7) (tm 9)) (P 11)::
.go (.load1 (tm 11)) (P 12)::
.go (.move (tm 12)) (P 6)::
[])) (.run (.go (.move (tm 0)) (P 13)::
.go (.move (tm 6)) (P 14)::
.go (.mm false [(tm 13),(tm 14)]) (P 15)::
.go (.move (tm 15)) (P 0)::
[])))) (.run (.go (.bin .add 3 (tm 9) (.con (.int .i64 (.ofNat 1)))) (P 16)::
.go (.move (tm 16)) (P 9)::
[])))))))) (.seq (.run (.go (.move (tm 0)) (P 17)::
.go (.move (tm 17)) (P 4)::
[])) .ret)))
theorem de115 : @compF Try.prog (Gl.none Try.prog) Try.f115 2=.mk d115 (mkTT 18) [(P 0),(P 1)] [.tmp (P 4)]:=by kernel_rfl
theorem dg115 : Try.prog.funcs[115]?=some Try.f115:=Try.func115
theorem do115 : okF Try.prog Try.f115=true:=by kernel_rfl
noncomputable def d95 : FCode:=(.seq (.run (.go (.box 96 (tm 0)) (P 2)::
.go (.alloc 62 [(.int .i64 (.ofNat 0)),(.int .i64 (.ofNat 0))]) (P 4)::
[])) (.seq (.run (.go (.alloc 62 [(.int .i64 (.ofNat 0)),(.int .i64 (.ofNat 0))]) (P 5)::
[])) (.seq (.seq (.run (.go (.loadN 21 (tm 2)) (P 7)::
.go (.fieldAddr 4 (tm 2)) (P 8)::
.go (.loadN 8 (tm 8)) (P 9)::
.go (.move (tm 1)) (P 10)::
.go (.call (.con (.func (.func 94) ⟨[]⟩ ⟨[]⟩)) [(tm 7),(tm 9),(tm 10)]) (P 11)::
[])) (.block 0 (.rangeFunc (tm 11) [(P 12)] (rfA Try.f95 0) (rfB Try.f95 0) (.run (.go (.move (tm 12)) (P 6)::
[])) (.block 1 (.draw 10 (.go (.loadN 2 (tm 5)) (P 13)::
.go (.fieldAddr 0 (tm 2)) (P 14)::
.go (.fieldAddr 2 (tm 14)) (P 15)::
.go (.load1 (tm 15)) (P 16)::
.go (.move (tm 6)) (P 17)::
.go (.indexAddr none 5 (tm 16) (tm 17)) (P 18)::
.go (.fieldAddr 3 (tm 18)) (P 19)::
.go (.loadN 2 (tm 19)) (P 20)::
.go (.call (.con (.func (.func 114) ⟨[]⟩ ⟨[]⟩)) [(tm 13),(tm 20)]) (P 21)::
.un (.store 2 (tm 5) (tm 21))::
[]) [.ok,.ok,.ok,.ok,.ok,.ok,.ok,.ok,.ok,.ok]))))) (.seq (.run (.go (.loadN 2 (tm 5)) (P 22)::
.un (.store 2 (tm 4) (tm 22))::
[])) .ret))))
theorem de95 : @compF Try.prog (Gl.none Try.prog) Try.f95 2=.mk d95 (mkTT 23) [(P 0),(P 1)] [.many (P 4) 2]:=by kernel_rfl
theorem dg95 : Try.prog.funcs[95]?=some Try.f95:=Try.func95
theorem do95 : okF Try.prog Try.f95=true:=by kernel_rfl
def pS (n : Nat) (P : Nat→Prop) [DecidablePred P] (f : Nat→Int) : Int:=sm ((List.range n).map fun i=>if P i then f i else 0)
theorem pS_1 {n : Nat} {P : Nat→Prop} [DecidablePred P] {f : Nat→Int} : pS (n+1) P f=pS n P f+if P n then f n else 0:=by
 unfold pS
 rw[List.range_succ,List.map_append,sm_app]
 simp[sm]
theorem pS_cong {n : Nat} {P Q : Nat→Prop} [DecidablePred P] [DecidablePred Q] {f : Nat→Int} (h : ∀ i,i<n→(P i↔Q i)) : pS n P f=pS n Q f:=by
 unfold pS
 congr 1
 refine List.map_congr_left fun i hi=>?_
 have:=h i (List.mem_range.1 hi)
 by_cases c : P i
 ·rw[if_pos c,if_pos (this.1 c)]
 ·rw[if_neg c,if_neg (fun k=>c (this.2 k))]
theorem pS_bd {n : Nat} {P : Nat→Prop} [DecidablePred P] {f : Nat→Int} {c : Int} (hc : 0≤c) (h : ∀ i,i<n→0≤f i∧f i≤c) : 0≤pS n P f∧pS n P f≤n*c:=by
 have:=sm_bound (c:=c) (l:=(List.range n).map fun i=>if P i then f i else 0) (fun x hx=>by
  obtain⟨i,hi,rfl⟩:=List.mem_map.1 hx
  have:=h i (List.mem_range.1 hi)
  split<;>omega)
 rw[List.length_map,List.length_range] at this
 exact this
theorem adl_sm {v : Nat→Int} {f : Nat→Int} : ∀ n,sm ((adl v n).map f)=pS n (fun i=>0<v i) f
 | 0=>rfl
 | n+1=>by
  rw[adl_1,pS_1,← adl_sm n]
  by_cases h : 0<v n
  ·rw[if_pos h,if_pos h,List.map_append,sm_app];simp[sm]
  ·rw[if_neg h,if_neg h];omega
def aS (v : Nat→Int) (P : Nat→Prop) [DecidablePred P] (f : Nat→Int) (k : Nat) : Int:=sm (((adl v 8).take k).map fun i=>if P i then f i else 0)
theorem aS_1 {v : Nat→Int} {P : Nat→Prop} [DecidablePred P] {f : Nat→Int} {k : Nat} (h : k<(adl v 8).length) : aS v P f (k+1)=aS v P f k+if P (pix v k) then f (pix v k) else 0:=by
 unfold aS
 rw[tk1 h,List.map_append,sm_app,(pix_at h).1]
 simp[sm]
theorem pS_and {n : Nat} {v : Nat→Int} {P : Nat→Prop} [DecidablePred P] {f : Nat→Int} : pS n (fun i=>0<v i) (fun i=>if P i then f i else 0)=pS n (fun i=>0<v i∧P i) f:=by
 unfold pS
 congr 1
 refine List.map_congr_left fun i _=>?_
 by_cases a : 0<v i<;>by_cases b : P i<;>simp[a,b]
theorem pS_out {n m : Nat} {P : Nat→Prop} [DecidablePred P] {f : Nat→Int} (h : ∀ i,n≤i→¬ P i) (hm : n≤m) : pS m P f=pS n P f:=by
 induction m with
 | zero=>
      have : n=0:=by omega
      rw[this]
 | succ m ih=>
  by_cases e : n=m+1
  ·rw[e]
  ·rw[pS_1,if_neg (h m (by omega)),ih (by omega)];omega
theorem aS_end {M : BM} {d : Nat} {P : Nat→Prop} [DecidablePred P] {f : Nat→Int} (h8 : M.S.length≤8) : aS (vd M d) P f (adl (vd M d) 8).length=pS M.S.length (fun i=>oldF M i=d∧P i) f:=by
 unfold aS
 rw[List.take_length,adl_sm,pS_and,pS_out (n:=M.S.length) (fun i hi hh=>by have:=(vd_pos.1 hh.1).1;omega) h8]
 exact pS_cong fun i hi=>and_congr_left fun _=>⟨fun h=>(vd_pos.1 h).2,fun h=>vd_pos.2 ⟨hi,h⟩⟩
theorem aS_bd {v : Nat→Int} {P : Nat→Prop} [DecidablePred P] {f : Nat→Int} {c : Int} {k : Nat} (hc : 0≤c) (h : ∀ i,0<v i→0≤f i∧f i≤c) : 0≤aS v P f k∧aS v P f k≤8*c:=by
 have:=sm_bound (c:=c) (l:=((adl v 8).take k).map fun i=>if P i then f i else 0) (fun x hx=>by
  obtain⟨i,hi,rfl⟩:=List.mem_map.1 hx
  have:=h i (mem_adl.1 (List.mem_of_mem_take hi)).2
  split<;>omega)
 rw[List.length_map,List.length_take] at this
 have hl:=adl_len (v:=v) 8
 have hm : ((min k (adl v 8).length : Nat) : Int)*c≤8*c:=Int.mul_le_mul_of_nonneg_right (by omega) hc
 unfold aS
 omega
def loF (M : BM) : Nat→Int:=fun i=>match M.S[i]? with
 | some s=>s.lo
 | none=>0
def hiF (M : BM) : Nat→Int:=fun i=>match M.S[i]? with
 | some s=>s.hi
 | none=>0
theorem loF_at {M : BM} {i : Nat} (h : i<M.S.length) : loF M i=M.S[i].lo:=by unfold loF;rw[List.getElem?_eq_getElem h]
theorem hiF_at {M : BM} {i : Nat} (h : i<M.S.length) : hiF M i=M.S[i].hi:=by unfold hiF;rw[List.getElem?_eq_getElem h]
theorem sok_lh {M : BM} {s : St} (h : sok M s) : 0≤s.lo∧s.lo≤s.hi∧s.hi≤10000:=by
 unfold sok wi at h
 omega
theorem VM.lh {M : BM} (G : VM M) {i : Nat} (h : i<M.S.length) : 0≤loF M i∧loF M i≤hiF M i∧hiF M i≤10000:=by
 have:=sok_lh (G.s _ (List.getElem_mem h))
 rw[loF_at h,hiF_at h]
 exact this
theorem VM.lb {M : BM} (G : VM M) {i : Nat} (h : i<M.S.length) : 0≤loF M i∧loF M i≤10000:=by have:=G.lh h;omega
theorem VM.hb {M : BM} (G : VM M) {i : Nat} (h : i<M.S.length) : 0≤hiF M i∧hiF M i≤10000:=by have:=G.lh h;omega
abbrev TP : Nat→Prop:=fun _=>True
def lot (M : BM) (d : Nat) : Int:=pS M.S.length (fun i=>oldF M i=d∧TP i) (loF M)
def hit (M : BM) (d : Nat) : Int:=pS M.S.length (fun i=>oldF M i=d∧TP i) (hiF M)
theorem f114_ok {a b c d : Int} (H : Heap) (h : (-1000000≤a∧a≤1000000)∧(-1000000≤b∧b≤1000000)∧(-1000000≤c∧c≤1000000)∧-1000000≤d∧d≤1000000) : Gives Try.prog 114 [.agg ⟨A2 a b⟩,.agg ⟨A2 c d⟩] H (.agg ⟨A2 (a+c) (b+d)⟩):=by
 refine F.entryL rfl dg114 do114 de114 rfl (by kernel_rfl) ?_
 simp only[sets]
 refine V.re [(0,.agg ⟨A2 a b⟩),(1,.agg ⟨A2 c d⟩)] (N:=16) zE zY ?_
 intro t hF hA
 simp only[Kn,and_true] at hA
 refine zS ?_
 refine V.l0 ?_
 refine V.heap (fun X=>Grow H X∧Bx X H.next (A2 a b) 62∧Bx X (H.next+1) (A2 c d) 62∧Bx X (H.next+2) (A2 0 0) 62) ⟨?_,?_,?_,?_⟩ ?_
 ·exact zW
 ·exact zB
 ·exact zB
 ·exact zB
 rintro H1 ⟨g1,b1,c1,d1⟩
 refine zS ?_
 have zf:=And.intro b1.2<|And.intro c1.2<|d1.2
 refine V.lz ?_
 refine zS ?_
 refine V.ret (V.rets rfl (Lv.retG (by simp +contextual (disch:=first|omega|simp only[nx];omega) only[D1,cells_alloc_at,cells_alloc_ne,cells_set_at,cells_set_ne,yres,yres1,yresL,qA,qB,qC,D5,hF,hA,↓reduceIte,qD,qE];rfl) ?_ ?_))
 ·exact g1.set (by omega) _
 ·rfl
theorem f115_ok {H : Heap} {x : Value} {l : List Int} (a : Int) (h : LS H x l) (hn : l.length≤1048576) : Gives Try.prog 115 [I a,x] H (I (lst a l)):=by
 have hl:=h.len
 refine F.entryL rfl dg115 do115 de115 rfl (by kernel_rfl) ?_
 simp only[sets]
 refine V.re [(0,I a),(1,x)] (N:=18) zE zY ?_
 intro t hF hA
 simp only[Kn,and_true] at hA
 refine zS ?_
 refine V.l0 ?_
 refine zS ?_
 have zf:=@hl
 refine V.lz ?_
 refine zS ?_
 refine V.loop (fun z t m X=>∃ (k : Nat),k≤l.length∧z=l.length-k∧m=[]∧Grow H X∧Full 18 t∧Kn [(0,I (lst a (l.take k))),(7,x),(8,I l.length),(9,I k)] t) l.length ?_ ?_
 ·exact⟨0,by omega,by omega,rfl,.refl _,zF,zK⟩
 clear hF hA
 rintro z t m X ⟨k,hk,rfl,rfl,hg,hF,hA⟩
 simp only[Kn,and_true] at hA
 refine zS ?_
 refine V.l0 ?_
 refine zS ?_
 refine V.condP zP (fun hlt=>?_) (fun hlt=>?_)
 ·have hlt' : k<l.length:=by omega
  obtain⟨p,hp,hx⟩:=h.at hlt'
  have hx1:=hx X hg
  have hs : (if l[k]<lst a (l.take k) then l[k] else lst a (l.take k))=lst a (l.take (k+1)):=by
   rw[tk1 hlt',lst_app]
   simp only[lst]
   split<;>omega
  refine zS ?_
  have zf:=And.intro @hp<|@hx1
  refine V.lz ?_
  refine zS ?_
  have zf:=@hs
  refine V.lz ?_
  refine zS ?_
  refine V.l0 ?_
  refine V.nil (Or.inl ⟨rfl,l.length-(k+1),by omega,?_⟩)
  exact⟨k+1,hlt',rfl,rfl,hg,zF,zK⟩
 ·obtain rfl : k=l.length:=by omega
  refine V.exit ?_
  refine zX ?_
  refine V.nil (Or.inr ⟨by simp,?_⟩)
  refine zX ?_
  rw[List.take_length] at hA
  refine zS ?_
  refine V.l0 ?_
  refine zS ?_
  refine V.ret (V.rets rfl (Lv.retG (by simp +contextual (disch:=first|omega|simp only[nx];omega) only[D1,cells_alloc_at,cells_alloc_ne,cells_set_at,cells_set_ne,yres,yres1,yresL,qA,qB,qC,D5,hF,hA,↓reduceIte,qD,qE];rfl) ?_ ?_))
  ·exact hg
  ·rfl
theorem f95_ok {H : Heap} {o s j : Value} {M : BM} {N : Int} {mi d : Nat} (h : MV H o s j M) (G : VM M) : Gives Try.prog 95 [.agg ⟨ac o s j N (oldF M) (newF M) (MPm mi)⟩,I d] H (.agg ⟨A2 (lot M d) (hit M d)⟩):=by
 have hl:=h.s.len
 have hS8:=G.s8
 obtain⟨po,no,co,rfl⟩:=h.o.s.isS
 obtain⟨ps,ns,cs,rfl⟩:=h.s.isS
 obtain⟨pj,nj,cj,rfl⟩:=h.j.isS
 refine F.entryL rfl dg95 do95 de95 rfl (by kernel_rfl) ?_
 simp only[sets]
 refine V.re [(0,.agg ⟨ac (.slice po no co) (.slice ps ns cs) (.slice pj nj cj) N (oldF M) (newF M) (MPm mi)⟩),(1,I d)] (N:=23) zE zY ?_
 intro t hF hA
 simp only[Kn,and_true] at hA
 refine zS ?_
 refine V.l0 ?_
 refine zS ?_
 refine V.l0 ?_
 refine V.heap (fun X=>Grow H X∧Bx X H.next (ac (.slice po no co) (.slice ps ns cs) (.slice pj nj cj) N (oldF M) (newF M) (MPm mi)) 96∧Bx X (H.next+1) (A2 0 0) 62∧Bx X (H.next+2) (A2 0 0) 62) ⟨?_,?_,?_,?_⟩ ?_
 ·exact zW
 ·exact zB
 ·exact zB
 ·exact zB
 rintro H1 ⟨g1,b1,c1,d1⟩
 refine zS ?_
 refine V.run ?_
 have zf:=And.intro b1.2<|@AC
 refine VI.sz 4 ?_
 simp only[ds]
 refine VI.callR zA (f94_ok (cs:=ac (.slice po no co) (.slice ps ns cs) (.slice pj nj cj) N (oldF M) (newF M) (MPm mi)) (f:=oldF M) (d:=(d : Int))) zA (fun w3 H3 ⟨hw3,g3,b3,c3,d3⟩=>?_)
 subst hw3
 have hit':=f113_iter hS8 hl b3 c3 d3
 rw[show ind M.S.length (oldF M) (d : Int)=vd M d from rfl] at hit'
 refine VI.l0 ?_
 have b4:=b1.grow g3
 have c4:=c1.grow g3
 have d4:=d1.grow g3
 have n1:=d1.1
 have n3:=g3.1
 have e3:=d3.1
 have gH3:=g1.trans g3
 refine zS ?_
 refine V.re [(2,PT H.next),(4,PT (H.next+1)),(5,PT (H.next+2)),(11,.func (.func 113) ⟨[]⟩ ⟨[PT H1.next,PT (H1.next+1),PT (H1.next+2)]⟩)] (N:=23) zF zK ?_
 clear hF hA
 intro t hF hA
 simp only[Kn,and_true] at hA
 refine V.rangeL hit' (fun y=>y=H.next+2∨H3.next+1<y) (fun k X=>Bx X H.next (ac (.slice po no co) (.slice ps ns cs) (.slice pj nj cj) N (oldF M) (newF M) (MPm mi)) 96∧Bx X (H.next+1) (A2 0 0) 62∧Bx X (H.next+2) (A2 (aS (vd M d) TP (loF M) k) (aS (vd M d) TP (hiF M) k)) 62) (fun _ _=>False)
  zA rfl (by simp only[Heap.next_alloc];omega) ?_ ?_ ?_ (fun _ _ _ _ _ h=>h.elim) ?_ ?_ ?_
 ·intro i hi
  have hi' : i<H3.next∧i≠H.next+2:=by
   have:=c3.1
   have:=b3.1
   have hn : H.next+3≤H1.next:=by
    have:=d1.1
    omega
   rcases hi with rfl|rfl|rfl<;>omega
  refine⟨by omega,by omega,?_⟩
  rw[Heap.get_alloc,if_neg (by omega)]
 ·intro l hl
  obtain⟨q,_,rfl⟩:=List.mem_map.1 hl
  rfl
 ·rintro k X X' r1 r2 ⟨h1,h2,h3⟩ _ _ gg
  simp only[Heap.next_alloc] at gg
  exact⟨h1.growS gg (by omega),h2.growS gg (by omega),h3.growS gg (by omega)⟩
 ·intro r
  have gg : Grow H3 ((H3.alloc (.deferred true)).alloc (.loop r)):=((Grow.refl H3).alloc _).alloc _
  exact⟨b4.grow gg,c4.grow gg,d4.grow gg⟩
 ·rintro k hk r X ⟨h1,h2,h3⟩ hg hlX hl' hr
  rw[yl_at hk]
  rw[yl_len] at hk
  simp only[sets]
  simp only[Heap.next_alloc] at hlX hl'
  refine zS ?_
  refine V.l0 ?_
  refine V.nil ⟨rfl,hl',.refl _,?_⟩
  intro X2 _ hl2 g2'
  simp only[Heap.next_alloc] at g2' hl2
  have h1:=h1.growS g2' (by omega)
  have h2:=h2.growS g2' (by omega)
  have h3:=h3.growS g2' (by omega)
  have n2':=g2'.1
  have px:=pix_vd hk
  obtain⟨p,hp⟩ : ∃ p,p=pix (vd M d) k:=⟨_,rfl⟩
  have e1:=aS_1 (P:=TP) (f:=loF M) hk
  have e2:=aS_1 (P:=TP) (f:=hiF M) hk
  rw[if_pos trivial] at e1 e2
  rw[← hp] at px e1 e2
  have hlh:=G.lh px.1
  have ab1:=aS_bd (v:=vd M d) (P:=TP) (f:=loF M) (c:=10000) (k:=k) (by omega) (fun i hi=>G.lb (vd_pos.1 hi).1)
  have ab2:=aS_bd (v:=vd M d) (P:=TP) (f:=hiF M) (c:=10000) (k:=k) (by omega) (fun i hi=>G.hb (vd_pos.1 hi).1)
  have hsp:=fun X (g : Grow H X)=>(h.grow g)
  have gHX : Grow H X2:=⟨by have:=hg.1;simp only[Heap.next_alloc] at this;have:=gH3.1;omega,fun i hi=>by
   rw[g2'.2 i (by omega) (by omega),hg.2 i (by simp only[Heap.next_alloc];omega) (by simp only[Heap.next_alloc];omega),Heap.get_alloc,if_neg (by omega)]
   exact gH3.2 i hi⟩
  obtain⟨si,so',s1,s2⟩:=h.s.at px.1
  have s3:=(s2 X2 gHX).2.2.2.2.2.2
  rw[← loF_at px.1,← hiF_at px.1] at s3
  rw[← hp]
  refine zS ?_
  refine V.draw ?_
  have zf:=And.intro h3.2<|And.intro h1.2<|And.intro @AC<|And.intro @s1<|@s3
  refine VD.nz 8 ?_
  simp only[ds]
  refine VD.callA zA (f114_ok (a:=aS (vd M d) TP (loF M) k) (b:=aS (vd M d) TP (hiF M) k) (c:=loF M p) (d:=hiF M p) X2 (by omega)) zA (fun Y gY=>?_)
  have h1':=h1.grow gY
  have h2':=h2.grow gY
  have h3':=h3.grow gY
  have mY:=gY.1
  have q3:=h3'.1
  have zf:=h3'.2
  refine VD.dz ?_ ?_ rfl ?_
  ·exact zM
  ·simp only[dcAll,dcOk,wantD,List.cons_append,List.nil_append,true_and,and_true]
  refine zS ?_
  refine V.nil ⟨?_,?_,.inl ⟨rfl,h1'.set (by omega) _,h2'.set (by omega) _,?_⟩⟩
  ·simp only[Heap.next_alloc]
   rw[Heap.get_set,if_neg (by omega),gY.2 _ (by omega)]
   exact hl2
  ·exact gY.s.set (.inl (.inl rfl)) _
  ·rw[e1,e2]
   exact Bx.put h3'.1 _ _
 ·rintro e X he hg hn
  simp only[Heap.next_alloc] at hg hn
  rcases he with⟨rfl,h1,h2,h3⟩|⟨_,h⟩
  rotate_left
  ·exact h.elim
  rw[yl_len,aS_end hS8,aS_end hS8] at h3
  have h3 : Bx X (H.next+2) (A2 (lot M d) (hit M d)) 62:=h3
  have hgd : X.get H3.next=some (.deferred true):=by
   rw[hg.2 _ (by simp only[Heap.next_alloc];omega) (by simp only[Heap.next_alloc];omega),Heap.get_alloc,if_pos rfl]
  have gX : Grow H X:=⟨Nat.le_trans gH3.1 (Nat.le_trans (Nat.le_succ _) hg.1),fun i hi=>by
   rw[hg.2 i (by simp only[Heap.next_alloc];omega) (by simp only[Heap.next_alloc];omega),Heap.get_alloc,if_neg (by omega)]
   exact gH3.2 i hi⟩
  have q2:=h2.1
  refine zS ?_
  have zf:=And.intro h3.2<|h2.2
  refine V.lz ?_
  refine V.heap (fun Y=>Grow H Y∧Bx Y (H.next+1) (A2 (lot M d) (hit M d)) 62∧Y.get H3.next=some (.deferred true)) ⟨?_,?_,?_⟩ ?_
  ·exact gX.set (by omega) _
  ·exact Bx.put h2.1 _ _
  ·rw[Heap.get_set,if_neg (by omega)];exact hgd
  rintro Y ⟨gY,bY,hgd⟩
  refine zS ?_
  refine V.ret (V.rets rfl (Lv.retM hgd (by simp +contextual (disch:=first|omega|simp only[nx];omega) only[D1,cells_alloc_at,cells_alloc_ne,cells_set_at,cells_set_ne,yres,yres1,yresL,qA,qB,qC,D5,hF,hA,↓reduceIte,qD,qE,bY.2];rfl) ?_))
  exact⟨rfl,gY.set (by omega) _⟩
end Go.Xe.TBX
