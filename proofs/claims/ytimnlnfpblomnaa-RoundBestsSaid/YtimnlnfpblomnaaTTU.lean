/- What the functions of the layer round come to: the statement's own roundings. Conditions: none. -/
import Derived.Test.YtimnlnfpblomnaaTTT
noncomputable section
namespace Go.Xe.TRX
open Go Go.Xe Go.Proofs
open Nat renaming reduceLeDiff ->qA, reduceSub ->qB, reduceAdd ->qC, reduceEqDiff ->qD, reduceLT ->qE
open Int renaming reduceNegSucc ->qF, reduceEq ->qG
open Go.Xe.V renaming seq ->sA, block ->sB, scope ->sC, skip ->sD, close ->sE
open Go.Xe renaming pth ->P
open Go.Xe.Rnd
set_option maxRecDepth 100000
set_option maxHeartbeats 3200000
set_option linter.unusedSimpArgs false
def d32 : FCode:=(.seq (.run (.go (.box 25 (tm 0)) (P 1)::
.go (.alloc 53 [(.int .i64 (.ofNat 0)),(.slice none 0 0),(.int .i64 (.ofNat 0)),(.slice none 0 0)]) (P 2)::
[])) (.seq (.run (.go (.alloc 53 [(.int .i64 (.ofNat 0)),(.slice none 0 0),(.int .i64 (.ofNat 0)),(.slice none 0 0)]) (P 3)::
[])) (.seq (.seq (.run (.go (.move (.con (.int .i64 (.ofNat 0)))) (P 4)::
[])) (.block 0 (.loop (.seq (.seq (.run (.go (.move (tm 4)) (P 9)::
.go (.loadN 3 (tm 1)) (P 10)::
.go (.call (.con (.func (.func 55) ⟨[]⟩ ⟨[]⟩)) [tm 10]) (P 11)::
.go (.conv .u64 (tm 11)) (P 12)::
.go (.bin .shl 3 (.con (.int .i64 (.ofNat 1))) (tm 12)) (P 13)::
.go (.bin .lss 3 (tm 9) (tm 13)) (P 14)::
[])) (.cond (tm 14) .skip (.exit 0))) (.seq (.block 1 (.seq (.run (.go (.loadN 3 (tm 1)) (P 17)::
.go (.move (tm 4)) (P 18)::
.go (.call (.con (.func (.func 57) ⟨[]⟩ ⟨[]⟩)) [(tm 17),(tm 18)]) (P 19)::
.go (.move (tm 19)) (P 5)::
[])) (.seq (.seq (.run (.go (.loadN 3 (tm 1)) (P 20)::
.go (.move (tm 5)) (P 21)::
.go (.call (.con (.func (.func 27) ⟨[]⟩ ⟨[]⟩)) [(tm 20),(tm 21)]) (P 22)::
.go (.un .not (tm 22)) (P 23)::
[])) (.cond (tm 23) (.exit 1) .skip)) (.seq (.seq (.run (.go (.loadN 3 (tm 1)) (P 24)::
.go (.move (tm 5)) (P 25)::
.go (.call (.con (.func (.func 26) ⟨[]⟩ ⟨[]⟩)) [(tm 24),(tm 25)]) (P 26)::
.go (.move (tm 26)) (P 6)::
[])) (.seq (.run (.go (.fieldAddr 0 (tm 3)) (P 27)::
.go (.load1 (tm 27)) (P 28)::
.go (.bin .eql 3 (tm 28) (.con (.int .i64 (.ofNat 0)))) (P 29)::
.go (.move (tm 29)) (P 30)::
.gd (P 30) false (.move (tm 6)) (P 31)::
.gd (P 30) false (.fieldAddr 2 (tm 3)) (P 32)::
.gd (P 30) false (.load1 (tm 32)) (P 33)::
.gd (P 30) false (.bin .lss 3 (tm 31) (tm 33)) (P 34)::
.go (.pick (tm 30) (.con (.bool true)) (tm 34)) (P 35)::
[])) (.cond (tm 35) (.run (.go (.move (tm 5)) (P 36)::
.go (.move (tm 6)) (P 37)::
.go (.fieldAddr 1 (tm 3)) (P 38)::
.un (.store 1 (tm 38) (tm 36))::
.go (.fieldAddr 2 (tm 3)) (P 39)::
.un (.store 1 (tm 39) (tm 37))::
[])) .skip))) (.seq (.seq (.run (.go (.move (.con (.int .i64 (.ofNat 0)))) (P 7)::
[])) (.block 2 (.loop (.seq (.seq (.run (.go (.move (tm 7)) (P 40)::
.go (.move (tm 5)) (P 41)::
.go (.len 0 (tm 41)) (P 42)::
.go (.bin .lss 3 (tm 40) (tm 42)) (P 43)::
[])) (.cond (tm 43) .skip (.exit 2))) (.seq (.block 3 (.seq (.seq (.run (.go (.fieldAddr 0 (tm 3)) (P 46)::
.go (.load1 (tm 46)) (P 47)::
.go (.bin .eql 3 (tm 47) (.con (.int .i64 (.ofNat 0)))) (P 48)::
[])) (.cond (tm 48) (.draw 12 (.go (.fieldAddr 3 (tm 3)) (P 49)::
.go (.load1 (tm 49)) (P 50)::
.go (.move (tm 5)) (P 51)::
.go (.move (tm 7)) (P 52)::
.go (.indexAddr none 1 (tm 51) (tm 52)) (P 53)::
.go (.load1 (tm 53)) (P 54)::
.go (.len 0 (tm 54)) (P 55)::
.go (.makeSlice 61 2 16 [(.int .i64 (.ofNat 0)),(.int .i64 (.ofNat 0))] (tm 55) (tm 55)) (P 56)::
.go (.buildSlice 57 1 [(.slice none 0 0)] [(0,1,(tm 56))]) (P 57)::
.go (.append 57 1 24 (tm 50) (tm 57)) (P 58)::
.go (.fieldAddr 3 (tm 3)) (P 59)::
.un (.store 1 (tm 59) (tm 58))::
[]) [.ok,.rd none (.load1 (tm 49)) (some (P 50)) [8,9],.ok,.ok,.ok,.ok,.ok,.ok,.ok,.ok,.ok,.ok]) .skip)) (.seq (.run (.go (.move (.con (.int .i64 (.ofNat 0)))) (P 8)::
[])) (.block 4 (.loop (.seq (.seq (.run (.go (.move (tm 8)) (P 60)::
.go (.move (tm 5)) (P 61)::
.go (.move (tm 7)) (P 62)::
.go (.indexAddr none 1 (tm 61) (tm 62)) (P 63)::
.go (.load1 (tm 63)) (P 64)::
.go (.len 0 (tm 64)) (P 65)::
.go (.bin .lss 3 (tm 60) (tm 65)) (P 66)::
[])) (.cond (tm 66) .skip (.exit 4))) (.seq (.block 5 (.seq (.seq (.run (.go (.fieldAddr 0 (tm 3)) (P 69)::
.go (.load1 (tm 69)) (P 70)::
.go (.bin .eql 3 (tm 70) (.con (.int .i64 (.ofNat 0)))) (P 71)::
[])) (.cond (tm 71) (.draw 23 (.go (.fieldAddr 3 (tm 3)) (P 72)::
.go (.load1 (tm 72)) (P 73)::
.go (.move (tm 7)) (P 74)::
.go (.indexAddr none 1 (tm 73) (tm 74)) (P 75)::
.go (.load1 (tm 75)) (P 76)::
.go (.move (tm 8)) (P 77)::
.go (.move (tm 5)) (P 78)::
.go (.move (tm 7)) (P 79)::
.go (.indexAddr none 1 (tm 78) (tm 79)) (P 80)::
.go (.load1 (tm 80)) (P 81)::
.go (.move (tm 8)) (P 82)::
.go (.indexAddr none 1 (tm 81) (tm 82)) (P 83)::
.go (.load1 (tm 83)) (P 84)::
.go (.move (tm 5)) (P 85)::
.go (.move (tm 7)) (P 86)::
.go (.indexAddr none 1 (tm 85) (tm 86)) (P 87)::
.go (.load1 (tm 87)) (P 88)::
.go (.move (tm 8)) (P 89)::
.go (.indexAddr none 1 (tm 88) (tm 89)) (P 90)::
.go (.load1 (tm 90)) (P 91)::
.go (.build [(.int .i64 (.ofNat 0)),(.int .i64 (.ofNat 0))] [(0,1,(tm 84)),(1,1,(tm 91))]) (P 92)::
.go (.indexAddr none 2 (tm 76) (tm 77)) (P 93)::
.un (.store 2 (tm 93) (tm 92))::
[]) [.ok,.ok,.ok,.ok,.ok,.ok,.ok,.ok,.ok,.ok,.ok,.ok,.ok,.ok,.ok,.ok,.ok,.ok,.ok,.ok,.ok,.ok,.ok]) .skip)) (.draw 43 (.go (.fieldAddr 3 (tm 3)) (P 94)::
.go (.load1 (tm 94)) (P 95)::
.go (.move (tm 7)) (P 96)::
.go (.indexAddr none 1 (tm 95) (tm 96)) (P 97)::
.go (.load1 (tm 97)) (P 98)::
.go (.move (tm 8)) (P 99)::
.go (.fieldAddr 3 (tm 3)) (P 100)::
.go (.load1 (tm 100)) (P 101)::
.go (.move (tm 7)) (P 102)::
.go (.indexAddr none 1 (tm 101) (tm 102)) (P 103)::
.go (.load1 (tm 103)) (P 104)::
.go (.move (tm 8)) (P 105)::
.go (.indexAddr none 2 (tm 104) (tm 105)) (P 106)::
.go (.fieldAddr 0 (tm 106)) (P 107)::
.go (.load1 (tm 107)) (P 108)::
.go (.move (tm 5)) (P 109)::
.go (.move (tm 7)) (P 110)::
.go (.indexAddr none 1 (tm 109) (tm 110)) (P 111)::
.go (.load1 (tm 111)) (P 112)::
.go (.move (tm 8)) (P 113)::
.go (.indexAddr none 1 (tm 112) (tm 113)) (P 114)::
.go (.load1 (tm 114)) (P 115)::
.go (.mm false [(tm 108),(tm 115)]) (P 116)::
.go (.fieldAddr 3 (tm 3)) (P 117)::
.go (.load1 (tm 117)) (P 118)::
.go (.move (tm 7)) (P 119)::
.go (.indexAddr none 1 (tm 118) (tm 119)) (P 120)::
.go (.load1 (tm 120)) (P 121)::
.go (.move (tm 8)) (P 122)::
.go (.indexAddr none 2 (tm 121) (tm 122)) (P 123)::
.go (.fieldAddr 1 (tm 123)) (P 124)::
.go (.load1 (tm 124)) (P 125)::
.go (.move (tm 5)) (P 126)::
.go (.move (tm 7)) (P 127)::
.go (.indexAddr none 1 (tm 126) (tm 127)) (P 128)::
.go (.load1 (tm 128)) (P 129)::
.go (.move (tm 8)) (P 130)::
.go (.indexAddr none 1 (tm 129) (tm 130)) (P 131)::
.go (.load1 (tm 131)) (P 132)::
.go (.mm true [(tm 125),(tm 132)]) (P 133)::
.go (.build [(.int .i64 (.ofNat 0)),(.int .i64 (.ofNat 0))] [(0,1,(tm 116)),(1,1,(tm 133))]) (P 134)::
.go (.indexAddr none 2 (tm 98) (tm 99)) (P 135)::
.un (.store 2 (tm 135) (tm 134))::
[]) [.ok,.ok,.ok,.ok,.ok,.ok,.ok,.ok,.ok,.ok,.ok,.ok,.ok,.ok,.ok,.ok,.ok,.ok,.ok,.ok,.ok,.ok,.ok,.ok,.ok,.ok,.ok,.ok,.ok,.ok,.ok,.ok,.ok,.ok,.ok,.ok,.ok,.ok,.ok,.ok,.ok,.ok,.ok]))) (.run (.go (.move (tm 8)) (P 67)::
.go (.bin .add 3 (tm 67) (.con (.int .i64 (.ofNat 1)))) (P 68)::
.go (.move (tm 68)) (P 8)::
[]))))))))) (.run (.go (.move (tm 7)) (P 44)::
.go (.bin .add 3 (tm 44) (.con (.int .i64 (.ofNat 1)))) (P 45)::
.go (.move (tm 45)) (P 7)::
[]))))))) (.run (.go (.fieldAddr 0 (tm 3)) (P 136)::
.go (.load1 (tm 136)) (P 137)::
.go (.bin .add 3 (tm 137) (.con (.int .i64 (.ofNat 1)))) (P 138)::
.go (.fieldAddr 0 (tm 3)) (P 139)::
.un (.store 1 (tm 139) (tm 138))::
[]))))))) (.run (.go (.move (tm 4)) (P 15)::
.go (.bin .add 3 (tm 15) (.con (.int .i64 (.ofNat 1)))) (P 16)::
.go (.move (tm 16)) (P 4)::
[]))))))) (.seq (.run (.go (.loadN 4 (tm 3)) (P 140)::
.un (.store 4 (tm 2) (tm 140))::
[])) .ret))))
theorem de32 : @compF Try.prog (Gl.none Try.prog) Try.f32 1=.mk d32 (mkTT 141) [(P 0)] [.many (P 2) 4]:=by kernel_rfl
theorem dg32 : Try.prog.funcs[32]?=some Try.f32:=Try.func32
theorem do32 : okF Try.prog Try.f32=true:=by kernel_rfl
def rcs (m : Nat) (f : Nat->Int×Int) : List Value:=(List.range (2*m)).map λi=>if i%2=0 then I (f (i/2)).1 else I (f (i/2)).2
theorem rcs_len (m : Nat) (f : Nat->Int×Int) : (rcs m f).length=2*m:=by simp[rcs]
theorem rcs_at {m : Nat} {f : Nat->Int×Int} {c : Nat} (h : c<m) : (rcs m f)[2*c]?=some (I (f c).1)/\(rcs m f)[2*c+1]?=some (I (f c).2):=by
 unfold rcs
 rw[List.getElem?_map,List.getElem?_map,List.getElem?_range (by omega),List.getElem?_range (by omega)]
 constructor
 ·show some (if 2*c%2=0 then I (f (2*c/2)).1 else I (f (2*c/2)).2)=_
  rw[if_pos (by omega),show 2*c/2=c by omega]
 ·show some (if (2*c+1)%2=0 then I (f ((2*c+1)/2)).1 else I (f ((2*c+1)/2)).2)=_
  rw[if_neg (by omega),show (2*c+1)/2=c by omega]
def upR (f : Nat->Int×Int) (c : Nat) (v : Int×Int) : Nat->Int×Int:=λc'=>if c'=c then v else f c'
theorem rcs_set {m : Nat} {f : Nat->Int×Int} {c : Nat} (h : c<m) (v : Int×Int) : ((rcs m f).set (2*c) (I v.1)).set (2*c+1) (I v.2)=rcs m (upR f c v):=by
 apply List.ext_getElem
 ·simp[rcs_len]
 ·intro i h1 h2
  rw[rcs_len] at h2
  obtain⟨d,hd⟩ : ∃ d,i=2*d\/i=2*d+1:=⟨i/2,by omega⟩
  have hdm : d<m:=by omega
  obtain⟨a1,a2⟩:=rcs_at (f:=f) hdm
  obtain⟨b1,b2⟩:=rcs_at (f:=upR f c v) hdm
  apply Option.some.inj
  rw[<- List.getElem?_eq_getElem,<- List.getElem?_eq_getElem]
  rcases hd with rfl|rfl
  ·rw[List.getElem?_set_ne (by omega),b1]
   by_cases e : d=c
   ·subst e
    rw[List.getElem?_set_self (by rw[rcs_len];omega)]
    unfold upR;rw[if_pos rfl]
   ·rw[List.getElem?_set_ne (by omega),a1]
    unfold upR;rw[if_neg e]
  ·rw[b2]
   by_cases e : d=c
   ·subst e
    rw[List.getElem?_set_self (by rw[List.length_set,rcs_len];omega)]
    unfold upR;rw[if_pos rfl]
   ·rw[List.getElem?_set_ne (by omega),List.getElem?_set_ne (by omega),a2]
    unfold upR;rw[if_neg e]
theorem mk_rng (H : Heap) (m : Nat) (hm : m<=1048576) : ymakeSlice 61 16 [I 0,I 0] H (I m) (I m)=some (.slice (some ⟨H.next,0,none⟩) m m,H.alloc (.cells ⟨rcs m (λ_=>(0,0))⟩ 61 true)):=by
 have e48 : (2 : Nat) ^ 48=281474976710656:=by decide
 have ez : zeros ⟨[I 0,I 0]⟩ ((m : Int).toNat*[I 0,I 0].length)=⟨rcs m (λ_=>(0,0))⟩:=by
  apply Array.toList_inj.1
  simp only[zeros,Array.toList_map,Array.toList_range,List.length_cons,List.length_nil]
  apply List.ext_getElem
  ·simp[rcs];omega
  ·intro j h1 h2
   have : j%2=0\/j%2=1:=by omega
   rcases this with e|e<;>simp[rcs,e]
 simp only[ymakeSlice]
 rw[if_pos ⟨by omega,by omega,by omega,by omega⟩,ez]
 simp
def MM (m : Nat) (L : List (List (List Int))) (r : Nat) (R : Nat->Int×Int) : Prop:=∀ c,c<m->(∀ N∈L,(R c).1<=(N.getD r []).getD c 0/\(N.getD r []).getD c 0<=(R c).2)/\(∃ N∈L,(N.getD r []).getD c 0=(R c).1)/\∃ N∈L,(N.getD r []).getD c 0=(R c).2
def nxR (w : Nat) (R : Nat->Int×Int) (x : List Int) : Nat->Int×Int:=λc=>if w=0 then (x.getD c 0,x.getD c 0) else (min (R c).1 (x.getD c 0),max (R c).2 (x.getD c 0))
theorem MM.next {m : Nat} {L : List (List (List Int))} {r : Nat} {R : Nat->Int×Int} {N : List (List Int)} (h : L.length≠0->MM m L r R) : MM m (L++[N]) r (nxR L.length R (N.getD r [])):=by
 intro c hc
 unfold nxR
 by_cases h0 : L.length=0
 ·have : L=[]:=List.length_eq_zero_iff.1 h0
  subst this
  simp
 ·rw[if_neg h0]
  obtain⟨h1,h2,h3⟩:=h h0 c hc
  simp only
  refine⟨λM hM=>?_,?_,?_⟩
  ·rcases List.mem_append.1 hM with hM|hM
   ·have:=h1 M hM;omega
   ·rw[List.mem_singleton.1 hM];omega
  ·by_cases hm : (N.getD r []).getD c 0<=(R c).1
   ·exact⟨N,by simp,by omega⟩
   ·obtain⟨M,hM,e⟩:=h2
    exact⟨M,by simp[hM],by omega⟩
  ·by_cases hm : (R c).2<=(N.getD r []).getD c 0
   ·exact⟨N,by simp,by omega⟩
   ·obtain⟨M,hM,e⟩:=h3
    exact⟨M,by simp[hM],by omega⟩
def Lk (T : Tb) (k : Nat) : List (List (List Int)):=((List.range k).map λq : Nat=>(tabN T.b T.C (q : Int)).1).filter λN=>decide (isr T N)
theorem Lk_s (T : Tb) (k : Nat) : Lk T (k+1)=Lk T k++if isr T (tabN T.b T.C (k : Int)).1 then [(tabN T.b T.C (k : Int)).1] else []:=by
 unfold Lk
 rw[List.range_succ,List.map_append,List.filter_append]
 congr 1
 by_cases h : isr T (tabN T.b T.C (k : Int)).1
 ·rw[if_pos h];simp[h]
 ·rw[if_neg h];simp[h]
def spL (n m : Nat) (R : Nat->Nat->Int×Int) : List (Nat×List Value):=(List.range n).map λr=>(m,rcs m (R r))
theorem spL_len (n m : Nat) (R : Nat->Nat->Int×Int) : (spL n m R).length=n:=by simp[spL]
theorem spL_at {n m : Nat} {R : Nat->Nat->Int×Int} {r : Nat} (h : r<(spL n m R).length) : (spL n m R)[r]=(m,rcs m (R r)):=by simp[spL]
theorem spL_s (n m : Nat) (R : Nat->Nat->Int×Int) : spL (n+1) m R=spL n m R++[(m,rcs m (R n))]:=by
 unfold spL;rw[List.range_succ,List.map_append];rfl
theorem spL_set {n m : Nat} {R : Nat->Nat->Int×Int} {r : Nat} (f : Nat->Int×Int) : (spL n m R).set r (m,rcs m f)=spL n m (λr'=>if r'=r then f else R r'):=by
 apply List.ext_getElem
 ·simp[spL_len]
 ·intro i h1 h2
  rw[List.getElem_set]
  split
  ·rename_i e
   simp only[spL_at]
   rw[if_pos e.symm]
  ·rename_i e
   simp only[spL_at]
   rw[if_neg (λh=>e h.symm)]
theorem Oc.setC {n0 : Nat} {col : Nat->Nat} {c : Nat} {H : Heap} {e : TypeId} {v : Value} {n : Nat} {cs : List Value} (h : Oc n0 col c H e v n cs) (hn : 0<n) : ∃ b,v=.slice (some ⟨b,0,none⟩) n n/\n0<=b/\b<H.next/\H.cellsAt b=some (⟨cs⟩,e,true)/\∀ cs',Oc n0 col c (H.set b (.cells ⟨cs'⟩ e true)) e v n cs'/\St n0 (·=c) col H col (H.set b (.cells ⟨cs'⟩ e true)):=by
 rcases h with⟨_,e0,_⟩|⟨b,h1,h2,h3,h4,h5⟩
 ·omega
 ·refine⟨b,h4,h1,h2,h5,λcs'=>⟨.inr ⟨b,h1,h2,h3,h4,cells_set _ _ _ _ _⟩,by simp only[Heap.next_set];omega,λ_ _=>rfl,λj hj hc=>?_⟩⟩
  rw[Heap.get_set,if_neg]
  rintro rfl
  rcases hc with hc|hc
  ·omega
  ·exact hc h3
theorem shl_ok : ∀ k : Nat,k<=11->xbinOp Try.prog .shl 3 (I 1) (.int .u64 (k : Nat))=some (I (2 ^ k : Nat))
 | 0,_=>rfl
 | 1,_=>rfl
 | 2,_=>rfl
 | 3,_=>rfl
 | 4,_=>rfl
 | 5,_=>rfl
 | 6,_=>rfl
 | 7,_=>rfl
 | 8,_=>rfl
 | 9,_=>rfl
 | 10,_=>rfl
 | 11,_=>rfl
 | k+12,h=>by omega
theorem wrp_ok : ∀ k : Nat,k<=11->IntKind.u64.wrap (k : Nat)=(k : Int)
 | 0,_=>rfl
 | 1,_=>rfl
 | 2,_=>rfl
 | 3,_=>rfl
 | 4,_=>rfl
 | 5,_=>rfl
 | 6,_=>rfl
 | 7,_=>rfl
 | 8,_=>rfl
 | 9,_=>rfl
 | 10,_=>rfl
 | 11,_=>rfl
 | k+12,h=>by omega
theorem cN_rd {b n q : Int} (hb : 2<=b) (hn : 0<=n) (hq : 0<=q) : rd b (cN b n q) n:=by
 obtain⟨_,_,q3,q4,q5⟩:=lo_dvd hb hn
 have ht:=tmod2 hq
 unfold cN
 by_cases hf : 0<n.tmod b
 ·rw[if_pos hf]
  have hne : hi b n≠lo b n:=by
   intro e
   have : lo b n=n-n.tmod b:=rfl
   omega
  have e2 : hi b n=lo b n+b:=by
   rcases q5 with e|e
   ·exact absurd e hne
   ·exact e
  rcases (by omega : q.tmod 2=0\/q.tmod 2=1) with e|e
  ·left;rw[e];omega
  ·right;rw[e,e2];omega
 ·rw[if_neg hf];exact .inl rfl
theorem rowN_rd {b : Int} (hb : 2<=b) : ∀ (l : List Int) (q : Int),0<=q->(∀ n∈l,0<=n)->∀ j,j<l.length->rd b ((rowN b l q).1.getD j 0) (l.getD j 0)
 | [],_,_,_,j,h=>absurd h (Nat.not_lt_zero _)
 | n::l,q,hq,hn,0,_=>cN_rd hb (hn n (by simp)) (rowN_q b l hq).1
 | n::l,q,hq,hn,j+1,h=>rowN_rd hb l q hq (λm hm=>hn m (by simp[hm])) j (by simpa using h)
theorem tabN_rd {b : Int} (hb : 2<=b) : ∀ (C : List (List Int)) (q : Int),0<=q->(∀ l∈C,∀ n∈l,0<=n)->∀ i j,i<C.length->j<(C.getD i []).length->rd b (((tabN b C q).1.getD i []).getD j 0) ((C.getD i []).getD j 0)
 | [],_,_,_,i,_,h,_=>absurd h (Nat.not_lt_zero _)
 | l::C,q,hq,hn,0,j,_,hj=>rowN_rd hb l _ (tabN_q b C hq).1 (hn l (by simp)) j hj
 | l::C,q,hq,hn,i+1,j,hi,hj=>tabN_rd hb C q hq (λm hm=>hn m (by simp[hm])) i j (by simpa using hi) hj
theorem tabN_can {T : Tb} (hv : valid T) {q : Int} (hq : 0<=q) : can T (tabN T.b T.C q).1:=by
 refine⟨tabN_len _ _ _,λrow hr=>?_⟩
 obtain⟨i,hi,rfl⟩:=List.mem_iff_getElem.1 hr
 have hi2 : i<T.C.length:=by rw[<- tabN_len T.b T.C q];exact hi
 have e1:=tabN_row T.b T.C q i hi hi2
 have e2:=hv.2.2.1 _ (List.getElem_mem hi2)
 refine⟨by rw[e1];exact e2.1,λv hv'=>?_⟩
 obtain⟨j,hj,rfl⟩:=List.mem_iff_getElem.1 hv'
 have:=tabN_rd hv.1.1 T.C q hq (λl hl n hn=>((hv.2.2.1 l hl).2 n hn).1) i j hi2 (by rw[gdl hi2,<- e1];exact hj)
 rw[gdl hi,List.getD_eq_getElem?_getD,List.getElem?_eq_getElem hj] at this
 exact rd_bd hv.1 (cell_bd hv i j) this
theorem Bst.loc2 {S S' : Nat->Prop} {X Y : Heap} {u : Value} {N : List (List Int)} (h : Bst S X u N) (hn : X.next<=Y.next) (hS : ∀ i,i<X.next->S i->S' i) (k : ∀ i,S i->i<X.next->Y.get i=X.get i) : Bst S' Y u N:=by
 obtain⟨vs,h1,h2,h3,h4⟩:=h
 refine⟨vs,h1.loc hn (λi hi=>k i (h2 i hi) (h1.ltN hi)),λi hi=>hS i (h1.ltN hi) (h2 i hi),h3,λj x r hx hr=>?_⟩
 obtain⟨q1,q2⟩:=h4 j x r hx hr
 exact⟨ri.loc q1 hn (λi hi=>k i (q2 i hi) (ri.lt q1 hi)),λi hi=>hS i (ri.lt q1 hi) (q2 i hi)⟩
theorem set_same {α : Type} {l : List α} {i : Nat} {a : α} (h : l[i]?=some a) : l.set i a=l:=by
 apply List.ext_getElem?
 intro j
 by_cases e : j=i
 ·subst e
  rw[List.getElem?_set_self (List.getElem?_eq_some_iff.1 h).1,h]
 ·rw[List.getElem?_set_ne (Ne.symm e)]
theorem rcs_congr {m : Nat} {f g : Nat->Int×Int} (h : ∀ c,c<m->f c=g c) : rcs m f=rcs m g:=by
 unfold rcs
 refine List.map_congr_left (λi hi=>?_)
 have:=List.mem_range.1 hi
 rw[h (i/2) (by omega)]
theorem rcs_flat (f : Nat->Int×Int) : ∀ m,rcs m f=(((List.range m).map f).map λp=>A2 p.1 p.2).flatten
 | 0=>rfl
 | m+1=>by
  have e1 : rcs (m+1) f=rcs m f++A2 (f m).1 (f m).2:=by
   unfold rcs
   rw[show 2*(m+1)=2*m+1+1 by omega,List.range_succ,List.range_succ,List.map_append,List.map_append,List.append_assoc]
   congr 1
   show [if 2*m%2=0 then I (f (2*m/2)).1 else I (f (2*m/2)).2]++[if (2*m+1)%2=0 then I (f ((2*m+1)/2)).1 else I (f ((2*m+1)/2)).2]=_
   rw[if_pos (by omega),if_neg (by omega),show 2*m/2=m by omega,show (2*m+1)/2=m by omega]
   rfl
  rw[e1,rcs_flat f m,List.range_succ,List.map_append,List.map_append,List.flatten_append]
  rfl
theorem spL_congr {n m : Nat} {R Q : Nat->Nat->Int×Int} (h : ∀ r,r<n->∀ c,c<m->R r c=Q r c) : spL n m R=spL n m Q:=by
 unfold spL
 refine List.map_congr_left (λr hr=>?_)
 rw[rcs_congr (h r (List.mem_range.1 hr))]
abbrev RS2 (H : Heap) (x : Value) (l : List (Int×Int)) : Prop:=Sw 2 H x (l.map λp=>A2 p.1 p.2)
theorem f32_ok {H : Heap} {c f : Value} {T : Tb} (h : TV H c f T) (hf : fits T) (hv : valid T) (hfr : frT T.b T.C<=11) : F Try.prog 32 ⟨[.agg ⟨[I T.b,c,f]⟩]⟩ H (λw X=>Grow H X/\∃ (bv sv : Value) (R : Nat->Nat->Int×Int),w=.agg ⟨[I (best T).w,bv,I (best T).c,sv]⟩/\Nest RI X bv (best T).b/\Nest RS2 X sv (if (best T).w=0 then [] else (List.range T.C.length).map λr=>(List.range (cols T)).map (R r))/\((best T).w≠0->∀ r,r<T.C.length->MM (cols T) (rnds T) r (R r))):=by
 have hC5:=hf.1
 have hc4:=cols_le hf
 have hshl:=shl_ok _ hfr
 have hn0 : 0<T.C.length:=by
  have:=hv.2.1
  unfold cols at this
  cases hc : T.C with
  | nil=>rw[hc] at this;simp at this
  | cons a l=>simp
 obtain⟨fr,hfrE⟩ : ∃ fr,fr=frT T.b T.C:=⟨_,rfl⟩
 rw[<- hfrE] at hfr hshl
 have hwrp:=wrp_ok _ hfr
 have hp2 : 2 ^ fr<=2 ^ 11:=Nat.pow_le_pow_right (by omega) hfr
 obtain⟨mc,hm⟩ : ∃ mc,mc=cols T:=⟨_,rfl⟩
 obtain⟨n,hn⟩ : ∃ n,n=T.C.length:=⟨_,rfl⟩
 have hm0 : 0<mc:=by rw[hm];exact hv.2.1
 refine F.entryL rfl dg32 do32 de32 rfl (by kernel_rfl) ?_
 simp only[sets]
 refine V.re [(0,.agg ⟨[I T.b,c,f]⟩)] (N:=141) zE zY ?_
 intro t hF hA
 simp only[Kn,and_true] at hA
 refine zS ?_
 refine V.l0 ?_
 refine V.heap (λX=>Grow H X/\Bx X H.next [I T.b,c,f] 25/\Bx X (H.next+1) [I 0,.slice none 0 0,I 0,.slice none 0 0] 53) ⟨?_,?_,?_⟩ ?_
 ·exact zW
 ·exact zB
 ·exact zB
 rintro H1 ⟨g1,b1,c1⟩
 have n1:=c1.1
 refine zS ?_
 refine V.l0 ?_
 refine V.heap (λX=>Grow H X/\Bx X H.next [I T.b,c,f] 25/\Bx X (H.next+1) [I 0,.slice none 0 0,I 0,.slice none 0 0] 53/\Bx X H1.next [I 0,.slice none 0 0,I 0,.slice none 0 0] 53) ⟨?_,?_,?_,?_⟩ ?_
 ·exact zW
 ·exact zB
 ·exact zB
 ·exact zB
 rintro H3 ⟨g3,b3,c3,x3⟩
 have n3:=x3.1
 refine zS ?_
 refine V.l0 ?_
 refine zS ?_
 refine V.loop (λz t m X=>∃ (k : Nat) (col : Nat->Nat) (vs : List Value) (bv sv : Value) (R : Nat->Nat->Int×Int),k<=2 ^ fr/\z=2 ^ fr-k/\m=[]/\GrowS (·=H1.next) H3 X/\(∀ i,X.next<=i->col i=100)/\Bx X H1.next [I (rsf (chg T.C) (Lk T k)).w,bv,I (rsf (chg T.C) (Lk T k)).c,sv] 53/\Bst (λi=>H3.next<=i/\col i=100) X bv (rsf (chg T.C) (Lk T k)).b/\Oc H3.next col 0 X 57 sv (if (Lk T k).length=0 then 0 else n) vs/\Rws H3.next col (λr=>r+1) X 61 vs (if (Lk T k).length=0 then [] else spL n mc R)/\((Lk T k).length≠0->∀ r,r<n->MM mc (Lk T k) r (R r))/\Full 141 t/\Kn [(1,PT H.next),(2,PT (H.next+1)),(3,PT H1.next),(4,I k)] t) (2 ^ fr) ?_ ?_
 ·refine⟨0,λ_=>100,[],.slice none 0 0,.slice none 0 0,λ_ _=>(0,0),Nat.zero_le _,(Nat.sub_zero _).symm,rfl,.refl _,λ_ _=>rfl,x3,.nil _ _,.nil,⟨rfl,λk x r hx=>by simp at hx⟩,λhh=>absurd rfl hh,zF,zK⟩
 clear hF hA
 rintro z t m X ⟨k,col,vs,bv,sv,R,hk,rfl,rfl,hg,hfre,hx,hb0,oo,rw0,hmm,hF,hA⟩
 simp only[Kn,and_true] at hA
 have bX:=b3.growS hg (by omega)
 have mX:=hg.1
 have gX : Grow H X:=⟨by have:=g3.1;omega,λi hi=>by rw[hg.2 i (by have:=g3.1;omega) (by omega),g3.2 i hi]⟩
 have hf55:=λY (gY : Grow H Y)=>f55_ok (h.grow gY) hf hv
 rw[<- hfrE] at hf55
 refine zS ?_
 refine V.run ?_
 have zf:=bX.2
 refine VI.sz 2 ?_
 simp only[ds]
 refine VI.callA rfl (hf55 _ gX) zA (λX1 e1=>?_)
 have bX1:=bX.grow e1
 have gX1:=gX.trans e1
 have mX1:=e1.1
 have zf:=aI @hwrp<|@hshl
 refine VI.lz ?_
 refine zS ?_
 refine V.condP zP (λhlt=>?_) (λhlt=>?_)
 ·have hk' : k<2 ^ fr:=by omega
  obtain⟨N,hN⟩ : ∃ N,N=(tabN T.b T.C (k : Int)).1:=⟨_,rfl⟩
  have hcan : can T N:=by rw[hN];exact tabN_can hv (by omega)
  refine zS ?_
  refine V.run ?_
  have zf:=bX1.2
  refine VI.sz 2 ?_
  simp only[ds]
  refine VI.callR zA (f57_ok (q0:=(k : Int)) (h.grow gX1) hf hv (by omega)) zA (λw2 X2 ⟨e2,nb2⟩=>?_)
  rw[<- hN] at nb2
  obtain⟨px,nx,cx,rfl⟩:=nb2.isS
  have bX2:=bX1.grow e2
  have gX2:=gX1.trans e2
  have mX2:=e2.1
  have hf27:=f27_ok (h.grow gX2) nb2.nest hf hv hcan
  have eis : decide (rir T N)=decide (isr T N):=decide_eq_decide.2 (rir_isr hf hv hcan)
  rw[eis] at hf27
  have hLs:=Lk_s T k
  rw[<- hN] at hLs
  by_cases his : isr T N
  ·rw[decide_eq_true his] at hf27
   rw[if_pos his] at hLs
   refine VI.l0 ?_
   refine zS ?_
   refine V.run ?_
   have zf:=bX2.2
   refine VI.sz 2 ?_
   simp only[ds]
   refine VI.callA rfl (hf27) zA (λX3 e3=>?_)
   have bX3:=bX2.grow e3
   have gX3:=gX2.trans e3
   have mX3:=e3.1
   have e13:=(e1.trans e2).trans e3
   refine VI.l0 ?_
   refine zS ?_
   refine V.condF zA ?_
   obtain⟨w,hw⟩ : ∃ w,w=(Lk T k).length:=⟨_,rfl⟩
   have hwr : (rsf (chg T.C) (Lk T k)).w=w:=by rw[rsf_w,hw]
   have hsr:=sr_bd hf hv (k:=T.C.length) (g:=due []) (Nat.le_refl _)
   have hwk : w<=k:=by
    rw[hw]
    unfold Lk
    have:=List.length_filter_le (λN=>decide (isr T N)) ((List.range k).map λq : Nat=>(tabN T.b T.C (q : Int)).1)
    rw[List.length_map,List.length_range] at this
    exact this
   obtain⟨rc,hrc⟩ : ∃ rc,rc=rsf (chg T.C) (Lk T k):=⟨_,rfl⟩
   rw[<- hrc] at hx hb0 hwr
   rw[<- hw] at oo rw0 hmm
   rw[hwr] at hx
   have hNm : N∈rnds T:=rnds_mem.2 ⟨⟨hcan.1,λrow hr=>(hcan.2 row hr).1⟩,his⟩
   have hcN:=fco_bd hf hv (k:=T.C.length) (Nat.le_refl _) hNm
   have efc : fco T T.C.length N=chg T.C N:=by unfold fco;rw[Nat.sub_self,List.drop_zero]
   rw[efc] at hcN
   obtain⟨rs',hrs'⟩ : ∃ rs',rs'=rsf (chg T.C) (Lk T (k+1)):=⟨_,rfl⟩
   have hstep : rs'=if w=0\/chg T.C N<rc.c then ⟨w+1,chg T.C N,N⟩ else ⟨w+1,rc.c,rc.b⟩:=by
    rw[hrs',hLs,rsf_app,<- hrc]
    have e1 : rsf (chg T.C) [N]=⟨1,chg T.C N,N⟩:=rfl
    rw[e1,cmb_nz _ (by simp),hwr]
   have hf26:=f26_ok (h.grow gX3) (nb2.nest.grow ri e3) hf hv hcan
   refine zS ?_
   refine V.run ?_
   have zf:=bX3.2
   refine VI.sz 2 ?_
   simp only[ds]
   refine VI.callA rfl (hf26) zA (λX4 e4=>?_)
   have e14:=e13.trans e4
   have bX4:=bX3.grow e4
   have gX4:=gX3.trans e4
   have mX4:=e4.1
   have hx4:=hx.grow e14
   have hb4:=hb0.growS (e14.s (U:=λ_=>False)) (λ_ hh=>hh.elim) (λ_=>id)
   have nb4 : Bst (λi=>H3.next<=i/\col i=100) X4 (.slice px nx cx) N:=nb2.loc (by omega) (λi (hi : X1.next<=i)=>⟨by omega,hfre i (by omega)⟩) (λi _ hlt=>(e3.trans e4).2 i hlt)
   obtain⟨pbv,nbv,cbv,rfl⟩:=hb0.isS
   obtain⟨psv,nsv,csv,rfl⟩:=oo.slice
   refine VI.l0 ?_
   refine zS ?_
   have zf:=hx4.2
   refine V.lz ?_
   refine zS ?_
   refine V.join (λt m Y=>∃ bv',GrowS (·=H1.next) X4 Y/\Y.next=X4.next/\m=[]/\Bx Y H1.next [I w,bv',I rs'.c,.slice psv nsv csv] 53/\Bst (λi=>H3.next<=i/\col i=100) Y bv' rs'.b/\Full 141 t/\Kn [(1,PT H.next),(2,PT (H.next+1)),(3,PT H1.next),(4,I k),(5,.slice px nx cx)] t) ?_ ?_
   ·refine V.condP zP (λhbst=>?_) (λhbst=>?_)
    ·have hc' : w=0\/chg T.C N<rc.c:=by omega
     rw[if_pos hc'] at hstep
     refine zS ?_
     have zf:=hx4.2
     refine V.lz ?_
     refine V.nil (Or.inl ⟨rfl,.slice px nx cx,(GrowS.setAt _ _ _).trans (GrowS.setAt _ _ _),rfl,rfl,?_,?_,zF,zK⟩)
     ·rw[hstep]
      exact⟨by simp only[Heap.next_set];exact hx4.1,cells_set _ _ _ _ _⟩
     ·rw[hstep]
      refine nb4.growS ((GrowS.setAt _ _ _).trans (GrowS.setAt _ _ _)) (λi (hi : i=H1.next) hs=>by have:=hs.1;omega) (λ_=>id)
    ·have hc' : ¬ (w=0\/chg T.C N<rc.c):=by omega
     rw[if_neg hc'] at hstep
     refine zS ?_
     refine V.nil (Or.inl ⟨rfl,.slice pbv nbv cbv,.refl _,rfl,rfl,?_,?_,zF,zK⟩)
     ·rw[hstep];exact hx4
     ·rw[hstep];exact hb4
   clear hF hA
   rintro t _ Y ⟨bv',gY,nY,rfl,xY,bY',hF,hA⟩
   simp only[Kn,and_true] at hA
   have loc1 : ∀ i,H3.next<=i->i<X4.next->Y.get i=X4.get i:=λi h1 h2=>gY.2 i h2 (by omega)
   have ooY:=(oo.grow e14).loc (B:=Y) (by omega) loc1
   have rwY:=(rw0.grow e14).loc (B:=Y) (by omega) loc1
   have nbY : Bst (λi=>H3.next<=i/\col i=100) Y (.slice px nx cx) N:=nb4.loc (by omega) (λ_=>id) (λi hi hlt=>loc1 i hi.1 hlt)
   have hgY : GrowS (·=H1.next) H3 Y:=(hg.trans e14.s).trans gY
   have hfrY : ∀ i,Y.next<=i->col i=100:=λi hi=>hfre i (by omega)
   obtain⟨pb,nb',cb,rfl⟩:=bY'.isS
   obtain⟨R',hR'⟩ : ∃ R' : Nat->Nat->Int×Int,R'=λr=>nxR w (R r) (N.getD r []):=⟨_,rfl⟩
   have hNl:=hcan.1
   have hln:=nbY.nest.len
   obtain⟨Lr,hLr⟩ : ∃ Lr : Nat->List (Nat×List Value),Lr=λr=>if w=0 then spL r mc R' else spL n mc (λr'=>if r'<r then R' r' else R r'):=⟨_,rfl⟩
   obtain⟨Lm,hLm⟩ : ∃ Lm : Nat->List (Nat×List Value),Lm=λr=>if w=0 then spL r mc R'++[(mc,rcs mc λ_=>(0,0))] else spL n mc (λr'=>if r'<r then R' r' else R r'):=⟨_,rfl⟩
   have hLr0 : Lr 0=if w=0 then [] else spL n mc R:=by
    rw[hLr]
    simp only[Nat.not_lt_zero,if_false]
    rfl
   refine zS ?_
   refine V.l0 ?_
   refine zS ?_
   refine V.loop (λz t m Z=>∃ (r : Nat) (col1 : Nat->Nat) (sv1 : Value) (vs1 : List Value),r<=n/\z=n-r/\m=[]/\GrowS (·=H1.next) H3 Z/\(∀ i,Z.next<=i->col1 i=100)/\Bx Z H1.next [I w,.slice pb nb' cb,I rs'.c,sv1] 53/\Bst (λi=>H3.next<=i/\col1 i=100) Z (.slice pb nb' cb) rs'.b/\Bst (λi=>H3.next<=i/\col1 i=100) Z (.slice px nx cx) N/\Oc H3.next col1 0 Z 57 sv1 (if w=0 then r else n) vs1/\Rws H3.next col1 (λr=>r+1) Z 61 vs1 (Lr r)/\Full 141 t/\Kn [(1,PT H.next),(2,PT (H.next+1)),(3,PT H1.next),(4,I k),(5,.slice px nx cx),(7,I r)] t) n ?_ ?_
   ·refine⟨0,col,_,vs,Nat.zero_le _,(Nat.sub_zero _).symm,rfl,hgY,hfrY,xY,bY',nbY,?_,by rw[hLr0];exact rwY,zF,zK⟩
    exact ooY
   clear hF hA
   rintro z t m Z ⟨r,col1,sv1,vs1,hr,rfl,rfl,hgZ,hfrZ,xZ,bvZ,nbZ,ooZ,rwZ,hF,hA⟩
   simp only[Kn,and_true] at hA
   have mZ:=hgZ.1
   refine zS ?_
   have zf:=@hln
   refine V.lz ?_
   refine zS ?_
   refine V.condP zP (λhlr=>?_) (λhlr=>?_)
   ·have hrN : r<N.length:=by omega
    have hrC : r<T.C.length:=by omega
    have hrow:=hcan.2 _ (List.getElem_mem hrN)
    have hrl : (N[r]).length=mc:=by rw[hm];exact hrow.1
    obtain⟨psv1,nsv1,csv1,rfl⟩:=ooZ.slice
    refine zS ?_
    have zf:=xZ.2
    refine V.lz ?_
    refine zS ?_
    refine V.join (λt m Q=>∃ (col2 : Nat->Nat) (sv2 : Value) (vs2 : List Value),m=[]/\GrowS (·=H1.next) H3 Q/\(∀ i,Q.next<=i->col2 i=100)/\Bx Q H1.next [I w,.slice pb nb' cb,I rs'.c,sv2] 53/\Bst (λi=>H3.next<=i/\col2 i=100) Q (.slice pb nb' cb) rs'.b/\Bst (λi=>H3.next<=i/\col2 i=100) Q (.slice px nx cx) N/\Oc H3.next col2 0 Q 57 sv2 (if w=0 then r+1 else n) vs2/\Rws H3.next col2 (λr=>r+1) Q 61 vs2 (Lm r)/\Full 141 t/\Kn [(1,PT H.next),(2,PT (H.next+1)),(3,PT H1.next),(4,I k),(5,.slice px nx cx),(7,I r)] t) ?_ ?_
    ·refine V.condP zP (λhw0=>?_) (λhw0=>?_)
     ·have hw0' : w=0:=by omega
      obtain⟨p,u,hp,hu⟩:=nbZ.nest.at ri hrN
      obtain⟨hu1,hu2⟩:=hu Z (.refl Z)
      have hpk:=hp .i64
      have hul:=hu2.len
      rw[hrl] at hul
      have mkr:=mk_rng Z mc (by omega)
      rw[if_pos hw0'] at ooZ
      obtain⟨Za,hZa⟩ : ∃ Za,Za=Z.alloc (.cells ⟨rcs mc (λ_=>(0,0))⟩ 61 true):=⟨_,rfl⟩
      have gZa : Grow Z Za:=by rw[hZa];exact (Grow.refl Z).alloc _
      have nZa : Za.next=Z.next+1:=by rw[hZa];rfl
      have st1 : St H3.next (λ_=>False) col1 Z (pnt col1 Z.next (r+1)) Za:=⟨gZa.1,λi hi=>pnt_ne (by omega),λi hi _=>gZa.2 i hi⟩
      have oo1:=ooZ.st st1 id
      have rw1:=rwZ.st st1 (λ_ _=>id)
      have onew : Oc H3.next (pnt col1 Z.next (r+1)) (r+1) Za 61 (.slice (some ⟨Z.next,0,none⟩) mc mc) mc (rcs mc (λ_=>(0,0))):=.inr ⟨Z.next,mZ,by omega,pnt_at _ _,rfl,by rw[hZa];exact cells_alloc _ _ _ _⟩
      have hvl : vs1.length=r:=by
       rw[rwZ.1,hLr]
       simp only[if_pos hw0']
       exact spL_len _ _ _
      obtain⟨u2,Q,e5,o2,s2,k2,m2,c2,pz,rfl,epz⟩:=Oc.push (w:=1) (bytes:=24) (x:=[.slice (some ⟨Z.next,0,none⟩) mc mc]) (by decide) oo1 (by omega) (by rw[hvl];omega) rfl rfl (by omega) (by omega)
      have mQ : Za.next+1<Q.next:=by
       rcases o2 with⟨e,_⟩|⟨i,_,i2,_,e,_⟩
       ·cases e
       ·simp only[Value.slice.injEq,Option.some.injEq,Addr.mk.injEq] at e
        obtain⟨⟨rfl,_⟩,_⟩:=e
        omega
      have xZa:=xZ.grow gZa
      have xZb:=(xZa.alloc (.cells ⟨[.slice (some ⟨Z.next,0,none⟩) mc mc]⟩ 57 true)).2
      have xQ:=k2.bx xZa (by omega)
      have xZa2:=xZa.2
      rw[nZa] at e5
      rw[hZa] at e5 xZb xZa2
      refine zS ?_
      have zf:=aI xZ.2<|aI @hpk<|aI @hu1<|aI @hul<|aI @mkr<|aI @e5<|xQ.2
      refine V.dz ?_ ?_ rfl ?_
      ·exact zM
      ·simp only[dcAll,dcOk,wantD,List.cons_append,List.nil_append,true_and,and_true]
       have zf:=aI xZ.2<|aI @xZa2<|aI @xZb<|xQ.2
       exact zR
      have hcol : ∀ i,i<Z.next->pnt (pnt col1 Z.next (r+1)) (Za.next+1) 0 i=col1 i:=λi hi=>by rw[pnt_ne (by omega),pnt_ne (by omega)]
      have hkeep : ∀ i,H3.next<=i/\col1 i=100->i<Z.next->(Q.set H1.next (.cells ⟨[I w,.slice pb nb' cb,I rs'.c,.slice (some ⟨pz,0,none⟩) (r+1) (r+1)]⟩ 53 true)).get i=Z.get i:=λi hi hlt=>by
       rw[Heap.get_set,if_neg (by have:=hi.1;omega),s2.2.2 i (by omega) (.inr (by rw[pnt_ne (by omega)];have:=hi.2;omega)),gZa.2 i hlt]
      have hS : ∀ i,i<Z.next->(H3.next<=i/\col1 i=100)->(H3.next<=i/\pnt (pnt col1 Z.next (r+1)) (Za.next+1) 0 i=100):=λi hi hh=>⟨hh.1,by rw[hcol i hi];exact hh.2⟩
      refine V.nil (Or.inl ⟨rfl,pnt (pnt col1 Z.next (r+1)) (Za.next+1) 0,.slice (some ⟨pz,0,none⟩) (r+1) (r+1),vs1++[.slice (some ⟨Z.next,0,none⟩) mc mc],rfl,?_,?_,?_,?_,?_,?_,?_,zF,zK⟩)
      ·refine⟨by simp only[Heap.next_set];omega,λi hi hne=>?_⟩
       rw[Heap.get_set,if_neg hne,k2.2 i (by omega),gZa.2 i (by omega),hgZ.2 i hi hne]
      ·intro i hi
       simp only[Heap.next_set] at hi
       rw[pnt_ne (by omega),pnt_ne (by omega)]
       exact hfrZ i (by omega)
      ·exact⟨by simp only[Heap.next_set];exact xQ.1,cells_set _ _ _ _ _⟩
      ·exact bvZ.loc2 (by simp only[Heap.next_set];omega) hS hkeep
      ·exact nbZ.loc2 (by simp only[Heap.next_set];omega) hS hkeep
      ·rw[if_pos hw0']
       exact o2.put (by omega) _
      ·rw[hLm]
       simp only[if_pos hw0']
       rw[hLr] at rw1
       simp only[if_pos hw0'] at rw1
       have rw2:=rw1.st s2 (λj _ hh=>by omega)
       have hone:=onew.st s2 (by omega)
       refine (Rws.push rw2 ?_).put (by omega) _
       rw[spL_len];exact hone
     ·have hw0' : ¬ w=0:=by omega
      refine zS ?_
      refine V.nil (Or.inl ⟨rfl,col1,_,vs1,rfl,hgZ,hfrZ,xZ,bvZ,nbZ,?_,?_,zF,zK⟩)
      ·rw[if_neg hw0'] at ooZ ⊢;exact ooZ
      ·have : Lm r=Lr r:=by rw[hLm,hLr];simp only[if_neg hw0']
       rw[this];exact rwZ
    clear hF hA
    rintro t _ Q ⟨col2,sv2,vs2,rfl,hgQ,hfrQ,xQ,bvQ,nbQ,ooQ,rwQ,hF,hA⟩
    simp only[Kn,and_true] at hA
    have mQ:=hgQ.1
    have hr5 : r<5:=by omega
    obtain⟨G,hG⟩ : ∃ G : Nat->Nat->Int×Int,G=λj c=>if c<j then R' r c else (if w=0 then (0,0) else R r c):=⟨_,rfl⟩
    have hLmr : (Lm r)[r]?=some (mc,rcs mc (G 0)):=by
     rw[hLm,hG]
     by_cases hw0 : w=0
     ·simp only[if_pos hw0,Nat.not_lt_zero,if_false]
      rw[List.getElem?_append_right (by rw[spL_len];exact Nat.le_refl _),spL_len,Nat.sub_self]
      rfl
     ·simp only[if_neg hw0,Nat.not_lt_zero,if_false]
      rw[List.getElem?_eq_getElem (by rw[spL_len];omega),spL_at]
      simp only[Nat.lt_irrefl,if_false]
    have hLml : r<(Lm r).length:=(List.getElem?_eq_some_iff.1 hLmr).1
    have hend : (Lm r).set r (mc,rcs mc (G mc))=Lr (r+1):=by
     have eG : rcs mc (G mc)=rcs mc (R' r):=rcs_congr (λc hc=>by rw[hG];simp only[if_pos hc])
     rw[eG,hLm,hLr]
     by_cases hw0 : w=0
     ·simp only[if_pos hw0]
      rw[spL_s,List.set_append_right _ _ (by rw[spL_len];exact Nat.le_refl _),spL_len,Nat.sub_self]
      rfl
     ·simp only[if_neg hw0]
      rw[spL_set]
      refine spL_congr (λr' _ c _=>?_)
      by_cases e : r'=r
      ·rw[if_pos e,if_pos (by omega),e]
      ·rw[if_neg e]
       by_cases e2 : r'<r
       ·rw[if_pos e2,if_pos (by omega)]
       ·rw[if_neg e2,if_neg (by omega)]
    obtain⟨nn,hnn,hrn⟩ : ∃ nn,nn=(if w=0 then r+1 else n)/\r<nn:=by
     refine⟨_,rfl,?_⟩
     split<;>omega
    rw[<- hnn] at ooQ
    rcases ooQ with⟨_,e0,_⟩|⟨po,p1,p2,p3,rfl,p4⟩
    ·omega
    obtain⟨x0,hx0,hox0⟩:=rwQ.at hLml
    have hLe : (Lm r)[r]=(mc,rcs mc (G 0)):=by
     rw[List.getElem?_eq_getElem hLml,Option.some.injEq] at hLmr;exact hLmr
    rw[hLe] at hox0
    have hox0 : Oc H3.next col2 (r+1) Q 61 x0 mc (rcs mc (G 0)):=hox0
    obtain⟨b,rfl,q1,q2,q3,_⟩:=Oc.setC hox0 hm0
    have hcb : col2 b=r+1:=by
     rcases hox0 with⟨e,_⟩|⟨i,_,_,i3,e,_⟩
     ·cases e
     ·simp only[Value.slice.injEq,Option.some.injEq,Addr.mk.injEq] at e
      obtain⟨⟨rfl,_⟩,_⟩:=e
      exact i3
    have hpob : po≠b:=λe=>by rw[e] at p3;omega
    have hset : ∀ (Zx : Heap) (f : Nat->Int×Int) (j : Nat) (v : Int×Int),j<mc->Zx.next=Q.next->Rws H3.next col2 (λr=>r+1) Zx 61 vs2 ((Lm r).set r (mc,rcs mc f))->Zx.cellsAt b=some (⟨rcs mc f⟩,61,true)/\Rws H3.next col2 (λr=>r+1) (Zx.set b (.cells ⟨((rcs mc f).set (2*j) (I v.1)).set (2*j+1) (I v.2)⟩ 61 true)) 61 vs2 ((Lm r).set r (mc,rcs mc (upR f j v))):=by
     intro Zx f j v hj hZ hR
     obtain⟨x1,hx1,ho1⟩:=hR.at (k:=r) (by rw[List.length_set];exact hLml)
     rw[hx0,Option.some.injEq] at hx1
     subst hx1
     rw[List.getElem_set_self] at ho1
     have ho1 : Oc H3.next col2 (r+1) Zx 61 (.slice (some ⟨b,0,none⟩) mc mc) mc (rcs mc f):=ho1
     obtain⟨b',eb,c1,c2,c3,c4⟩:=Oc.setC ho1 hm0
     obtain rfl : b=b':=by
      simp only[Value.slice.injEq,Option.some.injEq,Addr.mk.injEq] at eb
      exact eb.1.1
     refine⟨c3,?_⟩
     rw[rcs_set hj v]
     obtain⟨d1,d2⟩:=c4 (rcs mc (upR f j v))
     have:=hR.upd d2 (λj' hj'=>by omega) d1
     rw[List.set_set,set_same hx0] at this
     exact this
    have hrow0 : (Lm r).set r (mc,rcs mc (G 0))=Lm r:=set_same hLmr
    have key : ∀ Zx : Heap,Zx.next=Q.next->(∀ i,i≠b->Zx.get i=Q.get i)->Bx Zx H1.next [I w,.slice pb nb' cb,I rs'.c,.slice (some ⟨po,0,none⟩) nn nn] 53/\Bst (λi=>H3.next<=i/\col2 i=100) Zx (.slice pb nb' cb) rs'.b/\Bst (λi=>H3.next<=i/\col2 i=100) Zx (.slice px nx cx) N/\Zx.cellsAt po=some (⟨vs2⟩,57,true)/\GrowS (·=H1.next) H3 Zx:=by
     intro Zx hZ hk
     have hb100 : ∀ i,H3.next<=i/\col2 i=100->i≠b:=λi hi e=>by have:=hi.2;rw[e] at this;omega
     refine⟨⟨by have:=xQ.1;omega,?_⟩,bvQ.loc2 (by omega) (λ_ _=>id) (λi hi _=>hk i (hb100 i hi)),nbQ.loc2 (by omega) (λ_ _=>id) (λi hi _=>hk i (hb100 i hi)),?_,by omega,λi hi hne=>?_⟩
     ·have:=xQ.2
      unfold Heap.cellsAt at this ⊢
      rw[hk _ (by omega)];exact this
     ·unfold Heap.cellsAt at p4 ⊢
      rw[hk _ hpob];exact p4
     ·rw[hk i (by omega),hgQ.2 i hi hne]
    have ix1:=own_idx (y:=po) (n:=nn) (c:=nn) hrn
    refine zS ?_
    refine V.l0 ?_
    refine zS ?_
    refine V.loop (λz t m Z2=>∃ (j : Nat),j<=mc/\z=mc-j/\m=[]/\Z2.next=Q.next/\(∀ i,i≠b->Z2.get i=Q.get i)/\Rws H3.next col2 (λr=>r+1) Z2 61 vs2 ((Lm r).set r (mc,rcs mc (G j)))/\Full 141 t/\Kn [(1,PT H.next),(2,PT (H.next+1)),(3,PT H1.next),(4,I k),(5,.slice px nx cx),(7,I r),(8,I j)] t) mc ?_ ?_
    ·exact⟨0,Nat.zero_le _,(Nat.sub_zero _).symm,rfl,rfl,λ_ _=>rfl,by rw[hrow0];exact rwQ,zF,zK⟩
    clear hF hA
    rintro z t m Z2 ⟨j,hj,rfl,rfl,hZn,hZk,rwZ2,hF,hA⟩
    simp only[Kn,and_true] at hA
    obtain⟨x2,bv2,nb2',po2,gs2⟩:=key Z2 hZn hZk
    obtain⟨p,u,hp,hu⟩:=nb2'.nest.at ri hrN
    obtain⟨hu1,hu2⟩:=hu Z2 (.refl Z2)
    have hpk:=hp .i64
    have hul:=hu2.len
    rw[hrl] at hul
    refine zS ?_
    have zf:=aI @hpk<|aI @hu1<|@hul
    refine V.lz ?_
    refine zS ?_
    refine V.condP zP (λhlj=>?_) (λhlj=>?_)
    ·have hj' : j<mc:=by omega
     have hjN : j<(N[r]).length:=by omega
     obtain⟨xx,hxx⟩ : ∃ xx,xx=(N[r])[j]:=⟨_,rfl⟩
     have eN : (N.getD r []).getD j 0=xx:=by rw[gdl hrN,List.getD_eq_getElem?_getD,List.getElem?_eq_getElem hjN,hxx];rfl
     have ix2:=idxw (i:=b) hj'
     refine zS ?_
     have zf:=x2.2
     refine V.lz ?_
     refine zS ?_
     refine V.join (λt m Z3=>∃ (f1 : Nat->Int×Int),m=[]/\Z3.next=Q.next/\(∀ i,i≠b->Z3.get i=Q.get i)/\Rws H3.next col2 (λr=>r+1) Z3 61 vs2 ((Lm r).set r (mc,rcs mc f1))/\f1 j=(if w=0 then (xx,xx) else R r j)/\(∀ c,c≠j->f1 c=G j c)/\Full 141 t/\Kn [(1,PT H.next),(2,PT (H.next+1)),(3,PT H1.next),(4,I k),(5,.slice px nx cx),(7,I r),(8,I j)] t) ?_ ?_
     ·refine V.condP zP (λhw0=>?_) (λhw0=>?_)
      ·have hw0' : w=0:=by omega
       obtain⟨ww,hw1,hww⟩:=hu2.at hjN
       have hw2:=hww Z2 (.refl _)
       rw[<- hxx] at hw2
       obtain⟨s1,s2⟩:=hset Z2 (G j) j (xx,xx) hj' hZn rwZ2
       have l1 : 2*j<(rcs mc (G j)).length:=by rw[rcs_len];omega
       have l2 : 2*j+1<(rcs mc (G j)).length:=by rw[rcs_len];omega
       have l3 : 2*j+2<=(rcs mc (G j)).length:=by rw[rcs_len];omega
       refine zS ?_
       have zf:=aI x2.2<|aI @po2<|aI @ix1<|aI @hx0<|aI @arr_get<|aI @hpk<|aI @hu1<|aI @hw1<|aI @hw2<|aI @ix2<|aI @s1<|aI @l1<|aI @l2<|@l3
       refine V.dz ?_ ?_ rfl ?_
       ·exact zM
       ·simp only[dcAll,dcOk,wantD,List.cons_append,List.nil_append,true_and,and_true]
       refine V.nil (Or.inl ⟨rfl,upR (G j) j (xx,xx),rfl,hZn,?_,s2,?_,?_,zF,zK⟩)
       ·intro i hi
        rw[Heap.get_set,if_neg hi];exact hZk i hi
       ·unfold upR;rw[if_pos rfl,if_pos hw0']
       ·intro c hc;unfold upR;rw[if_neg hc]
      ·have hw0' : ¬ w=0:=by omega
       refine zS ?_
       refine V.nil (Or.inl ⟨rfl,G j,rfl,hZn,hZk,rwZ2,?_,λ_ _=>rfl,zF,zK⟩)
       rw[hG]
       simp only[Nat.lt_irrefl,if_false,if_neg hw0']
     clear hF hA
     rintro t _ Z3 ⟨f1,rfl,hZ3n,hZ3k,rw3,hf1,hf1c,hF,hA⟩
     simp only[Kn,and_true] at hA
     obtain⟨x3',bv3,nb3',po3,gs3⟩:=key Z3 hZ3n hZ3k
     obtain⟨p,u,hp,hu⟩:=nb3'.nest.at ri hrN
     obtain⟨hu1,hu2⟩:=hu Z3 (.refl Z3)
     have hpk:=hp .i64
     obtain⟨ww,hw1,hww⟩:=hu2.at hjN
     have hw2:=hww Z3 (.refl _)
     rw[<- hxx] at hw2
     obtain⟨s1,s2⟩:=hset Z3 f1 j (min (f1 j).1 xx,max (f1 j).2 xx) hj' hZ3n rw3
     obtain⟨cr1,cr2⟩:=rcs_at (f:=f1) hj'
     have l1 : 2*j<(rcs mc f1).length:=by rw[rcs_len];omega
     have l2 : 2*j+1<(rcs mc f1).length:=by rw[rcs_len];omega
     have l3 : 2*j+2<=(rcs mc f1).length:=by rw[rcs_len];omega
     have emn : (if xx<(f1 j).1 then xx else (f1 j).1)=min (f1 j).1 xx:=by split<;>omega
     have emx : (if xx > (f1 j).2 then xx else (f1 j).2)=max (f1 j).2 xx:=by split<;>omega
     refine zS ?_
     have zf:=aI x3'.2<|aI @po3<|aI @ix1<|aI @hx0<|aI @arr_get<|aI @hpk<|aI @hu1<|aI @hw1<|aI @hw2<|aI @ix2<|aI @s1<|aI @cr1<|aI @cr2<|aI @l1<|aI @l2<|aI @l3<|aI @emn<|@emx
     refine V.dz ?_ ?_ rfl ?_
     ·exact zM
     ·simp only[dcAll,dcOk,wantD,List.cons_append,List.nil_append,true_and,and_true]
     refine V.heap (λZ4=>Z4.next=Q.next/\(∀ i,i≠b->Z4.get i=Q.get i)/\Rws H3.next col2 (λr=>r+1) Z4 61 vs2 ((Lm r).set r (mc,rcs mc (G (j+1))))) ⟨?_,?_,?_⟩ ?_
     ·exact hZ3n
     ·intro i hi
      rw[Heap.get_set,if_neg hi];exact hZ3k i hi
     ·have eG : rcs mc (upR f1 j (min (f1 j).1 xx,max (f1 j).2 xx))=rcs mc (G (j+1)):=rcs_congr (λc _=>by
       unfold upR
       by_cases e : c=j
       ·subst e
        rw[if_pos rfl,hf1,hG]
        simp only[Nat.lt_succ_self,if_true]
        rw[hR']
        unfold nxR
        simp only[eN]
        by_cases hw0 : w=0
        ·simp only[if_pos hw0]
         congr 1<;>omega
        ·simp only[if_neg hw0]
       ·rw[if_neg e,hf1c c e,hG]
        simp only
        by_cases e2 : c<j
        ·rw[if_pos e2,if_pos (show c<j+1 by omega)]
        ·rw[if_neg e2,if_neg (show ¬ c<j+1 by omega)])
      rw[eG] at s2
      exact s2
     rintro Z4 ⟨hZ4n,hZ4k,rw4⟩
     refine zS ?_
     refine V.l0 ?_
     refine V.nil (Or.inl ⟨rfl,mc-(j+1),by omega,?_⟩)
     exact⟨j+1,hj',rfl,rfl,hZ4n,hZ4k,rw4,zF,zK⟩
    ·obtain rfl : j=mc:=by omega
     rw[hend] at rwZ2
     refine V.exit ?_
     refine zX ?_
     refine V.nil (Or.inr ⟨by simp,?_⟩)
     refine zX ?_
     refine zS ?_
     refine V.l0 ?_
     refine V.nil (Or.inl ⟨rfl,n-(r+1),by omega,?_⟩)
     refine⟨r+1,col2,_,vs2,by omega,by omega,rfl,gs2,λi hi=>hfrQ i (by omega),x2,bv2,nb2',?_,rwZ2,zF,zK⟩
     rw[<- hnn]
     exact .inr ⟨po,p1,by omega,p3,rfl,po2⟩
   ·obtain rfl : r=n:=by omega
    have hLl : (Lk T (k+1)).length=w+1:=by rw[hLs,List.length_append,<- hw];rfl
    have hwr' : rs'.w=w+1:=by rw[hrs',rsf_w,hLl]
    have hLrn : Lr r=spL r mc R':=by
     rw[hLr]
     simp only
     split
     ·rfl
     ·exact spL_congr (λr' h' c _=>by rw[if_pos h'])
    obtain⟨psv1,nsv1,csv1,rfl⟩:=ooZ.slice
    have ewz : ((w : Nat) : Int)+1=((rs'.w : Nat) : Int):=by omega
    refine V.exit ?_
    refine zX ?_
    refine V.nil (Or.inr ⟨by simp,?_⟩)
    refine zX ?_
    refine zS ?_
    have zf:=aI xZ.2<|@ewz
    refine V.lz ?_
    refine zS ?_
    refine V.l0 ?_
    refine V.nil (Or.inl ⟨rfl,2 ^ fr-(k+1),by omega,?_⟩)
    refine⟨k+1,col1,vs1,.slice pb nb' cb,.slice psv1 nsv1 csv1,R',by omega,by omega,rfl,hgZ.trans (GrowS.setAt _ _ _),hfrZ,?_,?_,?_,?_,?_,zF,zK⟩
    ·rw[<- hrs']
     exact⟨by simp only[Heap.next_set];exact xZ.1,cells_set _ _ _ _ _⟩
    ·rw[<- hrs']
     exact bvZ.growS (GrowS.setAt _ _ _) (λi (hi : i=H1.next) hs=>by have:=hs.1;omega) (λ_=>id)
    ·rw[hLl,if_neg (by omega)]
     have e5 : (if w=0 then r else r)=r:=by split<;>rfl
     rw[e5] at ooZ
     exact ooZ.put (by omega) _
    ·rw[hLl,if_neg (by omega),<- hLrn]
     exact rwZ.put (by omega) _
    ·intro _ r' hr'
     rw[hLs,hR']
     have hnx:=MM.next (m:=mc) (L:=Lk T k) (r:=r') (R:=R r') (N:=N) (λhh=>hmm (by rw[hw];exact hh) r' hr')
     rw[<- hw] at hnx
     exact hnx
  ·rw[decide_eq_false his] at hf27
   rw[if_neg his,List.append_nil] at hLs
   refine VI.l0 ?_
   refine zS ?_
   refine V.run ?_
   have zf:=bX2.2
   refine VI.sz 2 ?_
   simp only[ds]
   refine VI.callA rfl (hf27) zA (λX3 e3=>?_)
   have bX3:=bX2.grow e3
   have gX3:=gX2.trans e3
   have mX3:=e3.1
   have e13:=(e1.trans e2).trans e3
   refine VI.l0 ?_
   refine zS ?_
   refine V.condT zA ?_
   refine zS ?_
   refine V.exit ?_
   refine zX ?_
   refine zS ?_
   refine V.l0 ?_
   refine V.nil (Or.inl ⟨rfl,2 ^ fr-(k+1),by omega,?_⟩)
   refine⟨k+1,col,vs,bv,sv,R,by omega,by omega,rfl,hg.trans e13.s,λi hi=>hfre i (by omega),by rw[hLs];exact hx.grow e13,by rw[hLs];exact hb0.growS (e13.s (U:=λ_=>False)) (λ_ hh=>hh.elim) (λ_=>id),by rw[hLs];exact oo.grow e13,by rw[hLs];exact rw0.grow e13,by rw[hLs];exact hmm,zF,zK⟩
 ·obtain rfl : k=2 ^ fr:=by omega
  have eL : Lk T (2 ^ fr)=rnds T:=by rw[rnds_bits hv,<- hfrE];rfl
  rw[eL] at hx hb0 oo rw0 hmm
  obtain⟨pb,nb,cb,rfl⟩:=hb0.isS
  obtain⟨ps,ns,cs,rfl⟩:=oo.slice
  refine V.exit ?_
  refine zX ?_
  refine V.nil (Or.inr ⟨by simp,?_⟩)
  refine zX ?_
  have x2 : Bx X1 (H.next+1) [I 0,.slice none 0 0,I 0,.slice none 0 0] 53:=(c3.growS hg (by omega)).grow e1
  have xx:=hx.grow e1
  have hw:=rsf_w (chg T.C) (rnds T)
  refine zS ?_
  have zf:=aI xx.2<|x2.2
  refine V.lz ?_
  refine V.heap (λY=>GrowS (·=H.next+1) X1 Y/\Y.next=X1.next/\Bx Y (H.next+1) [I (best T).w,.slice pb nb cb,I (best T).c,.slice ps ns cs] 53) ⟨?_,?_,?_⟩ ?_
  ·exact GrowS.setAt _ _ _
  ·rfl
  ·exact⟨by simp only[Heap.next_set];exact x2.1,cells_set _ _ _ _ _⟩
  rintro Y ⟨gY,nY,xY⟩
  refine zS ?_
  refine V.ret (V.rets rfl (Lv.retF (by simp +contextual (disch:=first|omega|simp only[nx];omega) only[D1,cells_alloc_at,cells_alloc_ne,cells_set_at,cells_set_ne,yres,yres1,yresL,qA,qB,qC,D5,hF,hA,↓reduceIte,qD,qE,xY.2];rfl) ?_))
  have hb1:=hb0.growS (e1.s (U:=λ_=>False)) (λ_ hh=>hh.elim) (λ_=>id)
  have hbY:=hb1.growS (S':=λ_=>True) gY (λi (hi : i=H.next+1) hs=>by have:=hs.1;omega) (λ_ _=>trivial)
  have ooY:=(oo.grow e1).loc (B:=Y) (by omega) (λi h1 h2=>gY.2 i h2 (by omega))
  have rwY:=(rw0.grow e1).loc (B:=Y) (by omega) (λi h1 h2=>gY.2 i h2 (by omega))
  refine⟨⟨by have:=gX1.1;omega,λi hi=>by rw[gY.2 i (by have:=gX1.1;omega) (by omega),gX1.2 i hi]⟩,_,_,R,rfl,hbY.nest,?_,λhne r hr=>?_⟩
  ·have hvl:=rwY.1
   have eb : (best T).w=(rnds T).length:=hw
   rw[eb]
   by_cases h0 : (rnds T).length=0
   ·rw[if_pos h0] at ooY hvl ⊢
    have hv0 : vs=[]:=List.length_eq_zero_iff.1 hvl
    subst hv0
    have o1 : Ow H3 Y 57 (.slice ps ns cs) []:=Oc.o (cs:=[]) ooY (Nat.le_refl _)
    exact⟨[],o1.sl,rfl,λk x r hx=>by simp at hx⟩
   ·rw[if_neg h0] at ooY rwY hvl ⊢
    rw[spL_len] at hvl
    rw[<- hvl] at ooY
    have o1 : Ow H3 Y 57 (.slice ps ns cs) vs:=Oc.o ooY (Nat.le_refl _)
    have e7 : spL n mc R=((List.range T.C.length).map λr=>(List.range (cols T)).map (R r)).map λl=>(l.length,(l.map λp=>A2 p.1 p.2).flatten):=by
     unfold spL
     rw[List.map_map,<- hn,<- hm]
     refine List.map_congr_left (λr _=>?_)
     simp only[Function.comp,List.length_map,List.length_range,rcs_flat]
    rw[e7] at rwY
    refine rwY.nest _ o1.sl (λk x r _ ho=>?_)
    have ho2 : Oc H3.next col (k+1) Y 61 x (r.map λp=>A2 p.1 p.2).length (r.map λp=>A2 p.1 p.2).flatten:=by rw[List.length_map];exact ho
    exact (Oc.w (w:=2) ho2 (H0:=H3) (Nat.le_refl _)).sw (λy hy=>by obtain⟨p,_,rfl⟩:=List.mem_map.1 hy;rfl)
  ·rw[<- hm]
   exact hmm (by rw[<- hw];exact hne) r (by omega)
end Go.Xe.TRX
end
