/- What the functions of the layer round come to: the reference's IsRounding. Conditions: none. -/
import Derived.Test.YtimnlnfpblomnaaTSR
noncomputable section
namespace Go.Xe.TRX
open Go Go.Xe Go.Proofs
open Nat renaming reduceLeDiff ->qA, reduceSub ->qB, reduceAdd ->qC, reduceEqDiff ->qD, reduceLT ->qE
open Int renaming reduceNegSucc ->qF, reduceEq ->qG
open Go.Xe.V renaming seq ->sA, block ->sB, scope ->sC, skip ->sD, close ->sE
open Go.Xe renaming pth ->P
open Go.Xe.Rnd
set_option maxRecDepth 100000
set_option maxHeartbeats 3200000
set_option linter.unusedSimpArgs false
def isn (b x n : Int) : Prop:=x.tmod b=0/\1-b<=x-n/\x-n<=b-1
instance (b x n : Int) : Decidable (isn b x n):=by unfold isn;infer_instance
theorem mul_eq {b x y : Int} (hb : 0<b) (hx : x%b=0) (hy : y%b=0) (h1 : x-y<b) (h2 : y-x<b) : x=y:=by
 obtain⟨k,rfl⟩:=Int.dvd_of_emod_eq_zero hx
 obtain⟨l,rfl⟩:=Int.dvd_of_emod_eq_zero hy
 rcases Int.lt_trichotomy k l with h|h|h
 ·have : b*(k+1)<=b*l:=Int.mul_le_mul_of_nonneg_left (by omega) (by omega)
  rw[Int.mul_add] at this;omega
 ·rw[h]
 ·have : b*(l+1)<=b*k:=Int.mul_le_mul_of_nonneg_left (by omega) (by omega)
  rw[Int.mul_add] at this;omega
theorem lo_mul {b n : Int} (hb : 2<=b) (hn : 0<=n) : lo b n%b=0/\lo b n<=n/\n<lo b n+b/\0<=lo b n:=by
 unfold lo
 rw[Int.tmod_eq_emod_of_nonneg hn]
 have h1:=Int.emod_nonneg n (show b≠0 by omega)
 have h2:=Int.emod_lt_of_pos n (show 0<b by omega)
 have h3:=Int.emod_add_mul_ediv n b
 have h4 : 0<=b*(n/b):=Int.mul_nonneg (by omega) (Int.ediv_nonneg hn (by omega))
 refine⟨?_,by omega,by omega,by omega⟩
 have : n-n%b=b*(n/b):=by omega
 rw[this];simp
theorem isn_rd {b x n : Int} (hb : 2<=b) (hn : 0<=n) (hx : 0<=x) : isn b x n↔rd b x n:=by
 obtain⟨l1,l2,l3,_⟩:=lo_mul hb hn
 obtain⟨h1,h2,h3,_⟩:=lo_mul hb (show 0<=n+b-1 by omega)
 have hh : hi b n=lo b (n+b-1):=rfl
 rw[<- hh] at h1 h2 h3
 unfold isn rd
 rw[Int.tmod_eq_emod_of_nonneg hx]
 constructor
 ·rintro⟨a,b1,b2⟩
  by_cases hxn : x<=n
  ·left;exact mul_eq (by omega) a l1 (by omega) (by omega)
  ·right;exact mul_eq (by omega) a h1 (by omega) (by omega)
 ·rintro (rfl|rfl)
  ·exact⟨l1,by omega,by omega⟩
  ·exact⟨h1,by omega,by omega⟩
def rir (T : Tb) (N : List (List Int)) : Prop:=hol T N/\(∀ r,r<N.length->∀ k,k<(N.getD r []).length->isn T.b ((N.getD r []).getD k 0) ((T.C.getD r []).getD k 0)) /\
 (∀ r,r<N.length->isn T.b (sm (N.getD r [])) (sm (T.C.getD r [])))/\(∀ k,k<cols T->isn T.b (due N k) (due T.C k))/\isn T.b (sm (rsm N)) (sm (rsm T.C))
theorem l4_sum : ∀ {N : List (List Int)},(∀ r∈N,r.length<=4)->sm (l4 (due N))=sm (rsm N)
 | [],_=>rfl
 | r::N,h=>by
  have ih:=l4_sum (N:=N) (λx hx=>h x (by simp[hx]))
  have hr:=h r (by simp)
  have hd : ∀ i,due (r::N) i=r.getD i 0+due N i:=λi=>by simp[due,sm]
  have hrs : r.getD 0 0+r.getD 1 0+r.getD 2 0+r.getD 3 0=sm r:=by
   match r,hr with
   | [],_=>simp[sm]
   | [a],_=>simp[sm]
   | [a,b],_=>simp[sm]
   | [a,b,c],_=>simp[sm];omega
   | [a,b,c,d],_=>simp[sm];omega
   | _::_::_::_::_::_,h=>simp at h
  have e : sm (rsm (r::N))=sm r+sm (rsm N):=rfl
  rw[e,<- ih]
  simp only[l4,sm,hd]
  omega
theorem due_out {N : List (List Int)} {n i : Nat} (h : ∀ r∈N,r.length=n) (hi : n<=i) : due N i=0:=by
 unfold due
 have : N.map (λr=>r.getD i 0)=N.map (λ_=>(0 : Int)):=by
  apply List.map_congr_left
  intro r hr
  rw[List.getD_eq_getElem?_getD,List.getElem?_eq_none (by rw[h r hr];exact hi)];rfl
 rw[this]
 clear this h
 induction N with
 | nil=>rfl
 | cons r N ih=>simp only[List.map_cons,sm,ih];rfl
theorem due_nn {N : List (List Int)} (h : ∀ r∈N,∀ v∈r,0<=v/\v<=20000) (i : Nat) : 0<=due N i:=(due_bd h i).1
theorem rir_isr {T : Tb} {N : List (List Int)} (hf : fits T) (hv : valid T) (hc : can T N) : rir T N↔isr T N:=by
 obtain⟨f1,f2,f3⟩:=hf
 obtain⟨hb,v2,v3,v4⟩:=hv
 obtain⟨c1,c2⟩:=hc
 have nC : ∀ r∈T.C,∀ v∈r,0<=v/\v<=20000:=λr hr v hv=>by have:=(v3 r hr).2 v hv;omega
 have nN : ∀ r∈N,∀ v∈r,0<=v/\v<=20000:=λr hr v hv=>by have:=(c2 r hr).2 v hv;omega
 have hcell : ∀ r,r<N.length->∀ k,k<(N.getD r []).length->(isn T.b ((N.getD r []).getD k 0) ((T.C.getD r []).getD k 0)↔rd T.b ((N.getD r []).getD k 0) ((T.C.getD r []).getD k 0)):=by
  intro r hr k hk
  rw[gdl hr] at hk ⊢
  have hrc : r<T.C.length:=by omega
  rw[gdl hrc]
  have q1:=(c2 _ (List.getElem_mem hr)).1
  have q2:=(v3 _ (List.getElem_mem hrc)).1
  exact isn_rd hb.1 (nC _ (List.getElem_mem hrc) _ (getD_mem (by omega))).1 (nN _ (List.getElem_mem hr) _ (getD_mem hk)).1
 have hrow : ∀ r,r<N.length->(isn T.b (sm (N.getD r [])) (sm (T.C.getD r []))↔rd T.b (sm (N.getD r [])) (sm (T.C.getD r []))):=by
  intro r hr
  have hrc : r<T.C.length:=by omega
  rw[gdl hr,gdl hrc]
  exact isn_rd hb.1 (sm_bound (nC _ (List.getElem_mem hrc))).1 (sm_bound (nN _ (List.getElem_mem hr))).1
 have hcol : ∀ k,isn T.b (due N k) (due T.C k)↔rd T.b (due N k) (due T.C k):=λk=>isn_rd hb.1 (due_nn nC k) (due_nn nN k)
 have hsum : ∀ M : List (List Int),(∀ r∈M,∀ v∈r,0<=v/\v<=20000)->0<=sm (rsm M):=by
  intro M hM
  induction M with
  | nil=>exact Int.le_refl _
  | cons r M ih=>
   have h1:=(sm_bound (hM r (by simp))).1
   have h2:=ih (λx hx=>hM x (by simp[hx]))
   have : sm (rsm (r::M))=sm r+sm (rsm M):=rfl
   omega
 have htot : isn T.b (sm (rsm N)) (sm (rsm T.C))↔rd T.b (sm (rsm N)) (sm (rsm T.C)):=isn_rd hb.1 (hsum _ nC) (hsum _ nN)
 have hl4N:=l4_sum (N:=N) (λr hr=>by have:=(c2 r hr).1;have:=(v3 r);have hcl : cols T<=4:=(by rw[<- cols_0 (T:=T) (by have:=List.length_pos_of_mem hr;omega)];exact f3 _ (List.getElem_mem _));omega)
 have hl4C:=l4_sum (N:=T.C) f3
 have hholkp : hol T N↔∀ r,r<N.length->kp T r (N.getD r []):=by
  constructor
  ·intro h r hr k hk x hx e1 e2
   have:=h x hx
   rw[e1,e2,Int.toNat_natCast,Int.toNat_natCast] at this
   rw[<- this,gD hk]
  ·intro h x hx
   have hfx:=v4 x hx
   unfold fixOk at hfx
   have hr : x.1.toNat<N.length:=by omega
   have q1:=(c2 _ (List.getElem_mem hr)).1
   have hk : x.2.1.toNat<(N.getD x.1.toNat []).length:=by rw[gdl hr];omega
   have:=h x.1.toNat hr x.2.1.toNat hk x hx (by omega) (by omega)
   rw[this,gD hk]
 unfold rir isr al als
 rw[hholkp,hl4N,hl4C]
 constructor
 ·rintro⟨a,b,c,d,e⟩
  refine⟨λr hr=>⟨λk hk=>(hcell r hr k hk).1 (b r hr k hk),(hrow r hr).1 (c r hr),a r hr⟩,λi _=>?_,htot.1 e⟩
  by_cases hi : i<cols T
  ·exact (hcol i).1 (d i hi)
  ·rw[due_out (λr hr=>(c2 r hr).1) (by omega),due_out (λr hr=>(v3 r hr).1) (by omega)]
   left;unfold lo;simp
 ·rintro⟨a,b,c⟩
  exact⟨λr hr=>(a r hr).2.2,λr hr k hk=>(hcell r hr k hk).2 ((a r hr).1 k hk),λr hr=>(hrow r hr).2 (a r hr).2.1,λk hk=>(hcol k).2 (b k (by
   have : cols T<=4:=by
    by_cases h0 : 0<T.C.length
    ·rw[<- cols_0 h0];exact f3 _ (List.getElem_mem h0)
    ·have : T.C=[]:=List.length_eq_zero_iff.1 (by omega)
     simp[cols,this]
   omega)),htot.2 c⟩
end Go.Xe.TRX
-- MOD TR
namespace Go.Xe.TRX
open Go Go.Xe Go.Proofs
open Nat renaming reduceLeDiff ->qA, reduceSub ->qB, reduceAdd ->qC, reduceEqDiff ->qD, reduceLT ->qE
open Int renaming reduceNegSucc ->qF, reduceEq ->qG
open Go.Xe.V renaming seq ->sA, block ->sB, scope ->sC, skip ->sD, close ->sE
open Go.Xe renaming pth ->P
open Go.Xe.Rnd
set_option maxRecDepth 100000
set_option maxHeartbeats 3200000
set_option linter.unusedSimpArgs false
def d27 : FCode:=(.seq (.run (.go (.box 25 (tm 0)) (P 2)::
.go (.move (.con (.bool false))) (P 4)::
[])) (.seq (.seq (.run (.go (.loadN 3 (tm 2)) (P 15)::
.go (.move (tm 1)) (P 16)::
.go (.call (.con (.func (.func 24) ⟨[]⟩ ⟨[]⟩)) [(tm 15),(tm 16)]) (P 17)::
.go (.un .not (tm 17)) (P 18)::
.go (.move (tm 18)) (P 19)::
.gd (P 19) false (.loadN 3 (tm 2)) (P 20)::
.gd (P 19) false (.move (tm 1)) (P 21)::
.gd (P 19) false (.call (.con (.func (.func 53) ⟨[]⟩ ⟨[]⟩)) [(tm 20),(tm 21)]) (P 22)::
.gd (P 19) false (.un .not (tm 22)) (P 23)::
.go (.pick (tm 19) (.con (.bool true)) (tm 23)) (P 24)::
[])) (.cond (tm 24) (.seq (.run (.go (.move (.con (.bool false))) (P 4)::
[])) .ret) .skip)) (.seq (.seq (.run (.go (.move (.con (.int .i64 (.ofNat 0)))) (P 5)::
[])) (.block 0 (.loop (.seq (.seq (.run (.go (.move (tm 5)) (P 25)::
.go (.move (tm 1)) (P 26)::
.go (.len 0 (tm 26)) (P 27)::
.go (.bin .lss 3 (tm 25) (tm 27)) (P 28)::
[])) (.cond (tm 28) .skip (.exit 0))) (.seq (.block 1 (.seq (.run (.go (.move (.con (.int .i64 (.ofNat 0)))) (P 6)::
[])) (.block 2 (.loop (.seq (.seq (.run (.go (.move (tm 6)) (P 31)::
.go (.move (tm 1)) (P 32)::
.go (.move (tm 5)) (P 33)::
.go (.indexAddr none 1 (tm 32) (tm 33)) (P 34)::
.go (.load1 (tm 34)) (P 35)::
.go (.len 0 (tm 35)) (P 36)::
.go (.bin .lss 3 (tm 31) (tm 36)) (P 37)::
[])) (.cond (tm 37) .skip (.exit 2))) (.seq (.block 3 (.seq (.draw 29 (.go (.fieldAddr 0 (tm 2)) (P 40)::
.go (.load1 (tm 40)) (P 41)::
.go (.move (tm 1)) (P 42)::
.go (.move (tm 5)) (P 43)::
.go (.indexAddr none 1 (tm 42) (tm 43)) (P 44)::
.go (.load1 (tm 44)) (P 45)::
.go (.move (tm 6)) (P 46)::
.go (.indexAddr none 1 (tm 45) (tm 46)) (P 47)::
.go (.load1 (tm 47)) (P 48)::
.go (.fieldAddr 1 (tm 2)) (P 49)::
.go (.load1 (tm 49)) (P 50)::
.go (.move (tm 5)) (P 51)::
.go (.indexAddr none 1 (tm 50) (tm 51)) (P 52)::
.go (.load1 (tm 52)) (P 53)::
.go (.move (tm 6)) (P 54)::
.go (.indexAddr none 1 (tm 53) (tm 54)) (P 55)::
.go (.load1 (tm 55)) (P 56)::
.go (.call (.con (.func (.func 36) ⟨[]⟩ ⟨[]⟩)) [(tm 41),(tm 48),(tm 56)]) (P 57)::
.go (.un .not (tm 57)) (P 58)::
.go (.move (tm 58)) (P 59)::
.gd (P 59) false (.move (tm 1)) (P 60)::
.gd (P 59) false (.move (tm 5)) (P 61)::
.gd (P 59) false (.indexAddr none 1 (tm 60) (tm 61)) (P 62)::
.gd (P 59) false (.load1 (tm 62)) (P 63)::
.gd (P 59) false (.move (tm 6)) (P 64)::
.gd (P 59) false (.indexAddr none 1 (tm 63) (tm 64)) (P 65)::
.gd (P 59) false (.load1 (tm 65)) (P 66)::
.gd (P 59) false (.bin .lss 3 (tm 66) (.con (.int .i64 (.ofNat 0)))) (P 67)::
.go (.pick (tm 59) (.con (.bool true)) (tm 67)) (P 68)::
[]) [.ok,.ok,.ok,.ok,.ok,.ok,.ok,.ok,.ok,.ok,.ok,.ok,.ok,.ok,.ok,.ok,.ok,.ok,.ok,.ok,.ok,.ok,.ok,.ok,.ok,.ok,.ok,.ok,.ok]) (.cond (tm 68) (.seq (.run (.go (.move (.con (.bool false))) (P 4)::
[])) .ret) .skip))) (.run (.go (.move (tm 6)) (P 38)::
.go (.bin .add 3 (tm 38) (.con (.int .i64 (.ofNat 1)))) (P 39)::
.go (.move (tm 39)) (P 6)::
[])))))))) (.run (.go (.move (tm 5)) (P 29)::
.go (.bin .add 3 (tm 29) (.con (.int .i64 (.ofNat 1)))) (P 30)::
.go (.move (tm 30)) (P 5)::
[]))))))) (.seq (.run (.go (.fieldAddr 1 (tm 2)) (P 70)::
.go (.load1 (tm 70)) (P 71)::
.go (.call (.con (.func (.func 54) ⟨[]⟩ ⟨[]⟩)) [tm 71]) (P 72)::
.go (.move (tm 72)) (P 69)::
.go (.extract (tm 69) 0) (P 73)::
.go (.extract (tm 69) 1) (P 74)::
.go (.extract (tm 69) 2) (P 75)::
.go (.move (tm 73)) (P 7)::
.go (.move (tm 74)) (P 8)::
.go (.move (tm 75)) (P 9)::
[])) (.seq (.run (.go (.move (tm 1)) (P 77)::
.go (.call (.con (.func (.func 54) ⟨[]⟩ ⟨[]⟩)) [tm 77]) (P 78)::
.go (.move (tm 78)) (P 76)::
.go (.extract (tm 76) 0) (P 79)::
.go (.extract (tm 76) 1) (P 80)::
.go (.extract (tm 76) 2) (P 81)::
.go (.move (tm 79)) (P 10)::
.go (.move (tm 80)) (P 11)::
.go (.move (tm 81)) (P 12)::
[])) (.seq (.seq (.run (.go (.move (.con (.int .i64 (.ofNat 0)))) (P 13)::
[])) (.block 4 (.loop (.seq (.seq (.run (.go (.move (tm 13)) (P 82)::
.go (.move (tm 10)) (P 83)::
.go (.len 0 (tm 83)) (P 84)::
.go (.bin .lss 3 (tm 82) (tm 84)) (P 85)::
[])) (.cond (tm 85) .skip (.exit 4))) (.seq (.block 5 (.seq (.draw 12 (.go (.fieldAddr 0 (tm 2)) (P 88)::
.go (.load1 (tm 88)) (P 89)::
.go (.move (tm 10)) (P 90)::
.go (.move (tm 13)) (P 91)::
.go (.indexAddr none 1 (tm 90) (tm 91)) (P 92)::
.go (.load1 (tm 92)) (P 93)::
.go (.move (tm 7)) (P 94)::
.go (.move (tm 13)) (P 95)::
.go (.indexAddr none 1 (tm 94) (tm 95)) (P 96)::
.go (.load1 (tm 96)) (P 97)::
.go (.call (.con (.func (.func 36) ⟨[]⟩ ⟨[]⟩)) [(tm 89),(tm 93),(tm 97)]) (P 98)::
.go (.un .not (tm 98)) (P 99)::
[]) [.ok,.ok,.ok,.ok,.ok,.ok,.ok,.ok,.ok,.ok,.ok,.ok]) (.cond (tm 99) (.seq (.run (.go (.move (.con (.bool false))) (P 4)::
[])) .ret) .skip))) (.run (.go (.move (tm 13)) (P 86)::
.go (.bin .add 3 (tm 86) (.con (.int .i64 (.ofNat 1)))) (P 87)::
.go (.move (tm 87)) (P 13)::
[]))))))) (.seq (.seq (.run (.go (.move (.con (.int .i64 (.ofNat 0)))) (P 14)::
[])) (.block 6 (.loop (.seq (.seq (.run (.go (.move (tm 14)) (P 100)::
.go (.move (tm 11)) (P 101)::
.go (.len 0 (tm 101)) (P 102)::
.go (.bin .lss 3 (tm 100) (tm 102)) (P 103)::
[])) (.cond (tm 103) .skip (.exit 6))) (.seq (.block 7 (.seq (.draw 12 (.go (.fieldAddr 0 (tm 2)) (P 106)::
.go (.load1 (tm 106)) (P 107)::
.go (.move (tm 11)) (P 108)::
.go (.move (tm 14)) (P 109)::
.go (.indexAddr none 1 (tm 108) (tm 109)) (P 110)::
.go (.load1 (tm 110)) (P 111)::
.go (.move (tm 8)) (P 112)::
.go (.move (tm 14)) (P 113)::
.go (.indexAddr none 1 (tm 112) (tm 113)) (P 114)::
.go (.load1 (tm 114)) (P 115)::
.go (.call (.con (.func (.func 36) ⟨[]⟩ ⟨[]⟩)) [(tm 107),(tm 111),(tm 115)]) (P 116)::
.go (.un .not (tm 116)) (P 117)::
[]) [.ok,.ok,.ok,.ok,.ok,.ok,.ok,.ok,.ok,.ok,.ok,.ok]) (.cond (tm 117) (.seq (.run (.go (.move (.con (.bool false))) (P 4)::
[])) .ret) .skip))) (.run (.go (.move (tm 14)) (P 104)::
.go (.bin .add 3 (tm 104) (.con (.int .i64 (.ofNat 1)))) (P 105)::
.go (.move (tm 105)) (P 14)::
[]))))))) (.seq (.run (.go (.fieldAddr 0 (tm 2)) (P 118)::
.go (.load1 (tm 118)) (P 119)::
.go (.move (tm 12)) (P 120)::
.go (.move (tm 9)) (P 121)::
.go (.call (.con (.func (.func 36) ⟨[]⟩ ⟨[]⟩)) [(tm 119),(tm 120),(tm 121)]) (P 122)::
.go (.move (tm 122)) (P 4)::
[])) .ret))))))))
theorem de27 : @compF Try.prog (Gl.none Try.prog) Try.f27 2=.mk d27 (mkTT 123) [(P 0),(P 1)] [.tmp (P 4)]:=by kernel_rfl
theorem dg27 : Try.prog.funcs[27]?=some Try.f27:=Try.func27
theorem do27 : okF Try.prog Try.f27=true:=by kernel_rfl
instance (T : Tb) (N : List (List Int)) : Decidable (rir T N):=by unfold rir;infer_instance
theorem f27_ok {H : Heap} {c f y : Value} {T : Tb} {N : List (List Int)} (h : TV H c f T) (hy : Nest RI H y N) (hf : fits T) (hv : valid T) (hc : can T N) : Gives Try.prog 27 [.agg ⟨[I T.b,c,f]⟩,y] H (.bool (decide (rir T N))):=by
 obtain⟨f1,f2,f3⟩:=id hf
 obtain⟨hb,v2,v3,v4⟩:=id hv
 obtain⟨c1,c2⟩:=id hc
 have hln : ∀ X,ylen 0 X y=some (I N.length):=hy.len
 have nC : ∀ r∈T.C,∀ v∈r,0<=v/\v<=20000:=λr hr v hv=>by have:=(v3 r hr).2 v hv;omega
 have nN : ∀ r∈N,∀ v∈r,0<=v/\v<=20000:=λr hr v hv=>by have:=(c2 r hr).2 v hv;omega
 have h0 : 0<T.C.length:=by
  apply Nat.pos_of_ne_zero
  intro e
  have : T.C=[]:=List.length_eq_zero_iff.1 e
  simp[cols,this] at v2
 have hcl : cols T<=4:=by rw[<- cols_0 h0];exact f3 _ (List.getElem_mem h0)
 refine F.entryL rfl dg27 do27 de27 rfl (by kernel_rfl) ?_
 simp only[sets]
 refine V.re [(0,.agg ⟨[I T.b,c,f]⟩),(1,y)] (N:=123) zE zY ?_
 intro t hF hA
 simp only[Kn,and_true] at hA
 refine zS ?_
 refine V.l0 ?_
 refine V.heap (λX=>Grow H X/\Bx X H.next [I T.b,c,f] 25) ⟨?_,?_⟩ ?_
 ·exact zW
 ·exact zB
 rintro H1 ⟨g1,b1⟩
 have h1:=h.grow g1
 have y1:=hy.grow ri g1
 have f24':=f24_ok h1 y1 (by omega)
 rw[decide_eq_true (show (∀ row∈N,row.length=cols T)/\N.length=T.C.length from ⟨λr hr=>(c2 r hr).1,c1⟩)] at f24'
 refine zS ?_
 refine V.run ?_
 have zf:=b1.2
 refine VI.sz 2 ?_
 simp only[ds]
 refine VI.callA rfl (f24') zA (λH2 g2=>?_)
 have b2:=b1.grow g2
 have zf:=aI b2.2<|Bool.not_true
 refine VI.sz 4 ?_
 simp only[ds]
 refine VI.callAT zG rfl (f53_ok (h1.grow g2) (y1.grow ri g2) hf hv ⟨c1,λr hr=>(c2 r hr).1⟩) zA (λH3 g3=>?_)
 have b3:=b2.grow g3
 have g13:=(g1.trans g2).trans g3
 refine VI.l0 ?_
 refine zS ?_
 refine V.condP zP (λc0=>?_) (λc0=>?_)
 ·refine zS ?_
  refine V.l0 ?_
  refine zS ?_
  refine V.ret (V.rets rfl (Lv.retG (by simp +contextual (disch:=first|omega|simp only[nx];omega) only[D1,cells_alloc_at,cells_alloc_ne,cells_set_at,cells_set_ne,yres,yres1,yresL,qA,qB,qC,D5,hF,hA,↓reduceIte,qD,qE];rfl) ?_ ?_))
  ·exact g13
  ·exact congrArg _ (decide_eq_false (λhh=>c0 hh.1)).symm
 have hhol : hol T N:=Decidable.not_not.1 c0
 refine zS ?_
 refine V.l0 ?_
 refine zS ?_
 refine V.loop (λz t m X=>∃ (k : Nat),k<=N.length/\z=N.length-k/\m=[]/\Grow H3 X/\(∀ r,r<k->∀ k,k<(N.getD r []).length->isn T.b ((N.getD r []).getD k 0) ((T.C.getD r []).getD k 0))/\Full 123 t/\Kn [(1,y),(2,PT H.next),(5,I k)] t) N.length ?_ ?_
 ·exact⟨0,by omega,by omega,rfl,.refl _,λr hr=>by omega,zF,zK⟩
 clear hF hA
 rintro z t m X ⟨k,hk,rfl,rfl,hg,hall,hF,hA⟩
 simp only[Kn,and_true] at hA
 have bX:=b3.grow hg
 have gX:=g13.trans hg
 refine zS ?_
 have zf:=@hln
 refine V.lz ?_
 refine zS ?_
 refine V.condP zP (λhlt=>?_) (λhlt=>?_)
 ·have hlt' : k<N.length:=by omega
  have hltc : k<T.C.length:=by omega
  obtain⟨p,u,hp,hu⟩:=hy.at ri hlt'
  have hpk:=hp .i64
  obtain⟨p',u',hp',hu'⟩:=h.c.at ri hltc
  have hpk':=hp' .i64
  have q1:=(c2 _ (List.getElem_mem hlt')).1
  have q2:=(v3 _ (List.getElem_mem hltc)).1
  refine zS ?_
  refine V.l0 ?_
  refine zS ?_
  refine V.loop (λz t m Y=>∃ (j : Nat),j<=(N[k]).length/\z=(N[k]).length-j/\m=[]/\Grow H3 Y/\(∀ i,i<j->isn T.b ((N.getD k []).getD i 0) ((T.C.getD k []).getD i 0))/\Full 123 t/\Kn [(1,y),(2,PT H.next),(5,I k),(6,I j)] t) (N[k]).length ?_ ?_
  ·exact⟨0,by omega,by omega,rfl,hg,λi hi=>by omega,zF,zK⟩
  clear hF hA
  rintro z t m Y ⟨j,hj,rfl,rfl,hgY,hallJ,hF,hA⟩
  simp only[Kn,and_true] at hA
  have bY:=b3.grow hgY
  have gY:=g13.trans hgY
  obtain⟨hu1,hu2⟩:=hu Y gY
  obtain⟨hu1',hu2'⟩:=hu' Y gY
  have hul:=hu2.len
  refine zS ?_
  have zf:=aI @hpk<|aI @hu1<|@hul
  refine V.lz ?_
  refine zS ?_
  refine V.condP zP (λhltj=>?_) (λhltj=>?_)
  ·have hj1 : j<(N[k]).length:=by omega
   have hj2 : j<(T.C[k]).length:=by omega
   obtain⟨w,hw,hww⟩:=hu2.at hj1
   have hw1:=hww Y (.refl _)
   obtain⟨w',hw',hww'⟩:=hu2'.at hj2
   have hw1':=hww' Y (.refl _)
   have z1:=nN _ (List.getElem_mem hlt') _ (List.getElem_mem hj1)
   have z2:=nC _ (List.getElem_mem hltc) _ (List.getElem_mem hj2)
   have eN : (N.getD k []).getD j 0=(N[k])[j]:=by rw[gdl hlt',<- gD hj1]
   have eC : (T.C.getD k []).getD j 0=(T.C[k])[j]:=by rw[gdl hltc,<- gD hj2]
   refine zS ?_
   refine V.draw ?_
   have zf:=aI bY.2<|aI @hpk<|aI @hu1<|aI @hw<|@hw1
   refine VD.nz 9 ?_
   simp only[ds]
   have zf:=aI bY.2<|aI @hpk'<|aI @hu1'<|aI @hw'<|@hw1'
   refine VD.nz 8 ?_
   simp only[ds]
   refine VD.callA zA (f36_ok hb (n:=(N[k])[j]) (o:=(T.C[k])[j]) (by omega) (by omega) _) zA (λZ gz=>?_)
   have hu1z:=(hu Z (gY.trans gz)).1
   have hw1z:=hww Z gz
   have m2:=gz.1
   have zf:=aI @hpk<|aI @hu1z<|aI @hw<|@hw1z
   refine VD.dz ?_ ?_ rfl ?_
   ·exact zM
   ·simp only[dcAll,dcOk,wantD,List.cons_append,List.nil_append,true_and,and_true]
   refine zS ?_
   refine V.condP zP (λhno=>?_) (λhno=>?_)
   ·refine zS ?_
    refine V.l0 ?_
    refine zS ?_
    refine V.ret (V.rets rfl (Or.inr ⟨by simp,V.rets rfl (Or.inr ⟨by simp,V.rets rfl (Lv.retG (by simp +contextual (disch:=first|omega|simp only[nx];omega) only[D1,cells_alloc_at,cells_alloc_ne,cells_set_at,cells_set_ne,yres,yres1,yresL,qA,qB,qC,D5,hF,hA,↓reduceIte,qD,qE];rfl) ?_ ?_)⟩)⟩))
    ·exact gY.trans gz
    ·refine congrArg _ (decide_eq_false (λhh=>?_)).symm
     have:=hh.2.1 k hlt' j (by rw[gdl hlt'];exact hj1)
     rw[eN,eC] at this
     rcases hno with hno|hno
     ·exact hno this
     ·omega
   ·refine zS ?_
    refine V.l0 ?_
    refine V.nil (Or.inl ⟨rfl,(N[k]).length-(j+1),by omega,?_⟩)
    refine⟨j+1,hj1,rfl,rfl,hgY.trans gz,λi hi=>?_,zF,zK⟩
    by_cases e : i=j
    ·subst e;rw[eN,eC];exact Decidable.not_not.1 (λhh=>hno (.inl hh))
    ·exact hallJ i (by omega)
  ·obtain rfl : j=(N[k]).length:=by omega
   refine V.exit ?_
   refine zX ?_
   refine V.nil (Or.inr ⟨by simp,?_⟩)
   refine zX ?_
   refine zS ?_
   refine V.l0 ?_
   refine V.nil (Or.inl ⟨rfl,N.length-(k+1),by omega,?_⟩)
   refine⟨k+1,hlt',rfl,rfl,hgY,λr hr=>?_,zF,zK⟩
   by_cases e : r=k
   ·subst e
    intro i hi
    rw[gdl hlt'] at hi
    exact hallJ i hi
   ·exact hall r (by omega)
 obtain rfl : k=N.length:=by omega
 refine V.exit ?_
 refine zX ?_
 refine V.nil (Or.inr ⟨by simp,?_⟩)
 refine zX ?_
 refine zS ?_
 refine V.run ?_
 have zf:=bX.2
 refine VI.sz 2 ?_
 simp only[ds]
 refine VI.callR zA (f54_ok (n:=cols T) (h.c.grow ri gX) h0 (by omega) (λr hr=>⟨(v3 r hr).1,nC r hr⟩) hcl) zA (λw4 X4 ⟨g4,rC,cC,hw4,lrC,lcC⟩=>?_)
 subst hw4
 have b4:=bX.grow g4
 have g04:=gX.trans g4
 refine VI.l0 ?_
 refine zS ?_
 refine V.run ?_
 refine VI.s0 1 ?_
 simp only[ds]
 refine VI.callR zA (f54_ok (n:=cols T) (hy.grow ri g04) (by omega) (by omega) (λr hr=>⟨(c2 r hr).1,nN r hr⟩) hcl) zA (λw5 X5 ⟨g5,rN,cN,hw5,lrN,lcN⟩=>?_)
 subst hw5
 have b5:=b4.grow g5
 have g05:=g04.trans g5
 have lrC:=lrC.grow g5
 have lcC:=lcC.grow g5
 have hlrN:=lrN.len
 have hlcN:=lcN.len
 have eRN : (rsm N).length=N.length:=by simp[rsm]
 have eRC : (rsm T.C).length=T.C.length:=by simp[rsm]
 rw[eRN] at hlrN
 rw[List.length_map,List.length_range] at hlcN
 refine VI.l0 ?_
 refine zS ?_
 refine V.l0 ?_
 refine zS ?_
 refine V.loop (λz t m Y=>∃ (k : Nat),k<=N.length/\z=N.length-k/\m=[]/\Grow X5 Y/\(∀ r,r<k->isn T.b (sm (N.getD r [])) (sm (T.C.getD r [])))/\Full 123 t/\Kn [(2,PT H.next),(7,rC),(8,cC),(9,I (sm (rsm T.C))),(10,rN),(11,cN),(12,I (sm (rsm N))),(13,I k)] t) N.length ?_ ?_
 ·exact⟨0,by omega,by omega,rfl,.refl _,λr hr=>by omega,zF,zK⟩
 clear hF hA
 rintro z t m Y ⟨k,hk,rfl,rfl,hgY,hallR,hF,hA⟩
 simp only[Kn,and_true] at hA
 have bY:=b5.grow hgY
 refine zS ?_
 have zf:=@hlrN
 refine V.lz ?_
 refine zS ?_
 refine V.condP zP (λhltr=>?_) (λhltr=>?_)
 ·have hlt' : k<N.length:=by omega
  have hltc : k<T.C.length:=by omega
  obtain⟨w,hw,hww⟩:=lrN.at (show k<(rsm N).length by omega)
  have hw1:=hww Y hgY
  obtain⟨w',hw',hww'⟩:=lrC.at (show k<(rsm T.C).length by omega)
  have hw1':=hww' Y hgY
  have e1 : (rsm N)[k]'(by omega)=sm N[k]:=by simp[rsm]
  have e2 : (rsm T.C)[k]'(by omega)=sm T.C[k]:=by simp[rsm]
  rw[e1] at hw1
  rw[e2] at hw1'
  have z1:=sm_bound (nN _ (List.getElem_mem hlt'))
  have z2:=sm_bound (nC _ (List.getElem_mem hltc))
  have q1:=(c2 _ (List.getElem_mem hlt')).1
  have q2:=(v3 _ (List.getElem_mem hltc)).1
  have eN : N.getD k []=N[k]:=gdl hlt'
  have eC : T.C.getD k []=T.C[k]:=gdl hltc
  refine zS ?_
  refine V.draw ?_
  have zf:=aI bY.2<|aI @hw<|aI @hw1<|aI @hw'<|@hw1'
  refine VD.nz 9 ?_
  simp only[ds]
  have zf:=aI bY.2<|aI @hw<|aI @hw1<|aI @hw'<|@hw1'
  refine VD.nz 1 ?_
  simp only[ds]
  refine VD.callA zA (f36_ok hb (n:=sm N[k]) (o:=sm T.C[k]) (by omega) (by omega) _) zA (λZ gz=>?_)
  have m2:=gz.1
  refine VD.d0 ?_ ?_ rfl ?_
  ·exact zM
  ·simp only[dcAll,dcOk,wantD,List.cons_append,List.nil_append,true_and,and_true]
  refine zS ?_
  refine V.condP zP (λhno=>?_) (λhno=>?_)
  ·refine zS ?_
   refine V.l0 ?_
   refine zS ?_
   refine V.ret (V.rets rfl (Or.inr ⟨by simp,V.rets rfl (Lv.retG (by simp +contextual (disch:=first|omega|simp only[nx];omega) only[D1,cells_alloc_at,cells_alloc_ne,cells_set_at,cells_set_ne,yres,yres1,yresL,qA,qB,qC,D5,hF,hA,↓reduceIte,qD,qE];rfl) ?_ ?_)⟩))
   ·exact (g05.trans hgY).trans gz
   ·refine congrArg _ (decide_eq_false (λhh=>hno ?_)).symm
    have:=hh.2.2.1 k hlt'
    rwa [eN,eC] at this
  ·refine zS ?_
   refine V.l0 ?_
   refine V.nil (Or.inl ⟨rfl,N.length-(k+1),by omega,?_⟩)
   refine⟨k+1,hlt',rfl,rfl,hgY.trans gz,λr hr=>?_,zF,zK⟩
   by_cases e : r=k
   ·subst e;rw[eN,eC];exact Decidable.not_not.1 hno
   ·exact hallR r (by omega)
 obtain rfl : k=N.length:=by omega
 refine V.exit ?_
 refine zX ?_
 refine V.nil (Or.inr ⟨by simp,?_⟩)
 refine zX ?_
 refine zS ?_
 refine V.l0 ?_
 refine zS ?_
 have dN : ∀ i,0<=due N i/\due N i<=200000:=λi=>by have:=due_bd nN i;omega
 have dC : ∀ i,0<=due T.C i/\due T.C i<=200000:=λi=>by have:=due_bd nC i;omega
 refine V.loop (λz t m Z=>∃ (k : Nat),k<=cols T/\z=cols T-k/\m=[]/\Grow X5 Z/\(∀ r,r<k->isn T.b (due N r) (due T.C r))/\Full 123 t/\Kn [(2,PT H.next),(8,cC),(9,I (sm (rsm T.C))),(11,cN),(12,I (sm (rsm N))),(14,I k)] t) (cols T) ?_ ?_
 ·exact⟨0,by omega,by omega,rfl,hgY,λr hr=>by omega,zF,zK⟩
 clear hF hA
 rintro z t m Z ⟨k,hk,rfl,rfl,hgZ,hallC,hF,hA⟩
 simp only[Kn,and_true] at hA
 have bZ:=b5.grow hgZ
 refine zS ?_
 have zf:=@hlcN
 refine V.lz ?_
 refine zS ?_
 refine V.condP zP (λhltk=>?_) (λhltk=>?_)
 ·have hlt' : k<cols T:=by omega
  obtain⟨w,hw,hww⟩:=lcN.at (show k<((List.range (cols T)).map (due N)).length by simpa using hlt')
  have hw1:=hww Z hgZ
  obtain⟨w',hw',hww'⟩:=lcC.at (show k<((List.range (cols T)).map (due T.C)).length by simpa using hlt')
  have hw1':=hww' Z hgZ
  rw[List.getElem_map,List.getElem_range] at hw1 hw1'
  have z1:=dN k
  have z2:=dC k
  refine zS ?_
  refine V.draw ?_
  have zf:=aI bZ.2<|aI @hw<|aI @hw1<|aI @hw'<|@hw1'
  refine VD.nz 9 ?_
  simp only[ds]
  have zf:=aI bZ.2<|aI @hw<|aI @hw1<|aI @hw'<|@hw1'
  refine VD.nz 1 ?_
  simp only[ds]
  refine VD.callA zA (f36_ok hb (n:=due N k) (o:=due T.C k) (by omega) (by omega) _) zA (λW gw=>?_)
  have m2:=gw.1
  refine VD.d0 ?_ ?_ rfl ?_
  ·exact zM
  ·simp only[dcAll,dcOk,wantD,List.cons_append,List.nil_append,true_and,and_true]
  refine zS ?_
  refine V.condP zP (λhno=>?_) (λhno=>?_)
  ·refine zS ?_
   refine V.l0 ?_
   refine zS ?_
   refine V.ret (V.rets rfl (Or.inr ⟨by simp,V.rets rfl (Lv.retG (by simp +contextual (disch:=first|omega|simp only[nx];omega) only[D1,cells_alloc_at,cells_alloc_ne,cells_set_at,cells_set_ne,yres,yres1,yresL,qA,qB,qC,D5,hF,hA,↓reduceIte,qD,qE];rfl) ?_ ?_)⟩))
   ·exact (g05.trans hgZ).trans gw
   ·exact congrArg _ (decide_eq_false (λhh=>hno (hh.2.2.2.1 k hlt'))).symm
  ·refine zS ?_
   refine V.l0 ?_
   refine V.nil (Or.inl ⟨rfl,cols T-(k+1),by omega,?_⟩)
   refine⟨k+1,hlt',rfl,rfl,hgZ.trans gw,λr hr=>?_,zF,zK⟩
   by_cases e : r=k
   ·subst e;exact Decidable.not_not.1 hno
   ·exact hallC r (by omega)
 obtain rfl : k=cols T:=by omega
 have tb : ∀ M : List (List Int),M.length<=8->(∀ r∈M,r.length=cols T)->(∀ r∈M,∀ v∈r,0<=v/\v<=20000)->0<=sm (rsm M)/\sm (rsm M)<=640000:=by
  intro M h8 hm hM
  have:=sm_bound (c:=80000) (l:=rsm M) (λv hv=>by
   obtain⟨r,hr',rfl⟩:=List.mem_map.1 hv
   have:=sm_bound (hM r hr')
   have:=hm r hr'
   omega)
  have e : (rsm M).length=M.length:=by simp[rsm]
  rw[e] at this
  omega
 have t1:=tb N (by omega) (λr hr=>(c2 r hr).1) nN
 have t2:=tb T.C (by omega) (λr hr=>(v3 r hr).1) nC
 refine V.exit ?_
 refine zX ?_
 refine V.nil (Or.inr ⟨by simp,?_⟩)
 refine zX ?_
 refine zS ?_
 refine V.run ?_
 have zf:=bZ.2
 refine VI.sz 4 ?_
 simp only[ds]
 refine VI.callA rfl (f36_ok hb (n:=sm (rsm N)) (o:=sm (rsm T.C)) (by omega) (by omega) _) zA (λW gw=>?_)
 refine VI.l0 ?_
 refine zS ?_
 refine V.ret (V.rets rfl (Lv.retG (by simp +contextual (disch:=first|omega|simp only[nx];omega) only[D1,cells_alloc_at,cells_alloc_ne,cells_set_at,cells_set_ne,yres,yres1,yresL,qA,qB,qC,D5,hF,hA,↓reduceIte,qD,qE];rfl) ?_ ?_))
 ·exact (g05.trans hgZ).trans gw
 ·congr 1
  rw[decide_eq_decide]
  exact⟨λhh=>⟨hhol,hall,hallR,hallC,hh⟩,λhh=>hh.2.2.2.2⟩
end Go.Xe.TRX
end
