/- What the functions of the layer round come to: each number of a rounding is in its range (RoundAll). Conditions: none. -/
import Derived.Test.YtimnlnfpblomnaaTTL
import Derived.Test.YtimnlnfpblomnaaZl
import Derived.WideShapes
import Derived.ChangeSame
import Derived.Below
-- MOD TR
namespace Go.Xe.TRX
open Go Go.Xe Go.Proofs
open Nat renaming reduceLeDiff → qA, reduceSub → qB, reduceAdd → qC, reduceEqDiff → qD, reduceLT → qE
open Int renaming reduceNegSucc → qF, reduceEq → qG
open Go.Xe.V renaming seq → sA, block → sB, scope → sC, skip → sD, close → sE
open Go.Xe renaming pth → P
open Go.Xe.Rnd
set_option maxRecDepth 100000
set_option maxHeartbeats 1600000
set_option linter.unusedSimpArgs false
noncomputable def d9 : FCode:=(.seq (.run (.go (.box 25 (tm 0)) (P 2)::
.go (.move (.con (.bool false))) (P 4)::
[])) (.seq (.seq (.run (.go (.loadN 3 (tm 2)) (P 17)::
.go (.call (.con (.func (.func 41) ⟨[]⟩ ⟨[]⟩)) [tm 17]) (P 18)::
.go (.un .not (tm 18)) (P 19)::
[])) (.cond (tm 19) (.seq (.run (.go (.call (.con (.func (.func 17) ⟨[]⟩ ⟨[]⟩)) []) (P 20)::
.go (.move (tm 20)) (P 4)::
[])) .ret) .skip)) (.seq (.run (.go (.loadN 3 (tm 2)) (P 22)::
.go (.call (.con (.func (.func 19) ⟨[]⟩ ⟨[]⟩)) [tm 22]) (P 23)::
.go (.call (.con (.func (.func 29) ⟨[]⟩ ⟨[]⟩)) [tm 23]) (P 24)::
.go (.move (tm 24)) (P 21)::
.go (.extract (tm 21) 0) (P 25)::
.go (.extract (tm 21) 1) (P 26)::
.go (.extract (tm 21) 2) (P 27)::
.go (.move (tm 25)) (P 5)::
.go (.move (tm 26)) (P 6)::
.go (.move (tm 27)) (P 7)::
[])) (.seq (.run (.go (.loadN 3 (tm 2)) (P 29)::
.go (.call (.con (.func (.func 19) ⟨[]⟩ ⟨[]⟩)) [tm 29]) (P 30)::
.go (.call (.con (.func (.func 30) ⟨[]⟩ ⟨[]⟩)) [tm 30]) (P 31)::
.go (.move (tm 31)) (P 28)::
.go (.extract (tm 28) 0) (P 32)::
.go (.extract (tm 28) 1) (P 33)::
.go (.move (tm 32)) (P 8)::
.go (.move (tm 33)) (P 9)::
[])) (.seq (.run (.go (.loadN 3 (tm 2)) (P 35)::
.go (.call (.con (.func (.func 19) ⟨[]⟩ ⟨[]⟩)) [tm 35]) (P 36)::
.go (.call (.con (.func (.func 31) ⟨[]⟩ ⟨[]⟩)) [tm 36]) (P 37)::
.go (.move (tm 37)) (P 34)::
.go (.extract (tm 34) 0) (P 38)::
.go (.extract (tm 34) 1) (P 39)::
.go (.move (tm 38)) (P 10)::
.go (.move (tm 39)) (P 11)::
[])) (.seq (.seq (.run (.go (.move (tm 9)) (P 40)::
.go (.bin .neq 29 (tm 40) (.con (.int .i64 (.ofNat 0)))) (P 41)::
.go (.move (tm 41)) (P 42)::
.gd (P 42) false (.move (tm 7)) (P 43)::
.gd (P 42) false (.move (tm 11)) (P 44)::
.gd (P 42) false (.bin .neq 29 (tm 43) (tm 44)) (P 45)::
.go (.pick (tm 42) (.con (.bool true)) (tm 45)) (P 46)::
.go (.move (tm 46)) (P 47)::
.gd (P 47) false (.move (tm 7)) (P 48)::
.gd (P 47) false (.bin .eql 29 (tm 48) (.con (.int .i64 (.ofNat 0)))) (P 49)::
.gd (P 47) false (.move (tm 8)) (P 50)::
.gd (P 47) false (.bin .gtr 3 (tm 50) (.con (.int .i64 (.ofNat 0)))) (P 51)::
.gd (P 47) false (.bin .neq 4 (tm 49) (tm 51)) (P 52)::
.go (.pick (tm 47) (.con (.bool true)) (tm 52)) (P 53)::
[])) (.cond (tm 53) (.seq (.run (.go (.move (.con (.bool false))) (P 4)::
[])) .ret) .skip)) (.seq (.seq (.run (.go (.move (tm 7)) (P 54)::
.go (.bin .neq 29 (tm 54) (.con (.int .i64 (.ofNat 0)))) (P 55)::
[])) (.cond (tm 55) (.seq (.run (.go (.move (tm 7)) (P 56)::
.go (.bin .eql 29 (tm 56) (.con (.int .i64 (.ofNat 9)))) (P 57)::
.go (.move (tm 57)) (P 58)::
.gd (P 58) true (.call (.con (.func (.func 17) ⟨[]⟩ ⟨[]⟩)) []) (P 59)::
.go (.pick (tm 58) (tm 59) (.con (.bool false))) (P 60)::
.go (.move (tm 60)) (P 4)::
[])) .ret) .skip)) (.seq (.run (.go (.move (tm 5)) (P 61)::
.go (.loadN 3 (tm 2)) (P 62)::
.go (.move (tm 1)) (P 63)::
.go (.call (.con (.func (.func 42) ⟨[]⟩ ⟨[]⟩)) [(tm 62),(tm 63)]) (P 64)::
.go (.buildSlice 22 2 [(.slice none 0 0),(.slice none 0 0)] [(0,1,(tm 61)),(1,1,(tm 64))]) (P 65)::
.go (.move (tm 65)) (P 12)::
[])) (.seq (.seq (.run (.go (.move (.con (.int .i64 (.ofNat 0)))) (P 13)::
[])) (.block 0 (.loop (.seq (.seq (.run (.go (.move (tm 13)) (P 66)::
.go (.bin .lss 3 (tm 66) (.con (.int .i64 (.ofNat 2)))) (P 67)::
[])) (.cond (tm 67) .skip (.exit 0))) (.seq (.block 1 (.seq (.run (.go (.move (tm 12)) (P 70)::
.go (.move (tm 13)) (P 71)::
.go (.indexAddr none 1 (tm 70) (tm 71)) (P 72)::
.go (.load1 (tm 72)) (P 73)::
.go (.move (tm 73)) (P 14)::
[])) (.seq (.seq (.run (.go (.loadN 3 (tm 2)) (P 74)::
.go (.call (.con (.func (.func 19) ⟨[]⟩ ⟨[]⟩)) [tm 74]) (P 75)::
.go (.move (tm 14)) (P 76)::
.go (.call (.con (.func (.func 21) ⟨[]⟩ ⟨[]⟩)) [tm 76]) (P 77)::
.go (.call (.con (.func (.func 22) ⟨[]⟩ ⟨[]⟩)) [(tm 75),(tm 77),(.con (.int .i64 (.ofNat 1000000)))]) (P 78)::
.go (.un .not (tm 78)) (P 79)::
[])) (.cond (tm 79) (.seq (.seq (.run (.go (.move (tm 13)) (P 80)::
.go (.bin .eql 3 (tm 80) (.con (.int .i64 (.ofNat 0)))) (P 81)::
[])) (.cond (tm 81) (.seq (.run (.go (.move (.con (.bool false))) (P 4)::
[])) .ret) .skip)) (.exit 1)) .skip)) (.seq (.run (.go (.move (.con (.int .i64 (.ofNat 0)))) (P 15)::
[])) (.block 2 (.loop (.seq (.seq (.run (.go (.move (tm 15)) (P 82)::
.go (.move (tm 14)) (P 83)::
.go (.len 0 (tm 83)) (P 84)::
.go (.bin .lss 3 (tm 82) (tm 84)) (P 85)::
[])) (.cond (tm 85) .skip (.exit 2))) (.seq (.block 3 (.seq (.run (.go (.move (.con (.int .i64 (.ofNat 0)))) (P 16)::
[])) (.block 4 (.loop (.seq (.seq (.run (.go (.move (tm 16)) (P 88)::
.go (.move (tm 14)) (P 89)::
.go (.move (tm 15)) (P 90)::
.go (.indexAddr none 1 (tm 89) (tm 90)) (P 91)::
.go (.load1 (tm 91)) (P 92)::
.go (.len 0 (tm 92)) (P 93)::
.go (.bin .lss 3 (tm 88) (tm 93)) (P 94)::
[])) (.cond (tm 94) .skip (.exit 4))) (.seq (.block 5 (.seq (.draw 57 (.go (.move (tm 14)) (P 97)::
.go (.move (tm 15)) (P 98)::
.go (.indexAddr none 1 (tm 97) (tm 98)) (P 99)::
.go (.load1 (tm 99)) (P 100)::
.go (.move (tm 16)) (P 101)::
.go (.indexAddr none 1 (tm 100) (tm 101)) (P 102)::
.go (.load1 (tm 102)) (P 103)::
.go (.move (tm 10)) (P 104)::
.go (.move (tm 15)) (P 105)::
.go (.indexAddr none 1 (tm 104) (tm 105)) (P 106)::
.go (.load1 (tm 106)) (P 107)::
.go (.move (tm 16)) (P 108)::
.go (.indexAddr none 2 (tm 107) (tm 108)) (P 109)::
.go (.fieldAddr 0 (tm 109)) (P 110)::
.go (.load1 (tm 110)) (P 111)::
.go (.bin .lss 3 (tm 103) (tm 111)) (P 112)::
.go (.move (tm 112)) (P 113)::
.gd (P 113) false (.move (tm 14)) (P 114)::
.gd (P 113) false (.move (tm 15)) (P 115)::
.gd (P 113) false (.indexAddr none 1 (tm 114) (tm 115)) (P 116)::
.gd (P 113) false (.load1 (tm 116)) (P 117)::
.gd (P 113) false (.move (tm 16)) (P 118)::
.gd (P 113) false (.indexAddr none 1 (tm 117) (tm 118)) (P 119)::
.gd (P 113) false (.load1 (tm 119)) (P 120)::
.gd (P 113) false (.move (tm 10)) (P 121)::
.gd (P 113) false (.move (tm 15)) (P 122)::
.gd (P 113) false (.indexAddr none 1 (tm 121) (tm 122)) (P 123)::
.gd (P 113) false (.load1 (tm 123)) (P 124)::
.gd (P 113) false (.move (tm 16)) (P 125)::
.gd (P 113) false (.indexAddr none 2 (tm 124) (tm 125)) (P 126)::
.gd (P 113) false (.fieldAddr 1 (tm 126)) (P 127)::
.gd (P 113) false (.load1 (tm 127)) (P 128)::
.gd (P 113) false (.bin .gtr 3 (tm 120) (tm 128)) (P 129)::
.go (.pick (tm 113) (.con (.bool true)) (tm 129)) (P 130)::
.go (.move (tm 130)) (P 131)::
.gd (P 131) false (.move (tm 8)) (P 132)::
.gd (P 131) false (.bin .eql 3 (tm 132) (.con (.int .i64 (.ofNat 1)))) (P 133)::
.gd (P 131) false (.move (tm 133)) (P 134)::
.gd (P 134) true (.move (tm 10)) (P 135)::
.gd (P 134) true (.move (tm 15)) (P 136)::
.gd (P 134) true (.indexAddr none 1 (tm 135) (tm 136)) (P 137)::
.gd (P 134) true (.load1 (tm 137)) (P 138)::
.gd (P 134) true (.move (tm 16)) (P 139)::
.gd (P 134) true (.indexAddr none 2 (tm 138) (tm 139)) (P 140)::
.gd (P 134) true (.fieldAddr 0 (tm 140)) (P 141)::
.gd (P 134) true (.load1 (tm 141)) (P 142)::
.gd (P 134) true (.move (tm 10)) (P 143)::
.gd (P 134) true (.move (tm 15)) (P 144)::
.gd (P 134) true (.indexAddr none 1 (tm 143) (tm 144)) (P 145)::
.gd (P 134) true (.load1 (tm 145)) (P 146)::
.gd (P 134) true (.move (tm 16)) (P 147)::
.gd (P 134) true (.indexAddr none 2 (tm 146) (tm 147)) (P 148)::
.gd (P 134) true (.fieldAddr 1 (tm 148)) (P 149)::
.gd (P 134) true (.load1 (tm 149)) (P 150)::
.gd (P 134) true (.bin .neq 3 (tm 142) (tm 150)) (P 151)::
.gd (P 131) false (.pick (tm 134) (tm 151) (.con (.bool false))) (P 152)::
.go (.pick (tm 131) (.con (.bool true)) (tm 152)) (P 153)::
[]) [.ok,.ok,.ok,.ok,.ok,.ok,.ok,.ok,.ok,.ok,.ok,.ok,.ok,.ok,.ok,.ok,.ok,.ok,.ok,.ok,.ok,.ok,.ok,.ok,.ok,.ok,.ok,.ok,.ok,.ok,.ok,.ok,.ok,.ok,.ok,.ok,.ok,.ok,.ok,.ok,.ok,.ok,.ok,.ok,.ok,.ok,.ok,.ok,.ok,.ok,.ok,.ok,.ok,.ok,.ok,.ok,.ok]) (.cond (tm 153) (.seq (.run (.go (.move (.con (.bool false))) (P 4)::
[])) .ret) .skip))) (.run (.go (.move (tm 16)) (P 95)::
.go (.bin .add 3 (tm 95) (.con (.int .i64 (.ofNat 1)))) (P 96)::
.go (.move (tm 96)) (P 16)::
[])))))))) (.run (.go (.move (tm 15)) (P 86)::
.go (.bin .add 3 (tm 86) (.con (.int .i64 (.ofNat 1)))) (P 87)::
.go (.move (tm 87)) (P 15)::
[])))))))))) (.run (.go (.move (tm 13)) (P 68)::
.go (.bin .add 3 (tm 68) (.con (.int .i64 (.ofNat 1)))) (P 69)::
.go (.move (tm 69)) (P 13)::
[]))))))) (.seq (.run (.go (.call (.con (.func (.func 17) ⟨[]⟩ ⟨[]⟩)) []) (P 154)::
.go (.move (tm 154)) (P 4)::
[])) .ret))))))))))
theorem de9 : @compF Try.prog (Gl.none Try.prog) Try.f9 2=.mk d9 (mkTT 155) [(P 0),(P 1)] [.tmp (P 4)]:=by kernel_rfl
theorem dg9 : Try.prog.funcs[9]?=some Try.f9:=Try.func9
theorem do9 : okF Try.prog Try.f9=true:=by kernel_rfl
theorem span_in {T : Tb} {r k : Nat} {R : Nat→Int×Int} (h : SpR T (inR T) r R) (hk : k<cols T) {N : List (List Int)} (hN : N∈rnds T) : (R k).1≤(N.getD r []).getD k 0∧(N.getD r []).getD k 0≤(R k).2:=(h k hk).1 _ ⟨N,hN,rfl⟩
theorem rnds_one {T : Tb} (h : (rnds T).length=1) {N M : List (List Int)} (hN : N∈rnds T) (hM : M∈rnds T) : N=M:=by
 obtain⟨A,hA⟩:=List.length_eq_one_iff.1 h
 rw[hA,List.mem_singleton] at hN hM
 rw[hN,hM]
theorem rnds_rd {T : Tb} {N : List (List Int)} (h : N∈rnds T) {r k : Nat} (hr : r<T.C.length) (hk : k<cols T) : rd T.b ((N.getD r []).getD k 0) ((T.C.getD r []).getD k 0):=by
 obtain⟨⟨h1,h2⟩,h3⟩:=rnds_mem.1 h
 have hr' : r<N.length:=by omega
 refine (h3.1 r hr').1 k ?_
 rw[gdl hr',h2 _ (List.getElem_mem hr')];exact hk
theorem lo_hi {b n : Int} (hb : 2≤b) (hn : 0≤n) : lo b n≤hi b n:=by
 have h1:=lo_mul hb hn
 have h2:=lo_mul (b:=b) (n:=n+b-1) hb (by omega)
 unfold hi
 omega
theorem span_one {T : Tb} (hv : valid T) {r k : Nat} {R : Nat→Int×Int} (h : SpR T (inR T) r R) (hr : r<T.C.length) (hk : k<cols T) (h1 : (rnds T).length=1) : (R k).1=(R k).2:=by
 obtain⟨A,hA⟩:=List.length_eq_one_iff.1 h1
 have hN : A∈rnds T:=by rw[hA];simp
 obtain⟨q1,q2,q3⟩:=h k hk
 obtain⟨p1,p2⟩:=span_in h hk hN
 have hrd:=rnds_rd hN hr hk
 have hlh:=lo_hi hv.1.1 (cell_nn hv r k)
 have hx : ∀ x,inR T r x→x=A.getD r []:=by
  rintro x ⟨M,hM,rfl⟩
  rw[rnds_one h1 hM hN]
 have e1 : (R k).1=(A.getD r []).getD k 0:=by
  rcases q2 with q2|⟨x,a,b⟩
  ·rcases hrd with e|e<;>omega
  ·rw[hx x a] at b;exact b.symm
 have e2 : (R k).2=(A.getD r []).getD k 0:=by
  rcases q3 with q3|⟨x,a,b⟩
  ·rcases hrd with e|e<;>omega
  ·rw[hx x a] at b;exact b.symm
 omega
theorem neq4 (a b : Bool) : xbinOp Try.prog .neq 4 (.bool a) (.bool b)=some (.bool (a != b)):=by
 cases a<;>cases b<;>rfl
theorem f9_ok {H : Heap} {c f : Value} {T : Tb} {q : Int} (h : TV H c f T) (hq : 0≤q∧q≤4294967295) : F Try.prog 9 ⟨[.agg ⟨[I T.b,c,f]⟩,.int .u32 q]⟩ H (fun w _=>w=.bool true):=by
 refine F.entryL rfl dg9 do9 de9 rfl (by kernel_rfl) ?_
 simp only[sets]
 refine V.re [(0,.agg ⟨[I T.b,c,f]⟩),(1,.int .u32 q)] (N:=155) zE zY ?_
 intro t hF hA
 simp only[Kn,and_true] at hA
 refine zS ?_
 refine V.l0 ?_
 refine V.heap (fun X=>Grow H X∧Bx X H.next [I T.b,c,f] 25) ⟨?_,?_⟩ ?_
 ·exact zW
 ·exact zB
 rintro H1 ⟨g1,b1⟩
 refine zS ?_
 refine V.run ?_
 have zf:=b1.2
 refine VI.sz 1 ?_
 simp only[ds]
 refine VI.callA rfl (f41_ok (h.grow g1)) zA (fun H2 g2=>?_)
 have b2:=b1.grow g2
 have g12:=g1.trans g2
 refine VI.l0 ?_
 refine zS ?_
 refine V.condP zP (fun hs=>?_) (fun hs=>?_)
 ·refine zS ?_
  refine V.run ?_
  refine VI.callA rfl (f17_ok _) zA (fun H3 g3=>?_)
  refine VI.l0 ?_
  refine zS ?_
  refine V.ret (V.rets rfl (Lv.retF (by simp +contextual (disch:=first|omega|simp only[nx];omega) only[D1,cells_alloc_at,cells_alloc_ne,cells_set_at,cells_set_ne,yres,yres1,yresL,qA,qB,qC,D5,hF,hA,↓reduceIte,qD,qE];rfl) ?_))
  rfl
 have hs' : snd T:=Decidable.not_not.1 (by simpa using hs)
 obtain⟨hth,hfl⟩:=hs'
 obtain⟨hf,hv⟩:=flt_0.1 hfl
 have hsh:=thin_sh hth
 refine zS ?_
 refine V.run ?_
 have zf:=b2.2
 refine VI.sz 1 ?_
 simp only[ds]
 refine VI.callR zA (f19_ok (h.grow g12) hsh) zA (fun w3 H3 ⟨g3,c',f',hw3,tv3⟩=>?_)
 subst hw3
 refine VI.callR zA (f29_ok tv3 hsh) zA (fun w4 H4 ⟨g4,u,n,e,hw4,hb4⟩=>?_)
 subst hw4
 have g24:=g3.trans g4
 have g14:=g12.trans g24
 have b4:=b2.grow g24
 obtain⟨pu,nu,cu,rfl⟩ : ∃ a b c,u=.slice a b c:=by
  rcases hb4 with⟨_,rfl,_⟩|⟨_,_,rfl,_⟩|⟨_,_,_,_,hu⟩
  ·exact⟨_,_,_,rfl⟩
  ·exact⟨_,_,_,rfl⟩
  ·exact hu.isS
 refine VI.l0 ?_
 refine zS ?_
 refine V.run ?_
 have zf:=b4.2
 refine VI.sz 1 ?_
 simp only[ds]
 refine VI.callR zA (f19_ok (h.grow g14) hsh) zA (fun w5 H5 ⟨g5,c5,f5,hw5,tv5⟩=>?_)
 subst hw5
 refine VI.callA rfl (f30_ok tv5 hsh) zA (fun H6 g6=>?_)
 rw[if_pos hfl,hfl]
 have g46:=g5.trans g6
 have g16:=g14.trans g46
 have b6:=b4.grow g46
 refine VI.l0 ?_
 refine zS ?_
 refine V.run ?_
 have zf:=b6.2
 refine VI.sz 1 ?_
 simp only[ds]
 refine VI.callR zA (f19_ok (h.grow g16) hsh) zA (fun w7 H7 ⟨g7,c7,f7,hw7,tv7⟩=>?_)
 subst hw7
 refine VI.callR zA (f31_ok tv7 hsh) zA (fun w8 H8 ⟨g8,sp,e8,hw8,hs8⟩=>?_)
 subst hw8
 have g68:=g7.trans g8
 have g18:=g16.trans g68
 have b8:=b6.grow g68
 obtain⟨psp,nsp,csp,esp⟩ : ∃ a b c,sp=.slice a b c:=by
  rcases hs8 with⟨_,rfl,_⟩|⟨_,_,rfl,_⟩|⟨_,_,_,p,rfl,_⟩
  ·exact⟨_,_,_,rfl⟩
  ·exact⟨_,_,_,rfl⟩
  ·exact⟨_,_,_,rfl⟩
 subst esp
 refine VI.l0 ?_
 have bdb:=best_bd hfl
 have bw:=best_w T
 rcases hb4 with⟨h0,_⟩|⟨_,hr0,_,rfl,rfl⟩|⟨_,hr0,rfl,rfl,hu⟩
 ·exact absurd hfl h0
 ·rcases hs8 with⟨h0,_⟩|⟨_,_,_,rfl⟩|⟨_,hr1,_⟩
  ·exact absurd hfl h0
  ·have hl0 : (rnds T).length=0:=by rw[hr0];rfl
   rw[hl0]
   refine zS ?_
   have zf:=@neq4
   refine V.lz ?_
   refine zS ?_
   refine V.condF zA ?_
   refine zS ?_
   refine V.l0 ?_
   refine zS ?_
   refine V.condT zA ?_
   refine zS ?_
   refine V.run ?_
   refine VI.s0 3 ?_
   simp only[ds]
   refine VI.callAT zG rfl (f17_ok _) zA (fun H9 g9=>?_)
   refine VI.l0 ?_
   refine zS ?_
   refine V.ret (V.rets rfl (Lv.retF (by simp +contextual (disch:=first|omega|simp only[nx];omega) only[D1,cells_alloc_at,cells_alloc_ne,cells_set_at,cells_set_ne,yres,yres1,yresL,qA,qB,qC,D5,hF,hA,↓reduceIte,qD,qE];rfl) ?_))
   rfl
  ·exact absurd hr0 hr1
 ·rcases hs8 with⟨h0,_⟩|⟨_,hr1,_⟩|⟨_,_,rfl,hsp⟩
  ·exact absurd hfl h0
  ·exact absurd hr1 hr0
  ·have hl0 : 0<(rnds T).length:=List.length_pos_iff.2 hr0
   have hl0' : ((0 : Int)<((rnds T).length : Int))=True:=by simp only[eq_iff_iff,iff_true];omega
   refine zS ?_
   have zf:=And.intro @neq4<|@hl0'
   refine V.lz ?_
   refine zS ?_
   refine V.condF zA ?_
   refine zS ?_
   refine V.l0 ?_
   refine zS ?_
   refine V.condF zA ?_
   have hm:=best_mem hr0
   have hcb:=(rnds_can hv hm).1
   have hu8:=(hu.growS ((g46.trans g68).s (U:=fun _=>False)) (fun _ hh=>hh.elim) (fun _=>id)).nest
   refine zS ?_
   refine V.run ?_
   have zf:=b8.2
   refine VI.sz 3 ?_
   simp only[ds]
   refine VI.callR zA (f42_ok (h.grow g18) hf hv hq) zA (fun w9 H9 ⟨g9,nx9⟩=>?_)
   obtain⟨M,hM⟩ : ∃ M,M=(tabN T.b T.C q).1:=⟨_,rfl⟩
   rw[← hM] at nx9
   obtain⟨px,nx',cx,rfl⟩:=nx9.isS
   have hMl : M.length=T.C.length:=by rw[hM];exact tabN_len _ _ _
   have hMr : ∀ row∈M,row.length≤4:=by
    intro row hr
    obtain⟨k,hk,rfl⟩:=List.mem_iff_getElem.1 hr
    have hk2 : k<T.C.length:=by omega
    have:=tabN_row T.b T.C q k (by rw[← hM];exact hk) hk2
    have h4:=hf.2.2 _ (List.getElem_mem hk2)
    subst hM
    omega
   have hC5:=hf.1
   have hc4:=cols_le hf
   refine VI.l0 ?_
   refine V.heap (fun X=>Grow H9 X∧Bx X H9.next [.slice pu nu cu,.slice px nx' cx] 22) ⟨?_,?_⟩ ?_
   ·exact zW
   ·exact zB
   rintro H10 ⟨g10,d10⟩
   have g8a:=g9.trans g10
   have g1a:=g18.trans g8a
   have ba:=b8.grow g8a
   have hua:=hu8.grow ri g8a
   have nxa:=nx9.grow ri g10
   have hspa:=hsp.grow g8a
   obtain⟨pp,hpp,_,hko,hsr⟩:=hspa
   simp only[Value.slice.injEq] at hpp
   obtain⟨rfl,rfl,rfl⟩:=hpp
   obtain⟨lst,hlst⟩ : ∃ lst,lst=rows T pp:=⟨_,rfl⟩
   rw[← hlst] at hko
   have boths : ∀ i,i<2→∃ pv nv cv Ni,[Value.slice pu nu cu,.slice px nx' cx][i]?=some (.slice pv nv cv)∧Nest RI H10 (.slice pv nv cv) Ni∧(i=0→Ni∈rnds T)∧Ni.length≤5∧∀ row∈Ni,row.length≤4:=by
    intro i hi
    rcases (by omega : i=0∨i=1) with rfl|rfl
    ·exact⟨_,_,_,_,rfl,hua,fun _=>hm,by have:=hcb.1;omega,fun row hr=>by have:=(hcb.2 row hr).1;omega⟩
    ·exact⟨_,_,_,_,rfl,nxa,fun hh=>by omega,by omega,hMr⟩
   refine zS ?_
   refine V.l0 ?_
   refine zS ?_
   refine V.loop (fun z t m X=>∃ (i : Nat),i≤2∧z=2-i∧m=[]∧Grow H10 X∧Full 155 t∧Kn [(2,PT H.next),(8,I (rnds T).length),(10,.slice (some ⟨pp.po,0,none⟩) T.C.length T.C.length),(12,.slice (some ⟨H9.next,0,none⟩) 2 2),(13,I i)] t) 2 ?_ ?_
   ·exact⟨0,by omega,by omega,rfl,.refl _,zF,zK⟩
   clear hF hA
   rintro z t m X ⟨i,hi,rfl,rfl,hg,hF,hA⟩
   simp only[Kn,and_true] at hA
   have bX:=ba.grow hg
   have gX:=g1a.trans hg
   have dX:=d10.grow hg
   refine zS ?_
   refine V.l0 ?_
   refine zS ?_
   refine V.condP zP (fun hlt=>?_) (fun hlt=>?_)
   ·have hi2 : i<2:=by omega
    obtain⟨pv,nv,cv,Ni,hat,hni,hi0,hl5,hl4⟩:=boths i hi2
    have ix:=own_idx (y:=H9.next) (n:=2) (c:=2) hi2
    have hniX:=hni.grow ri hg
    refine zS ?_
    have zf:=And.intro dX.2<|And.intro @ix<|And.intro @hat<|@arr_get
    refine V.lz ?_
    refine zS ?_
    refine V.run ?_
    have zf:=bX.2
    refine VI.sz 1 ?_
    simp only[ds]
    refine VI.callR zA (f19_ok (h.grow gX) hsh) zA (fun w11 H11 ⟨g11,c11,f11,hw11,tv11⟩=>?_)
    subst hw11
    refine VI.s0 1 ?_
    simp only[ds]
    refine VI.callR zA (f21_ok (hniX.grow ri g11) (by omega) (fun r hr=>by have:=hl4 r hr;omega)) zA (fun w12 H12 ⟨g12',on12⟩=>?_)
    have ny12 : Nest RI H12 w12 Ni:=on12.nest.weak (fun _ _ hh=>hh.1)
    refine VI.callA rfl (f22_ok 1000000 (tv11.grow g12') hsh ny12 (by omega) (fun r hr=>by have:=hl4 r hr;omega)) zA (fun H13 g13=>?_)
    have ep : decide (prv T Ni 1000000)=decide (Ni∈rnds T):=decide_eq_decide.2 (prv_iff hf hv (by decide))
    rw[ep]
    have gXd:=(g11.trans g12').trans g13
    have hgd:=hg.trans gXd
    have hnid:=hniX.grow ri gXd
    by_cases hin : Ni∈rnds T
    ·rw[decide_eq_true hin]
     refine VI.l0 ?_
     refine zS ?_
     refine V.condF zA ?_
     have hcani:=(rnds_can hv hin).1
     have hln:=hni.len
     refine zS ?_
     refine V.l0 ?_
     refine zS ?_
     refine V.loop (fun z t m X=>∃ (r : Nat),r≤Ni.length∧z=Ni.length-r∧m=[]∧Grow H10 X∧Full 155 t∧Kn [(2,PT H.next),(8,I (rnds T).length),(10,.slice (some ⟨pp.po,0,none⟩) T.C.length T.C.length),(12,.slice (some ⟨H9.next,0,none⟩) 2 2),(13,I i),(14,.slice pv nv cv),(15,I r)] t) Ni.length ?_ ?_
     ·exact⟨0,by omega,by omega,rfl,hgd,zF,zK⟩
     clear hF hA
     rintro z t m Y ⟨r,hr,rfl,rfl,hgY,hF,hA⟩
     simp only[Kn,and_true] at hA
     refine zS ?_
     have zf:=@hln
     refine V.lz ?_
     refine zS ?_
     refine V.condP zP (fun hlr=>?_) (fun hlr=>?_)
     ·have hr' : r<Ni.length:=by omega
      have hrc : r<T.C.length:=by have:=hcani.1;omega
      obtain⟨pr,ur,hpr,hur⟩:=hni.at ri hr'
      have hprk:=hpr .i64
      have hrl:=(hcani.2 _ (List.getElem_mem hr')).1
      obtain⟨hsr0,hsr1,R,hR,hSp⟩:=hsr r hrc
      obtain⟨cR,cR1,cR2,cR3⟩:=hR
      refine zS ?_
      refine V.l0 ?_
      refine zS ?_
      refine V.loop (fun z t m X=>∃ (k : Nat),k≤(Ni[r]).length∧z=(Ni[r]).length-k∧m=[]∧Grow H10 X∧Full 155 t∧Kn [(2,PT H.next),(8,I (rnds T).length),(10,.slice (some ⟨pp.po,0,none⟩) T.C.length T.C.length),(12,.slice (some ⟨H9.next,0,none⟩) 2 2),(13,I i),(14,.slice pv nv cv),(15,I r),(16,I k)] t) (Ni[r]).length ?_ ?_
      ·exact⟨0,by omega,by omega,rfl,hgY,zF,zK⟩
      clear hF hA
      rintro z t m Z ⟨k,hk,rfl,rfl,hgZ,hF,hA⟩
      simp only[Kn,and_true] at hA
      obtain⟨hv1,hv2⟩:=hur Z hgZ
      have hvl:=hv2.len
      refine zS ?_
      have zf:=And.intro @hprk<|And.intro @hv1<|@hvl
      refine V.lz ?_
      refine zS ?_
      refine V.condP zP (fun hlk=>?_) (fun hlk=>?_)
      ·have hk1 : k<(Ni[r]).length:=by omega
       have hkc : k<cols T:=by omega
       obtain⟨w,hw,hww⟩:=hv2.at hk1
       have hw1:=hww Z (.refl _)
       have koZ:=(hko.grow hgZ).2
       have cRZ : Z.cellsAt (pp.pi r)=some (⟨cR⟩,59,true):=(hgZ.cells hsr1).trans cR1
       obtain⟨cr1,cr2⟩:=cR3 k hkc
       have hli : lst[r]?=some (.slice (some ⟨pp.pi r,0,none⟩) (cols T) (cols T)):=by rw[hlst];simp[hrc]
       have ix1:=own_idx (y:=pp.po) (n:=T.C.length) (c:=T.C.length) hrc
       have ix2:=idxw (i:=pp.pi r) hkc
       obtain⟨s1,s2⟩:=span_in hSp hkc hin
       have eN : (Ni.getD r []).getD k 0=(Ni[r])[k]:=by rw[gdl hr',List.getD_eq_getElem?_getD,List.getElem?_eq_getElem hk1];rfl
       rw[eN] at s1 s2
       have hone:=span_one hv hSp hrc hkc
       by_cases h1 : (rnds T).length=1
       ·have hone':=hone h1
        rw[hone'] at cr1 s1
        have fa : ((Ni[r])[k]<(R k).2)=False:=by simp only[eq_iff_iff,iff_false];omega
        have fb : ((R k).2<(Ni[r])[k])=False:=by simp only[eq_iff_iff,iff_false];omega
        have fc : (((rnds T).length : Int)=1)=True:=by simp only[eq_iff_iff,iff_true];omega
        refine zS ?_
        have zf:=And.intro @hprk<|And.intro @hv1<|And.intro @hw<|And.intro @hw1<|And.intro @koZ<|And.intro @cRZ<|And.intro @cr1<|And.intro @cr2<|And.intro @hli<|And.intro @ix1<|And.intro @ix2<|And.intro @arr_get<|And.intro @fa<|And.intro @fb<|@fc
        refine V.dz ?_ ?_ rfl ?_
        ·exact zM
        ·simp only[dcAll,dcOk,wantD,List.cons_append,List.nil_append,true_and,and_true]
        refine zS ?_
        refine V.condF zA ?_
        refine zS ?_
        refine V.l0 ?_
        refine V.nil (Or.inl ⟨rfl,(Ni[r]).length-(k+1),by omega,?_⟩)
        exact⟨k+1,hk1,rfl,rfl,hgZ,zF,zK⟩
       ·have fa : ((Ni[r])[k]<(R k).1)=False:=by simp only[eq_iff_iff,iff_false];omega
        have fb : ((R k).2<(Ni[r])[k])=False:=by simp only[eq_iff_iff,iff_false];omega
        have fc : (((rnds T).length : Int)=1)=False:=by simp only[eq_iff_iff,iff_false];omega
        refine zS ?_
        have zf:=And.intro @hprk<|And.intro @hv1<|And.intro @hw<|And.intro @hw1<|And.intro @koZ<|And.intro @cRZ<|And.intro @cr1<|And.intro @cr2<|And.intro @hli<|And.intro @ix1<|And.intro @ix2<|And.intro @arr_get<|And.intro @fa<|And.intro @fb<|@fc
        refine V.dz ?_ ?_ rfl ?_
        ·exact zM
        ·simp only[dcAll,dcOk,wantD,List.cons_append,List.nil_append,true_and,and_true]
        refine zS ?_
        refine V.condF zA ?_
        refine zS ?_
        refine V.l0 ?_
        refine V.nil (Or.inl ⟨rfl,(Ni[r]).length-(k+1),by omega,?_⟩)
        exact⟨k+1,hk1,rfl,rfl,hgZ,zF,zK⟩
      ·obtain rfl : k=(Ni[r]).length:=by omega
       refine V.exit ?_
       refine zX ?_
       refine V.nil (Or.inr ⟨by simp,?_⟩)
       refine zX ?_
       refine zS ?_
       refine V.l0 ?_
       refine V.nil (Or.inl ⟨rfl,Ni.length-(r+1),by omega,?_⟩)
       exact⟨r+1,hr',rfl,rfl,hgZ,zF,zK⟩
     ·obtain rfl : r=Ni.length:=by omega
      refine V.exit ?_
      refine zX ?_
      refine V.nil (Or.inr ⟨by simp,?_⟩)
      refine zX ?_
      refine zS ?_
      refine V.l0 ?_
      refine V.nil (Or.inl ⟨rfl,2-(i+1),by omega,?_⟩)
      exact⟨i+1,by omega,rfl,rfl,hgY,zF,zK⟩
    ·rw[decide_eq_false hin]
     refine VI.l0 ?_
     refine zS ?_
     refine V.condT zA ?_
     refine zS ?_
     refine V.l0 ?_
     refine zS ?_
     refine V.condP zP (fun h0=>?_) (fun h0=>?_)
     ·exact absurd (hi0 (by omega)) hin
     ·refine zS ?_
      refine V.exit ?_
      refine zX ?_
      refine zS ?_
      refine V.l0 ?_
      refine V.nil (Or.inl ⟨rfl,2-(i+1),by omega,?_⟩)
      exact⟨i+1,by omega,rfl,rfl,hgd,zF,zK⟩
   ·refine V.exit ?_
    refine zX ?_
    refine V.nil (Or.inr ⟨by simp,?_⟩)
    refine zX ?_
    refine zS ?_
    refine V.run ?_
    refine VI.callA rfl (f17_ok _) zA (fun H11 g11=>?_)
    refine VI.l0 ?_
    refine zS ?_
    refine V.ret (V.rets rfl (Lv.retF (by simp +contextual (disch:=first|omega|simp only[nx];omega) only[D1,cells_alloc_at,cells_alloc_ne,cells_set_at,cells_set_ne,yres,yres1,yresL,qA,qB,qC,D5,hF,hA,↓reduceIte,qD,qE];rfl) ?_))
    rfl
end Go.Xe.TRX
/- Rules of reasoning over the executable reading of the model's code (part Z16): arguments, by what their types allow. Conditions: none; for every program. -/
namespace Go.Xe
open Go Go.RowKit Go.ChangeShapes Go.WideShapes
theorem okWide_agg {P : Program} {w : World} {r : Reach} {base : Nat} {t : TypeId} {v : Value} {fs : Array Field} (ht : P.underlying t=some (.struct fs)) (h : Value.okWide P w r base t v) : ∃ cs,v=.agg cs:=by
 unfold Value.okWide at h
 rw[ht] at h
 obtain⟨cs,h,_⟩:=h
 exact⟨cs,h⟩
end Go.Xe
/- The end of a call that has changed nothing of what was there: what a statement asks of the memory behind it. Conditions: as post_of_same's, but that new memory may be frozen. -/
namespace Go.Xe
open Go Go.RowKit Go.ChangeShapes Go.WideShapes
variable {H : Type} {enc : TypeId×Value→H} {P : Program}
theorem post_of_old {f : Func} {s : ChangeSpec} {apart fresh handsOn again : Bool} {W W' : World} {args : Array Value} {v : Value} {ds gs : List (DataW H)} {before pa pv : List MemPlace}
  (hW : DataW.Whole enc P f.params.toList s.vars apart W args.toList ds gs before)
  (hres : ∀ (b : Nat) (sp : Nat→Bool) (hd : Bool),DataW.TrodAll enc P W' b sp hd f.resultTypes.toList (v.resultList f.resultTypes.size) (s.fn H (ds++gs)).results [])
  (hargs : ∀ sp : Nat→Bool,(∀ p∈before,sp p.block=true)→DataW.TrodAll enc P W' 0 sp true f.params.toList args.toList (s.fn H (ds++gs)).args pa)
  (hvars : ∀ sp : Nat→Bool,(∀ p∈before,sp p.block=true)→DataW.TrodVars enc P W' sp s.vars (s.fn H (ds++gs)).vars pv)
  (hps : before=pa++pv) (hk : W.keptBut W' (·∈before)) (hfz : ∀ a : Addr,a.block<W.heap.size→W'.frozen? a=W.frozen? a)
  (hok : ∀ (j : Nat) (t : TypeId) (r : Value),f.resultTypes[j]?=some t→(v.resultList f.resultTypes.size)[j]?=some r→Value.okWide P W' .any 0 t r) :
  s.post enc P f apart fresh handsOn again W args v W':=by
 have old : ∀ p∈before,p.block<W.heap.size:=fun p hp=>hW.lt p hp
 have hold : ∀ p∈before,(fun b=>decide (b<W.heap.size)) p.block=true:=fun p hp=>by simpa using old p hp
 subst hps
 refine⟨ds,gs,_,[],pa,pv,hW,hres _ _ _,hargs _ hold,hvars _ hold,World.keptBut_mono (fun p hp=>⟨hp,.inr (List.mem_append.1 hp)⟩) hk,fun _=>?_⟩
 obtain⟨_,_,_,_,_,hz,hn⟩:=hW
 refine⟨hok,_,_,([]++pa)++pv,⟨[]++pa,pv,trodAll_append (hargs _ (fun _ _=>rfl)) (hres _ _ _),hvars _ (fun _ _=>rfl),rfl,?_,?_⟩,?_⟩
 ·intro b off hp
  have hp' : MemPlace.cell b off∈pa++pv:=by simpa using hp
  rw[hfz _ (old _ hp')]
  exact hz b off hp'
 ·intro ha
  simpa using hn ha
 ·intro p hp _
  simpa using hp
end Go.Xe
