/- The statement FlowWould: the function. Conditions: none. -/
import Derived.Test.YtbbdafmehaohkaaTLJ
import Derived.Test.YtbbdafmehaohkaaTKH
import Derived.Test.YtbbdafmehaohkaaZm
import Derived.WideShapes
import Derived.ChangeSame
import Derived.Below
-- MOD TF
namespace Go.Xe.TFX
open Go Go.Xe Go.Proofs
open Nat renaming reduceLeDiff → qA, reduceSub → qB, reduceAdd → qC, reduceEqDiff → qD, reduceLT → qE
open Int renaming reduceNegSucc → qF, reduceEq → qG
open Go.Xe.V renaming seq → sA, block → sB, scope → sC, skip → sD, close → sE
open Go.Xe renaming pth → P
open Go.Xe.Flw
set_option maxRecDepth 100000
set_option maxHeartbeats 3200000
set_option linter.unusedSimpArgs false
noncomputable def d11 : FCode:=(.seq (.run (.go (.box 25 (tm 0)) (P 4)::
.go (.move (.con (.bool false))) (P 8)::
[])) (.seq (.run (.go (.loadN 4 (tm 4)) (P 22)::
.go (.move (tm 1)) (P 23)::
.go (.move (tm 2)) (P 24)::
.go (.call (.con (.func (.func 53) ⟨[]⟩ ⟨[]⟩)) [(tm 22),(tm 23),(tm 24)]) (P 25)::
.go (.move (tm 25)) (P 21)::
.go (.extract (tm 21) 0) (P 26)::
.go (.extract (tm 21) 1) (P 27)::
.go (.extract (tm 21) 2) (P 28)::
.go (.extract (tm 21) 3) (P 29)::
.go (.alloc 25 [(.slice none 0 0),(.slice none 0 0),(.slice none 0 0),(.slice none 0 0)]) (P 9)::
.go (.alloc 29 [(.slice none 0 0),(.slice none 0 0),(.slice none 0 0),(.slice none 0 0)]) (P 10)::
.un (.store 4 (tm 9) (tm 26))::
.un (.store 4 (tm 10) (tm 27))::
.go (.move (tm 28)) (P 11)::
.go (.move (tm 29)) (P 12)::
[])) (.seq (.seq (.run (.go (.move (tm 12)) (P 30)::
.go (.un .not (tm 30)) (P 31)::
[])) (.cond (tm 31) (.seq (.run (.go (.call (.con (.func (.func 20) ⟨[]⟩ ⟨[]⟩)) []) (P 32)::
.go (.move (tm 32)) (P 8)::
[])) .ret) .skip)) (.seq (.draw 14 (.go (.move (tm 3)) (P 33)::
.go (.conv .i64 (tm 33)) (P 34)::
.go (.fieldAddr 0 (tm 9)) (P 35)::
.go (.load1 (tm 35)) (P 36)::
.go (.len 0 (tm 36)) (P 37)::
.go (.bin .rem 3 (tm 34) (tm 37)) (P 38)::
.go (.move (tm 3)) (P 39)::
.go (.conv .i64 (tm 39)) (P 40)::
.go (.bin .quo 3 (tm 40) (.con (.int .i64 (.ofNat 8)))) (P 41)::
.go (.loadN 4 (tm 9)) (P 42)::
.go (.call (.con (.func (.func 34) ⟨[]⟩ ⟨[]⟩)) [tm 42]) (P 43)::
.go (.bin .rem 3 (tm 41) (tm 43)) (P 44)::
.go (.move (tm 38)) (P 13)::
.go (.move (tm 44)) (P 14)::
[]) [.ok,.ok,.ok,.rd none (.load1 (tm 35)) (some (P 36)) [11],.rd none (.len 0 (tm 36)) (some (P 37)) [11],.ok,.ok,.ok,.ok,.ok,.ok,.ok,.ok,.ok]) (.seq (.run (.go (.loadN 4 (tm 9)) (P 46)::
.go (.call (.con (.func (.func 22) ⟨[]⟩ ⟨[]⟩)) [tm 46]) (P 47)::
.go (.call (.con (.func (.func 31) ⟨[]⟩ ⟨[]⟩)) [tm 47]) (P 48)::
.go (.move (tm 48)) (P 45)::
.go (.extract (tm 45) 0) (P 49)::
.go (.extract (tm 45) 1) (P 50)::
.go (.move (tm 49)) (P 15)::
.go (.move (tm 50)) (P 16)::
[])) (.seq (.run (.go (.loadN 4 (tm 9)) (P 52)::
.go (.call (.con (.func (.func 22) ⟨[]⟩ ⟨[]⟩)) [tm 52]) (P 53)::
.go (.move (tm 13)) (P 54)::
.go (.move (tm 14)) (P 55)::
.go (.build [(.int .i64 (.ofNat 0)),(.int .i64 (.ofNat 0))] [(0,1,(tm 54)),(1,1,(tm 55))]) (P 56)::
.go (.call (.con (.func (.func 40) ⟨[]⟩ ⟨[]⟩)) [(tm 53),(tm 56)]) (P 57)::
.go (.move (tm 57)) (P 51)::
.go (.extract (tm 51) 0) (P 58)::
.go (.extract (tm 51) 1) (P 59)::
.go (.alloc 69 [(.int .i64 (.ofNat 0)),(.int .i64 (.ofNat 0))]) (P 17)::
.un (.store 2 (tm 17) (tm 58))::
.go (.move (tm 59)) (P 18)::
[])) (.seq (.seq (.run (.go (.move (tm 18)) (P 60)::
.go (.bin .neq 33 (tm 60) (.con (.int .i64 (.ofNat 0)))) (P 61)::
[])) (.cond (tm 61) (.seq (.run (.go (.move (tm 18)) (P 62)::
.go (.bin .eql 33 (tm 62) (.con (.int .i64 (.ofNat 9)))) (P 63)::
.go (.move (tm 63)) (P 64)::
.gd (P 64) true (.move (tm 16)) (P 65)::
.gd (P 64) true (.bin .eql 33 (tm 65) (.con (.int .i64 (.ofNat 9)))) (P 66)::
.go (.pick (tm 64) (tm 66) (.con (.bool false))) (P 67)::
.go (.move (tm 67)) (P 68)::
.gd (P 68) true (.call (.con (.func (.func 20) ⟨[]⟩ ⟨[]⟩)) []) (P 69)::
.go (.pick (tm 68) (tm 69) (.con (.bool false))) (P 70)::
.go (.move (tm 70)) (P 8)::
[])) .ret) .skip)) (.seq (.draw 26 (.go (.fieldAddr 0 (tm 17)) (P 71)::
.go (.load1 (tm 71)) (P 72)::
.go (.fieldAddr 0 (tm 9)) (P 73)::
.go (.load1 (tm 73)) (P 74)::
.go (.move (tm 13)) (P 75)::
.go (.indexAddr none 1 (tm 74) (tm 75)) (P 76)::
.go (.load1 (tm 76)) (P 77)::
.go (.move (tm 14)) (P 78)::
.go (.indexAddr none 2 (tm 77) (tm 78)) (P 79)::
.go (.fieldAddr 0 (tm 79)) (P 80)::
.go (.load1 (tm 80)) (P 81)::
.go (.mm true [(tm 72),(tm 81)]) (P 82)::
.go (.fieldAddr 1 (tm 17)) (P 83)::
.go (.load1 (tm 83)) (P 84)::
.go (.fieldAddr 0 (tm 9)) (P 85)::
.go (.load1 (tm 85)) (P 86)::
.go (.move (tm 13)) (P 87)::
.go (.indexAddr none 1 (tm 86) (tm 87)) (P 88)::
.go (.load1 (tm 88)) (P 89)::
.go (.move (tm 14)) (P 90)::
.go (.indexAddr none 2 (tm 89) (tm 90)) (P 91)::
.go (.fieldAddr 1 (tm 91)) (P 92)::
.go (.load1 (tm 92)) (P 93)::
.go (.mm false [(tm 84),(tm 93)]) (P 94)::
.go (.move (tm 82)) (P 19)::
.go (.move (tm 94)) (P 20)::
[]) [.ok,.ok,.ok,.ok,.ok,.ok,.ok,.ok,.ok,.ok,.ok,.ok,.ok,.ok,.ok,.ok,.ok,.ok,.ok,.ok,.ok,.ok,.ok,.ok,.ok,.ok]) (.seq (.seq (.run (.go (.move (tm 19)) (P 95)::
.go (.move (tm 20)) (P 96)::
.go (.bin .gtr 3 (tm 95) (tm 96)) (P 97)::
[])) (.cond (tm 97) (.seq (.run (.go (.move (tm 16)) (P 98)::
.go (.bin .eql 33 (tm 98) (.con (.int .i64 (.ofNat 9)))) (P 99)::
.go (.move (tm 99)) (P 100)::
.gd (P 100) true (.call (.con (.func (.func 20) ⟨[]⟩ ⟨[]⟩)) []) (P 101)::
.go (.pick (tm 100) (tm 101) (.con (.bool false))) (P 102)::
.go (.move (tm 102)) (P 8)::
[])) .ret) .skip)) (.seq (.draw 37 (.go (.move (tm 16)) (P 103)::
.go (.bin .eql 33 (tm 103) (.con (.int .i64 (.ofNat 0)))) (P 104)::
.go (.move (tm 104)) (P 105)::
.gd (P 105) true (.move (tm 15)) (P 106)::
.gd (P 105) true (.len 0 (tm 106)) (P 107)::
.gd (P 105) true (.fieldAddr 0 (tm 9)) (P 108)::
.gd (P 105) true (.load1 (tm 108)) (P 109)::
.gd (P 105) true (.len 0 (tm 109)) (P 110)::
.gd (P 105) true (.bin .eql 3 (tm 107) (tm 110)) (P 111)::
.go (.pick (tm 105) (tm 111) (.con (.bool false))) (P 112)::
.go (.move (tm 112)) (P 113)::
.gd (P 113) true (.move (tm 15)) (P 114)::
.gd (P 113) true (.move (tm 13)) (P 115)::
.gd (P 113) true (.indexAddr none 1 (tm 114) (tm 115)) (P 116)::
.gd (P 113) true (.load1 (tm 116)) (P 117)::
.gd (P 113) true (.len 0 (tm 117)) (P 118)::
.gd (P 113) true (.loadN 4 (tm 9)) (P 119)::
.gd (P 113) true (.call (.con (.func (.func 34) ⟨[]⟩ ⟨[]⟩)) [tm 119]) (P 120)::
.gd (P 113) true (.bin .eql 3 (tm 118) (tm 120)) (P 121)::
.go (.pick (tm 113) (tm 121) (.con (.bool false))) (P 122)::
.go (.move (tm 122)) (P 123)::
.gd (P 123) true (.move (tm 15)) (P 124)::
.gd (P 123) true (.move (tm 13)) (P 125)::
.gd (P 123) true (.indexAddr none 1 (tm 124) (tm 125)) (P 126)::
.gd (P 123) true (.load1 (tm 126)) (P 127)::
.gd (P 123) true (.move (tm 14)) (P 128)::
.gd (P 123) true (.indexAddr none 2 (tm 127) (tm 128)) (P 129)::
.gd (P 123) true (.loadN 2 (tm 129)) (P 130)::
.gd (P 123) true (.move (tm 19)) (P 131)::
.gd (P 123) true (.move (tm 20)) (P 132)::
.gd (P 123) true (.call (.con (.func (.func 52) ⟨[]⟩ ⟨[]⟩)) [(tm 131),(tm 132)]) (P 133)::
.gd (P 123) true (.bin .eql 69 (tm 130) (tm 133)) (P 134)::
.go (.pick (tm 123) (tm 134) (.con (.bool false))) (P 135)::
.go (.move (tm 135)) (P 136)::
.gd (P 136) true (.call (.con (.func (.func 20) ⟨[]⟩ ⟨[]⟩)) []) (P 137)::
.go (.pick (tm 136) (tm 137) (.con (.bool false))) (P 138)::
.go (.move (tm 138)) (P 8)::
[]) [.ok,.ok,.ok,.ok,.ok,.ok,.ok,.ok,.ok,.ok,.ok,.ok,.ok,.ok,.rd (some ((P 113),true)) (.load1 (tm 116)) (some (P 117)) [18],.rd (some ((P 113),true)) (.len 0 (tm 117)) (some (P 118)) [18],.ok,.ok,.ok,.ok,.ok,.ok,.ok,.ok,.rd (some ((P 123),true)) (.load1 (tm 126)) (some (P 127)) [31],.ok,.ok,.rd (some ((P 123),true)) (.loadN 2 (tm 129)) (some (P 130)) [31],.ok,.ok,.ok,.ok,.ok,.ok,.ok,.ok,.ok]) .ret))))))))))
theorem de11 : @compF Try.prog (Gl.none Try.prog) Try.f11 4=.mk d11 (mkTT 139) [(P 0),(P 1),(P 2),(P 3)] [.tmp (P 8)]:=by kernel_rfl
theorem dg11 : Try.prog.funcs[11]?=some Try.f11:=Try.func11
theorem do11 : okF Try.prog Try.f11=true:=by kernel_rfl
theorem f11_ok {H : Heap} {c b r n x : Value} {T : Tb} {ws : List Int} {bits q : Int} (hR : Ro H) (h : TV H c b r n T) (hw : WS H x ws) (hq : 0≤q∧q≤255) : F Try.prog 11 ⟨[.agg ⟨[c,b,r,n]⟩,x,.int .u16 bits,.int .u8 q]⟩ H (fun w _=>w=.bool true):=by
 refine F.entryL rfl dg11 do11 de11 rfl (by kernel_rfl) ?_
 simp only[sets]
 refine V.re [(0,.agg ⟨[c,b,r,n]⟩),(1,x),(2,.int .u16 bits),(3,.int .u8 q)] (N:=139) zE zY ?_
 intro t hF hA
 simp only[Kn,and_true] at hA
 refine zS ?_
 refine V.l0 ?_
 refine V.heap (fun X=>Grow H X∧Bx X H.next [c,b,r,n] 25) ⟨?_,?_⟩ ?_
 ·exact zW
 ·exact zB
 rintro H1 ⟨g1,b1⟩
 refine zS ?_
 refine V.run ?_
 have zf:=b1.2
 refine VI.sz 3 ?_
 simp only[ds]
 refine VI.callR zA (f53_ok (bits:=bits) hR h.c h.b g1 (h.grow g1) (hw.grow g1)) zA (fun w2 X2 ⟨gx2,yc,yb,yr,yn,xf,xb,xd,xm,s,hw2,⟨i1,i2,i3,i4⟩,⟨j1,j2,j3,j4⟩,_,hl⟩=>?_)
 subst hw2
 have k1:=(sl1 i1).1
 have k2:=(sl1 i2).1
 have k3:=(sl1 i3).1
 have k4:=(sl1 i4).1
 have o1:=(sl1 j1).1
 have o2:=(sl1 j2).1
 have o3:=(sl1 j3).1
 have o4:=(sl1 j4).1
 have zf:=And.intro @k1<|And.intro @k2<|And.intro @k3<|And.intro @k4<|And.intro @o1<|And.intro @o2<|And.intro @o3<|@o4
 refine VI.lz ?_
 refine V.heap (fun X=>Grow X2 X∧Bx X X2.next [yc,yb,yr,yn] 25) ⟨?_,?_⟩ ?_
 ·exact zW
 ·exact zB
 rintro X3 ⟨gx3,y3⟩
 refine zS ?_
 refine V.l0 ?_
 refine zS ?_
 refine V.condP zP (fun ht=>?_) (fun ht=>?_)
 ·refine zS ?_
  refine V.run ?_
  refine VI.callA rfl (f20_ok _) zA (fun H6 g6=>?_)
  refine VI.l0 ?_
  refine zS ?_
  refine V.ret (V.rets rfl (Lv.retF (by simp +contextual (disch:=first|omega|simp only[nx];omega) only[D1,cells_alloc_at,cells_alloc_ne,cells_set_at,cells_set_ne,yres,yres1,yresL,qA,qB,qC,D5,hF,hA,↓reduceIte,qD,qE];rfl) ?_))
  rfl
 have h1 : lv T ws bits:=by
  by_cases hh : lv T ws bits
  ·exact hh
  ·exact absurd (by simp[hh]) ht
 clear ht
 obtain⟨tv,_,_⟩:=hl h1
 have tv:=tv.grow gx3
 have e1:=h1.2.2
 obtain⟨hf',hv'⟩:=flt_0.1 e1
 have s1 : sh (lT T ws bits):=shs hf' hv'
 generalize lT T ws bits=Y at *
 have hf1:=hf'.1
 have hf2:=hf'.2
 have hv1:=hv'.1
 have hvB:=hv'.2.1
 clear hl
 have hycl:=tv.c.len X3
 obtain⟨k,hk⟩ : ∃ k : Nat,q%(Y.C.length : Int)=(k : Int):=⟨(q%(Y.C.length : Int)).toNat,by have:=Int.emod_nonneg q (show (Y.C.length : Int)≠0 by omega);omega⟩
 obtain⟨g,hg⟩ : ∃ g : Nat,q/8%(grp Y : Int)=(g : Int):=⟨(q/8%(grp Y : Int)).toNat,by have:=Int.emod_nonneg (q/8) (show (grp Y : Int)≠0 by omega);omega⟩
 have hkl : k<Y.C.length:=by have:=Int.emod_lt_of_pos q (show (0 : Int)<Y.C.length by omega);omega
 have hgl : g<grp Y:=by have:=Int.emod_lt_of_pos (q/8) (show (0 : Int)<grp Y by omega);omega
 have q1 : IntKind.i64.wrap q=q:=wrap_i64 (by omega) (by omega)
 have q2 : q.tmod (Y.C.length : Int)=(k : Int):=by rw[Int.tmod_eq_emod_of_nonneg hq.1];exact hk
 have q3 : q.tdiv 8=q/8:=Int.tdiv_eq_ediv_of_nonneg hq.1
 have q4 : IntKind.i64.wrap (q/8)=q/8:=wrap_i64 (by omega) (by omega)
 have q5 : (q/8).tmod (grp Y : Int)=(g : Int):=by rw[Int.tmod_eq_emod_of_nonneg (by omega)];exact hg
 have q6 : ¬ (Y.C.length : Int)=0:=by omega
 have q7 : ¬ (grp Y : Int)=0:=by omega
 have vyc:=(sl1 i1).2.2.1
 refine zS ?_
 refine V.draw ?_
 have zf:=And.intro y3.2<|And.intro @hycl<|And.intro @q1<|And.intro @q2<|And.intro @q3<|And.intro @q4<|@q6
 refine VD.nz 9 ?_
 simp only[ds]
 have zf:=And.intro y3.2<|And.intro @hycl<|And.intro @q1<|And.intro @q2<|And.intro @q3<|And.intro @q4<|@q6
 refine VD.nz 1 ?_
 simp only[ds]
 refine VD.callA zA (f34_ok tv) zA (fun Z gz=>?_)
 have yz:=y3.grow gz
 have m1:=gz.1
 have hyclz:=tv.c.len Z
 have zf:=And.intro @q5<|@q7
 refine VD.dz ?_ ?_ rfl ?_
 ·exact zM
 ·simp only[dcAll,dcOk,wantD,List.cons_append,List.nil_append,true_and,and_true]
  have zf:=And.intro y3.2<|And.intro yz.2<|And.intro @hycl<|@hyclz
  exact⟨zR,zR⟩
 have tvz:=tv.grow gz
 clear hycl hyclz y3 tv zf
 refine zS ?_
 refine V.re [(9,PT X2.next),(13,I k),(14,I g)] (N:=139) zF zK ?_
 clear hF hA
 intro t hF hA
 simp only[Kn,and_true] at hA
 refine V.run ?_
 have zf:=yz.2
 refine VI.sz 1 ?_
 simp only[ds]
 refine VI.callR zA (f22_ok tvz s1) zA (fun w6 X6 ⟨g6,ca,ba,ra,na,hw6,tv6⟩=>?_)
 subst hw6
 refine VI.callR zA (f31_v tv6 s1 e1) zA (fun w7 X7 ⟨g7,sb,hw7,hb7⟩=>?_)
 obtain⟨tg,htg⟩ : ∃ tg : Int,(if ok Y u0 then (0 : Int) else 9)=tg:=⟨_,rfl⟩
 rw[htg] at hw7
 subst hw7
 have g67:=g6.trans g7
 have y7:=yz.grow g67
 have tv7:=tvz.grow g67
 refine VI.l0 ?_
 refine zS ?_
 refine V.run ?_
 have zf:=y7.2
 refine VI.sz 1 ?_
 simp only[ds]
 refine VI.callR zA (f22_ok tv7 s1) zA (fun w8 X8 ⟨g8,cb,bb,rb,nb,hw8,tv8⟩=>?_)
 subst hw8
 refine VI.s0 3 ?_
 simp only[ds]
 refine VI.callR zA (f40_ok (z:=((k : Int),(g : Int))) tv8 s1 (okI_s (by omega) (by omega) (by omega) (by omega))) zA (fun w9 X9 ⟨g9,hw9⟩=>?_)
 have g89:=g8.trans g9
 have y9:=y7.grow g89
 have tv9:=tv7.grow g89
 have hw9 : (¬ ok Y (u1 k g)∧w9=.tuple ⟨[.agg ⟨A2 0 0⟩,I 9]⟩)∨(ok Y (u1 k g)∧w9=.tuple ⟨[.agg ⟨r2 (va0 (bnd Y (u1 k g)) ((k : Int),(g : Int)))⟩,I 0]⟩):=by
  rcases hw9 with⟨h0,_⟩|⟨_,h0,_⟩|⟨_,k',g',_,_,hz,hh⟩
  ·exact absurd e1 h0
  ·exact absurd (cz_mem.2 ⟨k,g,hkl,hgl,rfl⟩) h0
  ·have e1:=congrArg Prod.fst hz
   have e2:=congrArg Prod.snd hz
   simp only at e1 e2
   obtain rfl : k=k':=by omega
   obtain rfl : g=g':=by omega
   exact hh
 rcases hw9 with⟨hno,rfl⟩|⟨hok1,rfl⟩
 ·have hno0 : ¬ ok Y u0:=fun hh=>hno (w_ok hf' hv' hkl hgl hh)
  rw[if_neg hno0] at htg
  subst htg
  refine VI.l0 ?_
  refine V.heap (fun X=>Grow X9 X∧Bx X X9.next (A2 0 0) 69) ⟨?_,?_⟩ ?_
  ·exact zW
  ·exact zB
  rintro X10 ⟨g10,b10⟩
  refine zS ?_
  refine V.l0 ?_
  refine zS ?_
  refine V.condT zA ?_
  refine zS ?_
  refine V.run ?_
  refine VI.s0 7 ?_
  simp only[ds]
  refine VI.callAT zG rfl (f20_ok _) zA (fun Hf gf=>?_)
  refine VI.l0 ?_
  refine zS ?_
  refine V.ret (V.rets rfl (Lv.retF (by simp +contextual (disch:=first|omega|simp only[nx];omega) only[D1,cells_alloc_at,cells_alloc_ne,cells_set_at,cells_set_ne,yres,yres1,yresL,qA,qB,qC,D5,hF,hA,↓reduceIte,qD,qE];rfl) ?_))
  rfl
 ·obtain⟨⟨w1,w2⟩,o,hwe,hoe,v1,v2,v3,v4,v5,v6,v7,v8⟩:=would hf' hv' hkl hgl hok1
  have ly9:=y9.1
  have er : r2 (w1,w2)=A2 w1 w2:=rfl
  rw[hwe,er]
  simp only at v1 v2 v3
  refine VI.l0 ?_
  refine V.heap (fun X=>Grow X9 X∧Bx X X2.next [yc,yb,yr,yn] 25∧Bx X X9.next (A2 w1 w2) 69) ⟨?_,?_,?_⟩ ?_
  ·exact zW
  ·exact zB
  ·exact zB
  rintro A ⟨ga,ya,wa⟩
  have tva:=tv9.grow ga
  have g7A:=g89.trans ga
  have hrowl:=(hv'.2.2.2.2.1 _ (List.getElem_mem hkl)).1
  have hgc : g<(Y.C[k]).length:=by omega
  obtain⟨p2,yrow,hp2,hyrow⟩:=tva.c.at rp hkl
  obtain⟨hy1,hy2⟩:=hyrow A (.refl _)
  have hp2':=hp2 .i64
  obtain⟨i3',o3',e3,e4⟩:=hy2.at hgc
  obtain⟨_,e5,e6⟩:=e4 A (.refl _)
  rw[gd hkl,gd hgc] at hoe
  rw[hoe] at e5 e6
  obtain⟨a,b'⟩:=o
  simp only at v4 v5 v6
  have lya:=ya.1
  refine zS ?_
  refine V.l0 ?_
  refine zS ?_
  refine V.condF zA ?_
  refine zS ?_
  have x1 : (if a > w1 then a else w1)=max w1 a:=by split<;>omega
  have x2 : (if b'<w2 then b' else w2)=min w2 b':=by split<;>omega
  have zf:=And.intro ya.2<|And.intro wa.2<|And.intro @hp2'<|And.intro @hy1<|And.intro @e3<|And.intro @e5<|And.intro @e6<|And.intro @x1<|@x2
  refine V.dz ?_ ?_ rfl ?_
  ·exact zM
  ·simp only[dcAll,dcOk,wantD,List.cons_append,List.nil_append,true_and,and_true]
  have hcom : (com (w1,w2) (a,b')).1=max w1 a∧(com (w1,w2) (a,b')).2=min w2 b':=⟨rfl,rfl⟩
  rw[hcom.1,hcom.2] at v7
  refine zS ?_
  refine V.l0 ?_
  refine zS ?_
  refine V.condP zP (fun hgt=>?_) (fun hgt=>?_)
  ·have hno0 : ¬ ok Y u0:=fun hh=>by have:=v7.1 hh;omega
   rw[if_neg hno0] at htg
   subst htg
   refine zS ?_
   refine V.run ?_
   refine VI.s0 3 ?_
   simp only[ds]
   refine VI.callAT zG rfl (f20_ok _) zA (fun Hf gf=>?_)
   refine VI.l0 ?_
   refine zS ?_
   refine V.ret (V.rets rfl (Lv.retF (by simp +contextual (disch:=first|omega|simp only[nx];omega) only[D1,cells_alloc_at,cells_alloc_ne,cells_set_at,cells_set_ne,yres,yres1,yresL,qA,qB,qC,D5,hF,hA,↓reduceIte,qD,qE];rfl) ?_))
   rfl
  ·have hok : ok Y u0:=v7.2 (by omega)
   rw[if_pos hok] at htg
   subst htg
   have v8:=v8 hok
   have hB : Nest RS X7 sb (bdl (bnd Y u0) Y.C.length (grp Y)):=by
    rcases hb7 with⟨q,_⟩|⟨_,q⟩
    ·exact absurd hok q
    ·exact q
   have hBA:=hB.grow rp g7A
   have hBl:=hBA.len A
   rw[bdl_len] at hBl
   have hycl:=tva.c.len A
   have hk' : k<(bdl (bnd Y u0) Y.C.length (grp Y)).length:=by rw[bdl_len];exact hkl
   obtain⟨p,row,hp,hrow⟩:=hBA.at rp hk'
   obtain⟨hr1,hr2⟩:=hrow A (.refl _)
   have hp':=hp .i64
   have hrl:=hr2.len A
   rw[bdl_row] at hrl
   obtain⟨i4',o4',e7,e8⟩:=hr2.at (k:=g) (by rw[bdl_row];exact hgl)
   have hb4:=bd_4 (show k<4 by omega)
   have hcc : com (w1,w2) (a,b')=(max w1 a,min w2 b'):=rfl
   rw[hcc] at v8
   have heq:=eql69s (a:=max w1 a) (b:=min w2 b') (by omega) (by omega) (by omega) (by omega)
   refine zS ?_
   refine V.re [(9,PT X2.next),(13,I k),(14,I g),(15,sb),(16,I 0),(19,I (max w1 a)),(20,I (min w2 b'))] (N:=139) zF zK ?_
   clear hF hA
   intro t hF hA
   simp only[Kn,and_true] at hA
   refine V.draw ?_
   have zf:=And.intro ya.2<|And.intro @hBl<|And.intro @hycl<|And.intro @hp'<|And.intro @hr1<|@hrl
   refine VD.nz 9 ?_
   simp only[ds]
   have zf:=And.intro ya.2<|And.intro @hBl<|And.intro @hycl<|And.intro @hp'<|And.intro @hr1<|@hrl
   refine VD.nz 8 ?_
   simp only[ds]
   refine VD.callAT zG zA (f34_ok tva) zA (fun Z gz=>?_)
   have hr1z:=(hrow Z gz).1
   have e9:=(e8 Z gz).1
   rw[bdl_at,v8] at e9
   have zf:=And.intro @hp'<|And.intro @hr1z<|And.intro @e7<|@e9
   refine VD.nz 9 ?_
   simp only[ds]
   have zf:=And.intro @hp'<|And.intro @hr1z<|And.intro @e7<|@e9
   refine VD.nz 3 ?_
   simp only[ds]
   refine VD.callAT zG zA (f52_ok _ _ _) zA (fun Z2 gz2=>?_)
   have zf:=@heq
   refine VD.nz 3 ?_
   simp only[ds]
   refine VD.callAT zG zA (f20_ok _) zA (fun Z3 gz3=>?_)
   have l1:=gz.1
   have l2:=gz2.1
   have l3:=gz3.1
   have hrlz:=hr2.len Z
   rw[bdl_row] at hrlz
   have hr1y:=(hrow Z2 (gz.trans gz2)).1
   have e9y:=(e8 Z2 (gz.trans gz2)).1
   rw[bdl_at,v8] at e9y
   refine VD.d0 ?_ ?_ rfl ?_
   ·exact zM
   ·simp only[dcAll,dcOk,wantD,List.cons_append,List.nil_append,true_and,and_true]
    have vr:=(sl1 (rp.sl hr2)).2.2.1
    refine⟨?_,?_,?_,?_⟩
    ·intro _ q hq
     rw[List.mem_singleton] at hq
     subst hq
     exact⟨_,_,_,rfl,(by simp +contextual (disch:=first|omega|simp only[Go.Xe.nx];omega) only[Go.Xe.D4,qF,qG,qA,qB,qC,Go.Xe.D5,hF,hA,↓reduceIte,qD,qE,hr1z];with_reducible rfl),fun p hp=>by cases hp;simp only[Go.Xe.D5,hF,hA,↓reduceIte,qD,qE];exact vr⟩
    ·have zf:=@hrlz
     exact zR
    ·intro _ q hq
     rw[List.mem_singleton] at hq
     subst hq
     exact⟨_,_,_,rfl,(by simp +contextual (disch:=first|omega|simp only[Go.Xe.nx];omega) only[Go.Xe.D4,qF,qG,qA,qB,qC,Go.Xe.D5,hF,hA,↓reduceIte,qD,qE,hr1y];with_reducible rfl),fun p hp=>by cases hp;simp only[Go.Xe.D5,hF,hA,↓reduceIte,qD,qE];exact vr⟩
    ·have zf:=@e9y
     exact zR
   refine zS ?_
   refine V.ret (V.rets rfl (Lv.retF (by simp +contextual (disch:=first|omega|simp only[nx];omega) only[D1,cells_alloc_at,cells_alloc_ne,cells_set_at,cells_set_ne,yres,yres1,yresL,qA,qB,qC,D5,hF,hA,↓reduceIte,qD,qE];rfl) ?_))
   rfl
theorem f11_all {H : Heap} {c b r n x : Value} {T : Tb} {ws : List Int} {bits q : Int} (hR : Ro H) (h : TV H c b r n T) (hw : Sl H x (ws.map fun v=>.int .u16 v)) (hb : ∀ v∈ws,0≤v∧v≤65535) (_ : 0≤bits∧bits≤65535) (hq : 0≤q∧q≤255) : F Try.prog 11 ⟨[.agg ⟨[c,b,r,n]⟩,x,.int .u16 bits,.int .u8 q]⟩ H (fun w _=>w=.bool true):=f11_ok hR h ⟨hw,fun v hv=>by have:=hb v hv;omega⟩ hq
end Go.Xe.TFX
/- Tables and truths that come in: what lies where. Conditions: none. -/
namespace Go.Xe.TFX
open Go Go.Xe Go.Proofs
open Go.Xe.Flw
abbrev shR : Sh:=.pair (.int .i64) (.pair (.int .i64) .unit)
abbrev shRs : Sh:=.slice 2 shR
abbrev shT : Sh:=.pair (.slice 1 shRs) (.pair shRs (.pair shRs (.pair shRs .unit)))
theorem rs_of {A : Heap} {cs : List Value} {y : Ty shRs} (h : Sem A shRs cs y) : ∃ v L,cs=[v]∧RS A v L:=by
 obtain⟨v,rows,rfl,h1,h2,_,h3⟩:=h
 refine⟨v,y.map fun x=>(x.1,x.2.1),rfl,?_⟩
 have e : rows=(y.map fun x=>(x.1,x.2.1)).map r2:=by
  apply List.ext_getElem
  ·simp[h2]
  ·intro k k1 k2
   have hk : k<y.length:=by omega
   obtain⟨c1,c2,e1,⟨rfl,_⟩,d1,d2,e2,⟨rfl,_⟩,e3⟩:=h3 k rows[k] y[k] (by simp) (by simp[hk])
   rw[e1,e2,e3]
   simp[r2]
 have:=h1.sw
 rw[e] at this
 exact this
theorem nest_of {α : Type} {s : Sh} {R : Heap→Value→α→Prop} {A : Heap} (hR : ∀ cs y,Sem A s cs y→∃ v L,cs=[v]∧R A v L) {cs : List Value} {y : Ty (.slice 1 s)} (h : Sem A (.slice 1 s) cs y) : ∃ v L,cs=[v]∧Nest R A v L:=by
 obtain⟨v,rows,rfl,h1,h2,_,h3⟩:=h
 obtain⟨Z,hz1,hz2⟩:=list_of (α:=Value×α) (p:=fun i x=>rows[i]?=some [x.1]∧R A x.1 x.2) rows.length (fun i hi=>by
  have hk : i<(y : List (Ty s)).length:=by omega
  obtain⟨v,L,e,hr⟩:=hR _ _ (h3 i rows[i] ((y : List (Ty s))[i]) (by simp) (by simp[hk]))
  exact⟨(v,L),by simp[hi,e],hr⟩)
 refine⟨v,Z.map (·.2),rfl,Z.map (·.1),?_,by simp,?_⟩
 ·have e : rows=(Z.map (·.1)).map fun x=>[x]:=by
   apply List.ext_getElem
   ·simp[hz1]
   ·intro k k1 k2
    have:=(hz2 k Z[k] (by simp[hz1,k1])).1
    rw[List.getElem?_eq_getElem k1,Option.some.injEq] at this
    rw[this]
    simp
  rw[e] at h1
  exact h1.one
 ·intro k x r hx hr
  rw[List.getElem?_map] at hx hr
  cases hq : Z[k]? with
  | none=>rw[hq] at hx;cases hx
  | some q=>
   rw[hq] at hx hr
   cases hx;cases hr
   exact (hz2 k q hq).2
theorem tv_of {A : Heap} {l : List Value} {y : Ty shT} (h : Sem A shT l y) : ∃ c b r n T,l=[c,b,r,n]∧TV A c b r n T:=by
 obtain⟨c1,c2,rfl,h1,d1,d2,rfl,h2,e1,e2,rfl,h3,f1,f2,rfl,h4,h5⟩:=h
 obtain⟨c,C,rfl,hc⟩:=nest_of (R:=RS) (fun cs y h=>rs_of h) h1
 obtain⟨b,B,rfl,hb⟩:=rs_of h2
 obtain⟨r,Rt,rfl,hr⟩:=rs_of h3
 obtain⟨n,N,rfl,hn⟩:=rs_of h4
 have h5' : f2=[]:=h5
 subst h5'
 exact⟨c,b,r,n,⟨C,B,Rt,N⟩,rfl,hc,hb,hr,hn⟩
end Go.Xe.TFX
/- Rules of reasoning over the executable reading of the model's code (part Z16): arguments, by what their types allow. Conditions: none; for every program. -/
namespace Go.Xe
open Go Go.RowKit Go.ChangeShapes Go.WideShapes
theorem okWide_agg {P : Program} {w : World} {r : Reach} {base : Nat} {t : TypeId} {v : Value} {fs : Array Field} (ht : P.underlying t=some (.struct fs)) (h : Value.okWide P w r base t v) : ∃ cs,v=.agg cs:=by
 unfold Value.okWide at h
 rw[ht] at h
 obtain⟨cs,h,_⟩:=h
 exact⟨cs,h⟩
end Go.Xe
/- The end of a call that has changed nothing of what was there: what a statement asks of the memory behind it. Conditions: as post_of_same's, but that new memory may be frozen. -/
namespace Go.Xe
open Go Go.RowKit Go.ChangeShapes Go.WideShapes
variable {H : Type} {enc : TypeId×Value→H} {P : Program}
theorem post_of_old {f : Func} {s : ChangeSpec} {apart fresh handsOn again : Bool} {W W' : World} {args : Array Value} {v : Value} {ds gs : List (DataW H)} {before pa pv : List MemPlace}
  (hW : DataW.Whole enc P f.params.toList s.vars apart W args.toList ds gs before)
  (hres : ∀ (b : Nat) (sp : Nat→Bool) (hd : Bool),DataW.TrodAll enc P W' b sp hd f.resultTypes.toList (v.resultList f.resultTypes.size) (s.fn H (ds++gs)).results [])
  (hargs : ∀ sp : Nat→Bool,(∀ p∈before,sp p.block=true)→DataW.TrodAll enc P W' 0 sp true f.params.toList args.toList (s.fn H (ds++gs)).args pa)
  (hvars : ∀ sp : Nat→Bool,(∀ p∈before,sp p.block=true)→DataW.TrodVars enc P W' sp s.vars (s.fn H (ds++gs)).vars pv)
  (hps : before=pa++pv) (hk : W.keptBut W' (·∈before)) (hfz : ∀ a : Addr,a.block<W.heap.size→W'.frozen? a=W.frozen? a)
  (hok : ∀ (j : Nat) (t : TypeId) (r : Value),f.resultTypes[j]?=some t→(v.resultList f.resultTypes.size)[j]?=some r→Value.okWide P W' .any 0 t r) :
  s.post enc P f apart fresh handsOn again W args v W':=by
 have old : ∀ p∈before,p.block<W.heap.size:=fun p hp=>hW.lt p hp
 have hold : ∀ p∈before,(fun b=>decide (b<W.heap.size)) p.block=true:=fun p hp=>by simpa using old p hp
 subst hps
 refine⟨ds,gs,_,[],pa,pv,hW,hres _ _ _,hargs _ hold,hvars _ hold,World.keptBut_mono (fun p hp=>⟨hp,.inr (List.mem_append.1 hp)⟩) hk,fun _=>?_⟩
 obtain⟨_,_,_,_,_,hz,hn⟩:=hW
 refine⟨hok,_,_,([]++pa)++pv,⟨[]++pa,pv,trodAll_append (hargs _ (fun _ _=>rfl)) (hres _ _ _),hvars _ (fun _ _=>rfl),rfl,?_,?_⟩,?_⟩
 ·intro b off hp
  have hp' : MemPlace.cell b off∈pa++pv:=by simpa using hp
  rw[hfz _ (old _ hp')]
  exact hz b off hp'
 ·intro ha
  simpa using hn ha
 ·intro p hp _
  simpa using hp
end Go.Xe
