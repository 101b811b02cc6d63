/- The statement FlowEnds: the function. Conditions: none. -/
import Derived.Test.YtbbdafmehaohkaaTLE
import Derived.Test.YtbbdafmehaohkaaTKH
import Derived.Test.YtbbdafmehaohkaaZm
import Derived.WideShapes
import Derived.ChangeSame
import Derived.Below
-- MOD TF
namespace Go.Xe.TFX
open Go Go.Xe Go.Proofs
open Nat renaming reduceLeDiff → qA, reduceSub → qB, reduceAdd → qC, reduceEqDiff → qD, reduceLT → qE
open Int renaming reduceNegSucc → qF, reduceEq → qG
open Go.Xe.V renaming seq → sA, block → sB, scope → sC, skip → sD, close → sE
open Go.Xe renaming pth → P
open Go.Xe.Flw
set_option maxRecDepth 100000
set_option maxHeartbeats 3200000
set_option linter.unusedSimpArgs false
noncomputable def d10 : FCode:=(.seq (.run (.go (.box 25 (tm 0)) (P 3)::
.go (.move (.con (.bool false))) (P 6)::
[])) (.seq (.run (.go (.loadN 4 (tm 3)) (P 21)::
.go (.move (tm 1)) (P 22)::
.go (.call (.con (.func (.func 53) ⟨[]⟩ ⟨[]⟩)) [(tm 21),(tm 22),(.con (.int .u16 (.ofNat 0)))]) (P 23)::
.go (.move (tm 23)) (P 20)::
.go (.extract (tm 20) 0) (P 24)::
.go (.extract (tm 20) 1) (P 25)::
.go (.extract (tm 20) 2) (P 26)::
.go (.extract (tm 20) 3) (P 27)::
.go (.alloc 25 [(.slice none 0 0),(.slice none 0 0),(.slice none 0 0),(.slice none 0 0)]) (P 7)::
.go (.alloc 29 [(.slice none 0 0),(.slice none 0 0),(.slice none 0 0),(.slice none 0 0)]) (P 8)::
.un (.store 4 (tm 7) (tm 24))::
.un (.store 4 (tm 8) (tm 25))::
.go (.move (tm 26)) (P 9)::
.go (.move (tm 27)) (P 10)::
[])) (.seq (.seq (.run (.go (.move (tm 10)) (P 28)::
.go (.un .not (tm 28)) (P 29)::
[])) (.cond (tm 29) (.seq (.run (.go (.call (.con (.func (.func 20) ⟨[]⟩ ⟨[]⟩)) []) (P 30)::
.go (.move (tm 30)) (P 6)::
[])) .ret) .skip)) (.seq (.run (.go (.loadN 4 (tm 7)) (P 32)::
.go (.call (.con (.func (.func 22) ⟨[]⟩ ⟨[]⟩)) [tm 32]) (P 33)::
.go (.call (.con (.func (.func 31) ⟨[]⟩ ⟨[]⟩)) [tm 33]) (P 34)::
.go (.move (tm 34)) (P 31)::
.go (.extract (tm 31) 0) (P 35)::
.go (.extract (tm 31) 1) (P 36)::
.go (.move (tm 35)) (P 11)::
.go (.move (tm 36)) (P 12)::
[])) (.seq (.seq (.run (.go (.move (tm 12)) (P 37)::
.go (.bin .neq 33 (tm 37) (.con (.int .i64 (.ofNat 0)))) (P 38)::
.go (.move (tm 38)) (P 39)::
.gd (P 39) false (.move (tm 11)) (P 40)::
.gd (P 39) false (.len 0 (tm 40)) (P 41)::
.gd (P 39) false (.fieldAddr 0 (tm 7)) (P 42)::
.gd (P 39) false (.load1 (tm 42)) (P 43)::
.gd (P 39) false (.len 0 (tm 43)) (P 44)::
.gd (P 39) false (.bin .neq 3 (tm 41) (tm 44)) (P 45)::
.go (.pick (tm 39) (.con (.bool true)) (tm 45)) (P 46)::
[])) (.cond (tm 46) (.seq (.run (.go (.move (.con (.bool false))) (P 6)::
[])) .ret) .skip)) (.seq (.draw 14 (.go (.move (tm 2)) (P 47)::
.go (.conv .i64 (tm 47)) (P 48)::
.go (.fieldAddr 0 (tm 7)) (P 49)::
.go (.load1 (tm 49)) (P 50)::
.go (.len 0 (tm 50)) (P 51)::
.go (.bin .rem 3 (tm 48) (tm 51)) (P 52)::
.go (.move (tm 2)) (P 53)::
.go (.conv .i64 (tm 53)) (P 54)::
.go (.bin .quo 3 (tm 54) (.con (.int .i64 (.ofNat 8)))) (P 55)::
.go (.loadN 4 (tm 7)) (P 56)::
.go (.call (.con (.func (.func 34) ⟨[]⟩ ⟨[]⟩)) [tm 56]) (P 57)::
.go (.bin .rem 3 (tm 55) (tm 57)) (P 58)::
.go (.move (tm 52)) (P 13)::
.go (.move (tm 58)) (P 14)::
[]) [.ok,.ok,.ok,.rd none (.load1 (tm 49)) (some (P 50)) [11],.rd none (.len 0 (tm 50)) (some (P 51)) [11],.ok,.ok,.ok,.ok,.ok,.ok,.ok,.ok,.ok]) (.seq (.seq (.draw 8 (.go (.move (tm 11)) (P 59)::
.go (.move (tm 13)) (P 60)::
.go (.indexAddr none 1 (tm 59) (tm 60)) (P 61)::
.go (.load1 (tm 61)) (P 62)::
.go (.len 0 (tm 62)) (P 63)::
.go (.loadN 4 (tm 7)) (P 64)::
.go (.call (.con (.func (.func 34) ⟨[]⟩ ⟨[]⟩)) [tm 64]) (P 65)::
.go (.bin .neq 3 (tm 63) (tm 65)) (P 66)::
[]) [.ok,.ok,.ok,.rd none (.load1 (tm 61)) (some (P 62)) [7],.rd none (.len 0 (tm 62)) (some (P 63)) [7],.ok,.ok,.ok]) (.cond (tm 66) (.seq (.run (.go (.move (.con (.bool false))) (P 6)::
[])) .ret) .skip)) (.seq (.run (.go (.fieldAddr 0 (tm 7)) (P 67)::
.go (.load1 (tm 67)) (P 68)::
.go (.move (tm 13)) (P 69)::
.go (.indexAddr none 1 (tm 68) (tm 69)) (P 70)::
.go (.load1 (tm 70)) (P 71)::
.go (.move (tm 14)) (P 72)::
.go (.indexAddr none 2 (tm 71) (tm 72)) (P 73)::
.go (.loadN 2 (tm 73)) (P 74)::
.go (.alloc 62 [(.int .i64 (.ofNat 0)),(.int .i64 (.ofNat 0))]) (P 15)::
.un (.store 2 (tm 15) (tm 74))::
[])) (.seq (.seq (.run (.go (.move (.con (.int .i64 (.ofNat 0)))) (P 16)::
[])) (.block 0 (.loop (.seq (.seq (.run (.go (.move (tm 16)) (P 75)::
.go (.bin .lss 3 (tm 75) (.con (.int .i64 (.ofNat 4)))) (P 76)::
[])) (.cond (tm 76) .skip (.exit 0))) (.seq (.block 1 (.seq (.draw 39 (.go (.move (tm 11)) (P 79)::
.go (.move (tm 13)) (P 80)::
.go (.indexAddr none 1 (tm 79) (tm 80)) (P 81)::
.go (.load1 (tm 81)) (P 82)::
.go (.move (tm 14)) (P 83)::
.go (.indexAddr none 2 (tm 82) (tm 83)) (P 84)::
.go (.fieldAddr 0 (tm 84)) (P 85)::
.go (.load1 (tm 85)) (P 86)::
.go (.move (tm 11)) (P 87)::
.go (.move (tm 13)) (P 88)::
.go (.indexAddr none 1 (tm 87) (tm 88)) (P 89)::
.go (.load1 (tm 89)) (P 90)::
.go (.move (tm 14)) (P 91)::
.go (.indexAddr none 2 (tm 90) (tm 91)) (P 92)::
.go (.fieldAddr 1 (tm 92)) (P 93)::
.go (.load1 (tm 93)) (P 94)::
.go (.move (tm 11)) (P 95)::
.go (.move (tm 13)) (P 96)::
.go (.indexAddr none 1 (tm 95) (tm 96)) (P 97)::
.go (.load1 (tm 97)) (P 98)::
.go (.move (tm 14)) (P 99)::
.go (.indexAddr none 2 (tm 98) (tm 99)) (P 100)::
.go (.fieldAddr 0 (tm 100)) (P 101)::
.go (.load1 (tm 101)) (P 102)::
.go (.bin .sub 3 (tm 102) (.con (.int .i64 (.ofNat 1)))) (P 103)::
.go (.move (tm 11)) (P 104)::
.go (.move (tm 13)) (P 105)::
.go (.indexAddr none 1 (tm 104) (tm 105)) (P 106)::
.go (.load1 (tm 106)) (P 107)::
.go (.move (tm 14)) (P 108)::
.go (.indexAddr none 2 (tm 107) (tm 108)) (P 109)::
.go (.fieldAddr 1 (tm 109)) (P 110)::
.go (.load1 (tm 110)) (P 111)::
.go (.bin .add 3 (tm 111) (.con (.int .i64 (.ofNat 1)))) (P 112)::
.go (.buildSlice 3 4 [(.int .i64 (.ofNat 0)),(.int .i64 (.ofNat 0)),(.int .i64 (.ofNat 0)),(.int .i64 (.ofNat 0))] [(0,1,(tm 86)),(1,1,(tm 94)),(2,1,(tm 103)),(3,1,(tm 112))]) (P 113)::
.go (.move (tm 16)) (P 114)::
.go (.indexAddr none 1 (tm 113) (tm 114)) (P 115)::
.go (.load1 (tm 115)) (P 116)::
.go (.move (tm 116)) (P 17)::
[]) [.ok,.ok,.ok,.ok,.ok,.ok,.ok,.ok,.ok,.ok,.ok,.ok,.ok,.ok,.ok,.ok,.ok,.ok,.ok,.ok,.ok,.ok,.ok,.ok,.ok,.ok,.ok,.ok,.ok,.ok,.ok,.ok,.ok,.ok,.ok,.ok,.ok,.ok,.ok]) (.seq (.seq (.run (.go (.move (tm 17)) (P 117)::
.go (.fieldAddr 0 (tm 15)) (P 118)::
.go (.load1 (tm 118)) (P 119)::
.go (.fieldAddr 1 (tm 15)) (P 120)::
.go (.load1 (tm 120)) (P 121)::
.go (.call (.con (.func (.func 41) ⟨[]⟩ ⟨[]⟩)) [(tm 117),(tm 119),(tm 121)]) (P 122)::
.go (.un .not (tm 122)) (P 123)::
[])) (.cond (tm 123) (.seq (.seq (.run (.go (.move (tm 16)) (P 124)::
.go (.bin .lss 3 (tm 124) (.con (.int .i64 (.ofNat 2)))) (P 125)::
[])) (.cond (tm 125) (.seq (.run (.go (.move (.con (.bool false))) (P 6)::
[])) .ret) .skip)) (.exit 1)) .skip)) (.seq (.run (.go (.loadN 4 (tm 7)) (P 127)::
.go (.move (tm 13)) (P 128)::
.go (.move (tm 14)) (P 129)::
.go (.move (tm 17)) (P 130)::
.go (.move (tm 17)) (P 131)::
.go (.build [(.int .i64 (.ofNat 0)),(.int .i64 (.ofNat 0))] [(0,1,(tm 130)),(1,1,(tm 131))]) (P 132)::
.go (.call (.con (.func (.func 55) ⟨[]⟩ ⟨[]⟩)) [(tm 127),(tm 128),(tm 129),(tm 132)]) (P 133)::
.go (.call (.con (.func (.func 22) ⟨[]⟩ ⟨[]⟩)) [tm 133]) (P 134)::
.go (.call (.con (.func (.func 31) ⟨[]⟩ ⟨[]⟩)) [tm 134]) (P 135)::
.go (.move (tm 135)) (P 126)::
.go (.extract (tm 126) 0) (P 136)::
.go (.extract (tm 126) 1) (P 137)::
.go (.move (tm 136)) (P 18)::
.go (.move (tm 137)) (P 19)::
[])) (.seq (.run (.go (.move (tm 16)) (P 138)::
.go (.bin .lss 3 (tm 138) (.con (.int .i64 (.ofNat 2)))) (P 139)::
.go (.move (tm 139)) (P 140)::
.gd (P 140) true (.move (tm 19)) (P 141)::
.gd (P 140) true (.bin .neq 33 (tm 141) (.con (.int .i64 (.ofNat 0)))) (P 142)::
.go (.pick (tm 140) (tm 142) (.con (.bool false))) (P 143)::
.go (.move (tm 143)) (P 144)::
.gd (P 144) false (.move (tm 16)) (P 145)::
.gd (P 144) false (.bin .geq 3 (tm 145) (.con (.int .i64 (.ofNat 2)))) (P 146)::
.gd (P 144) false (.move (tm 146)) (P 147)::
.gd (P 147) true (.move (tm 19)) (P 148)::
.gd (P 147) true (.bin .neq 33 (tm 148) (.con (.int .i64 (.ofNat 9)))) (P 149)::
.gd (P 144) false (.pick (tm 147) (tm 149) (.con (.bool false))) (P 150)::
.go (.pick (tm 144) (.con (.bool true)) (tm 150)) (P 151)::
[])) (.cond (tm 151) (.seq (.run (.go (.move (.con (.bool false))) (P 6)::
[])) .ret) .skip)))))) (.run (.go (.move (tm 16)) (P 77)::
.go (.bin .add 3 (tm 77) (.con (.int .i64 (.ofNat 1)))) (P 78)::
.go (.move (tm 78)) (P 16)::
[]))))))) (.seq (.run (.go (.call (.con (.func (.func 20) ⟨[]⟩ ⟨[]⟩)) []) (P 152)::
.go (.move (tm 152)) (P 6)::
[])) .ret))))))))))
theorem de10 : @compF Try.prog (Gl.none Try.prog) Try.f10 3=.mk d10 (mkTT 153) [(P 0),(P 1),(P 2)] [.tmp (P 6)]:=by kernel_rfl
theorem dg10 : Try.prog.funcs[10]?=some Try.f10:=Try.func10
theorem do10 : okF Try.prog Try.f10=true:=by kernel_rfl
theorem f10_ok {H : Heap} {c b r n x : Value} {T : Tb} {ws : List Int} {q : Int} (hR : Ro H) (h : TV H c b r n T) (hw : WS H x ws) (hq : 0≤q∧q≤255) : F Try.prog 10 ⟨[.agg ⟨[c,b,r,n]⟩,x,.int .u8 q]⟩ H (fun w _=>w=.bool true):=by
 refine F.entryL rfl dg10 do10 de10 rfl (by kernel_rfl) ?_
 simp only[sets]
 refine V.re [(0,.agg ⟨[c,b,r,n]⟩),(1,x),(2,.int .u8 q)] (N:=153) zE zY ?_
 intro t hF hA
 simp only[Kn,and_true] at hA
 refine zS ?_
 refine V.l0 ?_
 refine V.heap (fun X=>Grow H X∧Bx X H.next [c,b,r,n] 25) ⟨?_,?_⟩ ?_
 ·exact zW
 ·exact zB
 rintro H1 ⟨g1,b1⟩
 refine zS ?_
 refine V.run ?_
 have zf:=b1.2
 refine VI.sz 2 ?_
 simp only[ds]
 refine VI.callR zA (f53_ok (bits:=0) hR h.c h.b g1 (h.grow g1) (hw.grow g1)) zA (fun w2 X2 ⟨gx2,yc,yb,yr,yn,xf,xb,xd,xm,s,hw2,⟨i1,i2,i3,i4⟩,⟨j1,j2,j3,j4⟩,_,hl⟩=>?_)
 subst hw2
 have k1:=(sl1 i1).1
 have k2:=(sl1 i2).1
 have k3:=(sl1 i3).1
 have k4:=(sl1 i4).1
 have o1:=(sl1 j1).1
 have o2:=(sl1 j2).1
 have o3:=(sl1 j3).1
 have o4:=(sl1 j4).1
 have zf:=And.intro @k1<|And.intro @k2<|And.intro @k3<|And.intro @k4<|And.intro @o1<|And.intro @o2<|And.intro @o3<|@o4
 refine VI.lz ?_
 refine V.heap (fun X=>Grow X2 X∧Bx X X2.next [yc,yb,yr,yn] 25) ⟨?_,?_⟩ ?_
 ·exact zW
 ·exact zB
 rintro X3 ⟨gx3,y3⟩
 refine zS ?_
 refine V.l0 ?_
 refine zS ?_
 refine V.condP zP (fun ht=>?_) (fun ht=>?_)
 ·refine zS ?_
  refine V.run ?_
  refine VI.callA rfl (f20_ok _) zA (fun H6 g6=>?_)
  refine VI.l0 ?_
  refine zS ?_
  refine V.ret (V.rets rfl (Lv.retF (by simp +contextual (disch:=first|omega|simp only[nx];omega) only[D1,cells_alloc_at,cells_alloc_ne,cells_set_at,cells_set_ne,yres,yres1,yresL,qA,qB,qC,D5,hF,hA,↓reduceIte,qD,qE];rfl) ?_))
  rfl
 have h1 : lv T ws 0:=by
  by_cases hh : lv T ws 0
  ·exact hh
  ·exact absurd (by simp[hh]) ht
 clear ht
 obtain⟨tv,_,_⟩:=hl h1
 have tv:=tv.grow gx3
 have e1:=h1.2.2
 obtain⟨hf',hv'⟩:=flt_0.1 e1
 have s1 : sh (lT T ws 0):=shs hf' hv'
 have hok : ok (lT T ws 0) u0:=tru_ok hf' hv' (lv_tru hw.bd h1)
 generalize lT T ws 0=Y at *
 have hf1:=hf'.1
 have hf2:=hf'.2
 have hv1:=hv'.1
 have hvB:=hv'.2.1
 clear hl
 refine zS ?_
 refine V.run ?_
 have zf:=y3.2
 refine VI.sz 1 ?_
 simp only[ds]
 refine VI.callR zA (f22_ok tv s1) zA (fun w6 X6 ⟨g6,ca,ba,ra,na,hw6,tv6⟩=>?_)
 subst hw6
 refine VI.callR zA (f31_v tv6 s1 e1) zA (fun w7 X7 ⟨g7,sb,hw7,hb7⟩=>?_)
 subst hw7
 have g37:=g6.trans g7
 have y7:=y3.grow g37
 have tv7:=tv.grow g37
 rw[if_pos hok]
 have hB : Nest RS X7 sb (bdl (bnd Y u0) Y.C.length (grp Y)):=by
  rcases hb7 with⟨q,_⟩|⟨_,q⟩
  ·exact absurd hok q
  ·exact q
 have hBl:=hB.len X7
 rw[bdl_len] at hBl
 have hycl:=tv7.c.len X7
 refine VI.l0 ?_
 refine zS ?_
 have zf:=And.intro y7.2<|And.intro @hBl<|@hycl
 refine V.lz ?_
 refine zS ?_
 refine V.condP zP (fun hqq=>?_) (fun hqq=>?_)
 ·exact absurd hqq (by simp)
 obtain⟨k,hk⟩ : ∃ k : Nat,q%(Y.C.length : Int)=(k : Int):=⟨(q%(Y.C.length : Int)).toNat,by have:=Int.emod_nonneg q (show (Y.C.length : Int)≠0 by omega);omega⟩
 obtain⟨g,hg⟩ : ∃ g : Nat,q/8%(grp Y : Int)=(g : Int):=⟨(q/8%(grp Y : Int)).toNat,by have:=Int.emod_nonneg (q/8) (show (grp Y : Int)≠0 by omega);omega⟩
 have hkl : k<Y.C.length:=by have:=Int.emod_lt_of_pos q (show (0 : Int)<Y.C.length by omega);omega
 have hgl : g<grp Y:=by have:=Int.emod_lt_of_pos (q/8) (show (0 : Int)<grp Y by omega);omega
 have q1 : IntKind.i64.wrap q=q:=wrap_i64 (by omega) (by omega)
 have q2 : q.tmod (Y.C.length : Int)=(k : Int):=by rw[Int.tmod_eq_emod_of_nonneg hq.1];exact hk
 have q3 : q.tdiv 8=q/8:=Int.tdiv_eq_ediv_of_nonneg hq.1
 have q4 : IntKind.i64.wrap (q/8)=q/8:=wrap_i64 (by omega) (by omega)
 have q5 : (q/8).tmod (grp Y : Int)=(g : Int):=by rw[Int.tmod_eq_emod_of_nonneg (by omega)];exact hg
 have q6 : ¬ (Y.C.length : Int)=0:=by omega
 have q7 : ¬ (grp Y : Int)=0:=by omega
 have vyc:=(sl1 i1).2.2.1
 refine zS ?_
 refine V.draw ?_
 have zf:=And.intro y7.2<|And.intro @hycl<|And.intro @q1<|And.intro @q2<|And.intro @q3<|And.intro @q4<|@q6
 refine VD.nz 9 ?_
 simp only[ds]
 have zf:=And.intro y7.2<|And.intro @hycl<|And.intro @q1<|And.intro @q2<|And.intro @q3<|And.intro @q4<|@q6
 refine VD.nz 1 ?_
 simp only[ds]
 refine VD.callA zA (f34_ok tv7) zA (fun Z gz=>?_)
 have yz:=y7.grow gz
 have m1:=gz.1
 have hyclz:=tv7.c.len Z
 have zf:=And.intro @q5<|@q7
 refine VD.dz ?_ ?_ rfl ?_
 ·exact zM
 ·simp only[dcAll,dcOk,wantD,List.cons_append,List.nil_append,true_and,and_true]
  have zf:=And.intro y7.2<|And.intro yz.2<|And.intro @hycl<|@hyclz
  exact⟨zR,zR⟩
 have hBz:=hB.grow rp gz
 have tvz:=tv7.grow gz
 clear hB hBl hycl hyclz y7 tv7 zf
 have hk' : k<(bdl (bnd Y u0) Y.C.length (grp Y)).length:=by rw[bdl_len];exact hkl
 obtain⟨p,row,hp,hrow⟩:=hBz.at rp hk'
 obtain⟨hr1,hr2⟩:=hrow Z (.refl _)
 have hp':=hp .i64
 have hrl:=hr2.len Z
 rw[bdl_row] at hrl
 have vr:=(sl1 (rp.sl hr2)).2.2.1
 refine zS ?_
 refine V.re [(7,PT X2.next),(11,sb),(13,I k),(14,I g)] (N:=153) zF zK ?_
 clear hF hA
 intro t hF hA
 simp only[Kn,and_true] at hA
 refine V.draw ?_
 have zf:=And.intro @hp'<|And.intro @hr1<|And.intro @hrl<|yz.2
 refine VD.nz 6 ?_
 simp only[ds]
 refine VD.callA zA (f34_ok tvz) zA (fun A ga=>?_)
 have hr1a:=(hrow A ga).1
 have hrla:=(hr2.len A)
 rw[bdl_row] at hrla
 have ma:=ga.1
 refine VD.d0 ?_ ?_ rfl ?_
 ·exact zM
 ·simp only[dcAll,dcOk,wantD,List.cons_append,List.nil_append,true_and,and_true]
  have zf:=And.intro @hr1<|And.intro @hr1a<|And.intro @hrl<|@hrla
  exact⟨zR,zR⟩
 refine zS ?_
 refine V.condP zP (fun hqq=>?_) (fun hqq=>?_)
 ·exact absurd hqq (by simp)
 have hBa:=hBz.grow rp ga
 have tva:=tvz.grow ga
 have ya:=yz.grow ga
 have hkc : k<Y.C.length:=hkl
 have hrowl:=(hv'.2.2.2.2.1 _ (List.getElem_mem hkc)).1
 have hgc : g<(Y.C[k]).length:=by omega
 obtain⟨p2,yrow,hp2,hyrow⟩:=tva.c.at rp hkc
 obtain⟨hy1,hy2⟩:=hyrow A (.refl _)
 have hp2':=hp2 .i64
 obtain⟨i3',o3',e3,e4⟩:=hy2.at hgc
 have e4':=(e4 A (.refl _)).1
 have lya:=ya.1
 refine zS ?_
 have zf:=And.intro ya.2<|And.intro @hp2'<|And.intro @hy1<|And.intro @e3<|@e4'
 refine V.lz ?_
 refine V.heap (fun X=>Grow A X∧Bx X X2.next [yc,yb,yr,yn] 25∧Bx X A.next (r2 (Y.C[k])[g]) 62) ⟨?_,?_,?_⟩ ?_
 ·exact zW
 ·exact zB
 ·exact zB
 rintro B ⟨gb,yb',ob⟩
 refine zS ?_
 refine V.l0 ?_
 refine zS ?_
 refine V.re [(7,PT X2.next),(11,sb),(13,I k),(14,I g),(15,PT A.next),(16,I 0)] (N:=153) zF zK ?_
 clear hF hA
 intro t hF hA
 simp only[Kn,and_true] at hA
 refine V.loop (fun w t m X=>∃ (i : Nat),i≤4∧w=4-i∧m=[]∧Grow B X∧Full 153 t∧Kn [(7,PT X2.next),(11,sb),(13,I k),(14,I g),(15,PT A.next),(16,I i)] t) 4 ?_ ?_
 ·exact⟨0,by omega,by omega,rfl,.refl _,zF,zK⟩
 clear hF hA zf
 rintro w t m X ⟨i,hi,rfl,rfl,hgx,hF,hA⟩
 simp only[Kn,and_true] at hA
 refine zS ?_
 refine V.l0 ?_
 refine zS ?_
 refine V.condP zP (fun hlt=>?_) (fun hlt=>?_)
 ·have hi' : i<4:=by omega
  have gAX:=gb.trans hgx
  obtain⟨hrX,_⟩:=hrow X (ga.trans gAX)
  obtain⟨i4',o4',e5,e6⟩:=hr2.at (k:=g) (by rw[bdl_row];exact hgl)
  obtain⟨_,e7,e8⟩:=e6 X (ga.trans gAX)
  rw[bdl_at] at e7 e8
  obtain⟨b1',b2',b3'⟩:=bnd_own hf' hv' hok hkl hgl
  have hend:=fun nn (hn : isIn nn ((Y.C.getD k []).getD g (0,0)))=>ends (n:=nn) hf' hv' hok hkl hgl hn
  rw[gd hkc,gd hgc] at b1' b3' hend
  have hwi:=(hv'.2.2.2.2.1 _ (List.getElem_mem hkc)).2 _ (List.getElem_mem hgc)
  obtain⟨hw1,hw2,hw3⟩:=hwi
  generalize va0 (bnd Y u0) ((k : Int),(g : Int))=v at *
  obtain⟨nn,hnn,hcase⟩ : ∃ nn,[I v.1,I v.2,I (v.1-1),I (v.2+1)][i]?=some (I nn)∧((i=0∧nn=v.1)∨(i=1∧nn=v.2)∨(i=2∧nn=v.1-1)∨(i=3∧nn=v.2+1)):=by
   match i,hi' with
   | 0,_=>exact⟨_,rfl,.inl ⟨rfl,rfl⟩⟩
   | 1,_=>exact⟨_,rfl,.inr (.inl ⟨rfl,rfl⟩)⟩
   | 2,_=>exact⟨_,rfl,.inr (.inr (.inl ⟨rfl,rfl⟩))⟩
   | 3,_=>exact⟨_,rfl,.inr (.inr (.inr ⟨rfl,rfl⟩))⟩
  have ixn : yindexAddr none 1 (.slice (some ⟨X.next,0,none⟩) 4 4) (I (i : Nat))=some (.pointer (some ⟨X.next,i,none⟩)):=own_idx hi'
  have yx:=yb'.grow hgx
  have obx:=ob.grow hgx
  have tvx:=tva.grow gAX
  have lyx:=yx.1
  have lox:=obx.1
  refine zS ?_
  have zf:=And.intro @hp'<|And.intro @hrX<|And.intro @e5<|And.intro @e7<|And.intro @e8<|And.intro @ixn<|@hnn
  refine V.dz ?_ ?_ rfl ?_
  ·exact zM
  ·simp only[dcAll,dcOk,wantD,List.cons_append,List.nil_append,true_and,and_true]
  refine V.heap (fun Z=>Grow X Z) ?_ ?_
  ·exact zW
  rintro X' gxx
  have yx:=yx.grow gxx
  have obx:=obx.grow gxx
  have tvx:=tvx.grow gxx
  clear e5 e6 e7 e8 ixn hnn zf
  refine zS ?_
  refine V.run ?_
  have zf:=obx.2
  refine VI.sz 5 ?_
  simp only[ds]
  refine VI.callA rfl (f41_ok nn (Y.C[k])[g].1 (Y.C[k])[g].2 _) zA (fun X2' gx2'=>?_)
  refine VI.l0 ?_
  refine zS ?_
  refine V.condP zP (fun hin=>?_) (fun hin=>?_)
  ·have hin' : ¬ ((Y.C[k])[g].1≤nn∧nn≤(Y.C[k])[g].2):=hin
   refine zS ?_
   refine V.l0 ?_
   refine zS ?_
   refine V.condP zP (fun hi2=>?_) (fun hi2=>?_)
   ·exfalso
    omega
   ·refine zS ?_
    refine V.exit ?_
    refine zX ?_
    refine zS ?_
    refine V.l0 ?_
    refine V.nil (Or.inl ⟨rfl,4-(i+1),by omega,?_⟩)
    exact⟨i+1,hi',rfl,rfl,(hgx.trans gxx).trans gx2',zF,zK⟩
  ·have hin' : isIn nn (Y.C[k])[g]:=show (Y.C[k])[g].1≤nn∧nn≤(Y.C[k])[g].2 from Decidable.not_not.1 hin
   obtain⟨⟨hfw,hvw⟩,hokw⟩:=hend nn hin'
   have hfl : flt (wT Y k g (nn,nn))=0:=flt_0.2 ⟨hfw,hvw⟩
   have yx:=yx.grow gx2'
   have tvx:=tvx.grow gx2'
   have shw:=shs hfw hvw
   refine zS ?_
   refine V.run ?_
   have zf:=yx.2
   refine VI.sz 6 ?_
   simp only[ds]
   refine VI.callR zA (f55_ok (v:=(nn,nn)) tvx s1 hkc hgc) zA (fun w8 X8 ⟨g8,cw,hw8,tvw⟩=>?_)
   subst hw8
   refine VI.callR zA (f22_ok tvw shw) zA (fun w9 X9 ⟨g9,c9,b9,r9,n9,hw9,tv9⟩=>?_)
   subst hw9
   refine VI.callR zA (f31_v tv9 shw hfl) zA (fun w10 X10 ⟨g10,s10,hw10,_⟩=>?_)
   subst hw10
   refine VI.l0 ?_
   refine zS ?_
   have hgF:=(((hgx.trans gxx).trans gx2').trans g8).trans (g9.trans g10)
   have hev : ¬ ((i<2∧¬ ok (wT Y k g (nn,nn)) u0)∨(2≤i∧ok (wT Y k g (nn,nn)) u0)):=by
    rw[hokw]
    unfold isIn
    omega
   generalize wT Y k g (nn,nn)=Z at *
   rcases Nat.lt_or_ge i 2 with hi2|hi2
   ·have hz : ok Z u0:=Decidable.not_not.1 (fun hh=>hev (.inl ⟨hi2,hh⟩))
    have hii : (i : Int)<2:=by omega
    simp only[if_pos hz]
    refine V.line' (by simp +contextual (disch:=first|omega|simp only[nx];omega) only[D4,qF,qG,qA,qB,qC,D5,hF,hA,↓reduceIte,qD,qE,hii,not_true_eq_false,not_false_eq_true];with_reducible rfl) ?_
    refine zS ?_
    refine V.condP zP (fun hbad=>?_) (fun hbad=>?_)
    ·exact absurd hbad (by first|(simp;done)|(simp;omega))
    refine zS ?_
    refine V.l0 ?_
    refine V.nil (Or.inl ⟨rfl,4-(i+1),by omega,?_⟩)
    exact⟨i+1,hi',rfl,rfl,hgF,zF,zK⟩
   ·have hz : ¬ ok Z u0:=fun hh=>hev (.inr ⟨hi2,hh⟩)
    have hii : ¬ (i : Int)<2:=by omega
    have hig : (2 : Int)≤i:=by omega
    simp only[if_neg hz]
    refine V.line' (by simp +contextual (disch:=first|omega|simp only[nx];omega) only[D4,qF,qG,qA,qB,qC,D5,hF,hA,↓reduceIte,qD,qE,hii,hig,not_true_eq_false,not_false_eq_true];with_reducible rfl) ?_
    refine zS ?_
    refine V.condF zA ?_
    refine zS ?_
    refine V.l0 ?_
    refine V.nil (Or.inl ⟨rfl,4-(i+1),by omega,?_⟩)
    exact⟨i+1,hi',rfl,rfl,hgF,zF,zK⟩
 ·refine V.exit ?_
  refine zX ?_
  refine V.nil (Or.inr ⟨by simp,?_⟩)
  refine zX ?_
  refine zS ?_
  refine V.run ?_
  refine VI.callA rfl (f20_ok _) zA (fun H6 g6=>?_)
  refine VI.l0 ?_
  refine zS ?_
  refine V.ret (V.rets rfl (Lv.retF (by simp +contextual (disch:=first|omega|simp only[nx];omega) only[D1,cells_alloc_at,cells_alloc_ne,cells_set_at,cells_set_ne,yres,yres1,yresL,qA,qB,qC,D5,hF,hA,↓reduceIte,qD,qE];rfl) ?_))
  rfl
theorem f10_all {H : Heap} {c b r n x : Value} {T : Tb} {ws : List Int} {q : Int} (hR : Ro H) (h : TV H c b r n T) (hw : Sl H x (ws.map fun v=>.int .u16 v)) (hb : ∀ v∈ws,0≤v∧v≤65535) (hq : 0≤q∧q≤255) : F Try.prog 10 ⟨[.agg ⟨[c,b,r,n]⟩,x,.int .u8 q]⟩ H (fun w _=>w=.bool true):=f10_ok hR h ⟨hw,fun v hv=>by have:=hb v hv;omega⟩ hq
end Go.Xe.TFX
/- Tables and truths that come in: what lies where. Conditions: none. -/
namespace Go.Xe.TFX
open Go Go.Xe Go.Proofs
open Go.Xe.Flw
abbrev shR : Sh:=.pair (.int .i64) (.pair (.int .i64) .unit)
abbrev shRs : Sh:=.slice 2 shR
abbrev shT : Sh:=.pair (.slice 1 shRs) (.pair shRs (.pair shRs (.pair shRs .unit)))
theorem rs_of {A : Heap} {cs : List Value} {y : Ty shRs} (h : Sem A shRs cs y) : ∃ v L,cs=[v]∧RS A v L:=by
 obtain⟨v,rows,rfl,h1,h2,_,h3⟩:=h
 refine⟨v,y.map fun x=>(x.1,x.2.1),rfl,?_⟩
 have e : rows=(y.map fun x=>(x.1,x.2.1)).map r2:=by
  apply List.ext_getElem
  ·simp[h2]
  ·intro k k1 k2
   have hk : k<y.length:=by omega
   obtain⟨c1,c2,e1,⟨rfl,_⟩,d1,d2,e2,⟨rfl,_⟩,e3⟩:=h3 k rows[k] y[k] (by simp) (by simp[hk])
   rw[e1,e2,e3]
   simp[r2]
 have:=h1.sw
 rw[e] at this
 exact this
theorem nest_of {α : Type} {s : Sh} {R : Heap→Value→α→Prop} {A : Heap} (hR : ∀ cs y,Sem A s cs y→∃ v L,cs=[v]∧R A v L) {cs : List Value} {y : Ty (.slice 1 s)} (h : Sem A (.slice 1 s) cs y) : ∃ v L,cs=[v]∧Nest R A v L:=by
 obtain⟨v,rows,rfl,h1,h2,_,h3⟩:=h
 obtain⟨Z,hz1,hz2⟩:=list_of (α:=Value×α) (p:=fun i x=>rows[i]?=some [x.1]∧R A x.1 x.2) rows.length (fun i hi=>by
  have hk : i<(y : List (Ty s)).length:=by omega
  obtain⟨v,L,e,hr⟩:=hR _ _ (h3 i rows[i] ((y : List (Ty s))[i]) (by simp) (by simp[hk]))
  exact⟨(v,L),by simp[hi,e],hr⟩)
 refine⟨v,Z.map (·.2),rfl,Z.map (·.1),?_,by simp,?_⟩
 ·have e : rows=(Z.map (·.1)).map fun x=>[x]:=by
   apply List.ext_getElem
   ·simp[hz1]
   ·intro k k1 k2
    have:=(hz2 k Z[k] (by simp[hz1,k1])).1
    rw[List.getElem?_eq_getElem k1,Option.some.injEq] at this
    rw[this]
    simp
  rw[e] at h1
  exact h1.one
 ·intro k x r hx hr
  rw[List.getElem?_map] at hx hr
  cases hq : Z[k]? with
  | none=>rw[hq] at hx;cases hx
  | some q=>
   rw[hq] at hx hr
   cases hx;cases hr
   exact (hz2 k q hq).2
theorem tv_of {A : Heap} {l : List Value} {y : Ty shT} (h : Sem A shT l y) : ∃ c b r n T,l=[c,b,r,n]∧TV A c b r n T:=by
 obtain⟨c1,c2,rfl,h1,d1,d2,rfl,h2,e1,e2,rfl,h3,f1,f2,rfl,h4,h5⟩:=h
 obtain⟨c,C,rfl,hc⟩:=nest_of (R:=RS) (fun cs y h=>rs_of h) h1
 obtain⟨b,B,rfl,hb⟩:=rs_of h2
 obtain⟨r,Rt,rfl,hr⟩:=rs_of h3
 obtain⟨n,N,rfl,hn⟩:=rs_of h4
 have h5' : f2=[]:=h5
 subst h5'
 exact⟨c,b,r,n,⟨C,B,Rt,N⟩,rfl,hc,hb,hr,hn⟩
end Go.Xe.TFX
/- Rules of reasoning over the executable reading of the model's code (part Z16): arguments, by what their types allow. Conditions: none; for every program. -/
namespace Go.Xe
open Go Go.RowKit Go.ChangeShapes Go.WideShapes
theorem okWide_agg {P : Program} {w : World} {r : Reach} {base : Nat} {t : TypeId} {v : Value} {fs : Array Field} (ht : P.underlying t=some (.struct fs)) (h : Value.okWide P w r base t v) : ∃ cs,v=.agg cs:=by
 unfold Value.okWide at h
 rw[ht] at h
 obtain⟨cs,h,_⟩:=h
 exact⟨cs,h⟩
end Go.Xe
/- The end of a call that has changed nothing of what was there: what a statement asks of the memory behind it. Conditions: as post_of_same's, but that new memory may be frozen. -/
namespace Go.Xe
open Go Go.RowKit Go.ChangeShapes Go.WideShapes
variable {H : Type} {enc : TypeId×Value→H} {P : Program}
theorem post_of_old {f : Func} {s : ChangeSpec} {apart fresh handsOn again : Bool} {W W' : World} {args : Array Value} {v : Value} {ds gs : List (DataW H)} {before pa pv : List MemPlace}
  (hW : DataW.Whole enc P f.params.toList s.vars apart W args.toList ds gs before)
  (hres : ∀ (b : Nat) (sp : Nat→Bool) (hd : Bool),DataW.TrodAll enc P W' b sp hd f.resultTypes.toList (v.resultList f.resultTypes.size) (s.fn H (ds++gs)).results [])
  (hargs : ∀ sp : Nat→Bool,(∀ p∈before,sp p.block=true)→DataW.TrodAll enc P W' 0 sp true f.params.toList args.toList (s.fn H (ds++gs)).args pa)
  (hvars : ∀ sp : Nat→Bool,(∀ p∈before,sp p.block=true)→DataW.TrodVars enc P W' sp s.vars (s.fn H (ds++gs)).vars pv)
  (hps : before=pa++pv) (hk : W.keptBut W' (·∈before)) (hfz : ∀ a : Addr,a.block<W.heap.size→W'.frozen? a=W.frozen? a)
  (hok : ∀ (j : Nat) (t : TypeId) (r : Value),f.resultTypes[j]?=some t→(v.resultList f.resultTypes.size)[j]?=some r→Value.okWide P W' .any 0 t r) :
  s.post enc P f apart fresh handsOn again W args v W':=by
 have old : ∀ p∈before,p.block<W.heap.size:=fun p hp=>hW.lt p hp
 have hold : ∀ p∈before,(fun b=>decide (b<W.heap.size)) p.block=true:=fun p hp=>by simpa using old p hp
 subst hps
 refine⟨ds,gs,_,[],pa,pv,hW,hres _ _ _,hargs _ hold,hvars _ hold,World.keptBut_mono (fun p hp=>⟨hp,.inr (List.mem_append.1 hp)⟩) hk,fun _=>?_⟩
 obtain⟨_,_,_,_,_,hz,hn⟩:=hW
 refine⟨hok,_,_,([]++pa)++pv,⟨[]++pa,pv,trodAll_append (hargs _ (fun _ _=>rfl)) (hres _ _ _),hvars _ (fun _ _=>rfl),rfl,?_,?_⟩,?_⟩
 ·intro b off hp
  have hp' : MemPlace.cell b off∈pa++pv:=by simpa using hp
  rw[hfz _ (old _ hp')]
  exact hz b off hp'
 ·intro ha
  simpa using hn ha
 ·intro p hp _
  simpa using hp
end Go.Xe
