/- The statement FlowFails: the function. Conditions: none. -/
import Derived.Test.YtbbdafmehaohkaaTKH
import Derived.Test.YtbbdafmehaohkaaZm
import Derived.WideShapes
import Derived.ChangeSame
import Derived.Below
-- MOD TF
namespace Go.Xe.TFX
open Go Go.Xe Go.Proofs
open Nat renaming reduceLeDiff → qA, reduceSub → qB, reduceAdd → qC, reduceEqDiff → qD, reduceLT → qE
open Int renaming reduceNegSucc → qF, reduceEq → qG
open Go.Xe.V renaming seq → sA, block → sB, scope → sC, skip → sD, close → sE
open Go.Xe renaming pth → P
open Go.Xe.Flw
set_option maxRecDepth 100000
set_option maxHeartbeats 3200000
set_option linter.unusedSimpArgs false
noncomputable def d16 : FCode:=(.seq (.run (.go (.box 25 (tm 0)) (P 4)::
.go (.box 25 (tm 1)) (P 5)::
.go (.move (.con (.bool false))) (P 8)::
[])) (.seq (.run (.go (.loadN 4 (tm 4)) (P 25)::
.go (.move (tm 2)) (P 26)::
.go (.move (tm 3)) (P 27)::
.go (.call (.con (.func (.func 53) ⟨[]⟩ ⟨[]⟩)) [(tm 25),(tm 26),(tm 27)]) (P 28)::
.go (.move (tm 28)) (P 24)::
.go (.extract (tm 24) 0) (P 29)::
.go (.extract (tm 24) 1) (P 30)::
.go (.extract (tm 24) 2) (P 31)::
.go (.extract (tm 24) 3) (P 32)::
.go (.alloc 25 [(.slice none 0 0),(.slice none 0 0),(.slice none 0 0),(.slice none 0 0)]) (P 9)::
.go (.alloc 29 [(.slice none 0 0),(.slice none 0 0),(.slice none 0 0),(.slice none 0 0)]) (P 10)::
.un (.store 4 (tm 9) (tm 29))::
.un (.store 4 (tm 10) (tm 30))::
.go (.move (tm 31)) (P 11)::
.go (.move (tm 32)) (P 12)::
[])) (.seq (.run (.go (.loadN 4 (tm 5)) (P 34)::
.go (.move (tm 2)) (P 35)::
.go (.move (tm 3)) (P 36)::
.go (.bin .quo 97 (tm 36) (.con (.int .u16 (.ofNat 3)))) (P 37)::
.go (.call (.con (.func (.func 53) ⟨[]⟩ ⟨[]⟩)) [(tm 34),(tm 35),(tm 37)]) (P 38)::
.go (.move (tm 38)) (P 33)::
.go (.extract (tm 33) 0) (P 39)::
.go (.extract (tm 33) 1) (P 40)::
.go (.extract (tm 33) 2) (P 41)::
.go (.extract (tm 33) 3) (P 42)::
.go (.alloc 25 [(.slice none 0 0),(.slice none 0 0),(.slice none 0 0),(.slice none 0 0)]) (P 13)::
.go (.alloc 29 [(.slice none 0 0),(.slice none 0 0),(.slice none 0 0),(.slice none 0 0)]) (P 14)::
.un (.store 4 (tm 13) (tm 39))::
.un (.store 4 (tm 14) (tm 40))::
.go (.move (tm 41)) (P 15)::
.go (.move (tm 42)) (P 16)::
[])) (.seq (.seq (.run (.go (.move (tm 12)) (P 43)::
.go (.un .not (tm 43)) (P 44)::
.go (.move (tm 44)) (P 45)::
.gd (P 45) false (.move (tm 16)) (P 46)::
.gd (P 45) false (.un .not (tm 46)) (P 47)::
.go (.pick (tm 45) (.con (.bool true)) (tm 47)) (P 48)::
[])) (.cond (tm 48) (.seq (.run (.go (.call (.con (.func (.func 20) ⟨[]⟩ ⟨[]⟩)) []) (P 49)::
.go (.move (tm 49)) (P 8)::
[])) .ret) .skip)) (.seq (.run (.go (.loadN 4 (tm 9)) (P 51)::
.go (.call (.con (.func (.func 22) ⟨[]⟩ ⟨[]⟩)) [tm 51]) (P 52)::
.go (.call (.con (.func (.func 31) ⟨[]⟩ ⟨[]⟩)) [tm 52]) (P 53)::
.go (.move (tm 53)) (P 50)::
.go (.extract (tm 50) 0) (P 54)::
.go (.extract (tm 50) 1) (P 55)::
.go (.move (tm 54)) (P 17)::
.go (.move (tm 55)) (P 18)::
[])) (.seq (.run (.go (.loadN 4 (tm 13)) (P 57)::
.go (.call (.con (.func (.func 22) ⟨[]⟩ ⟨[]⟩)) [tm 57]) (P 58)::
.go (.call (.con (.func (.func 31) ⟨[]⟩ ⟨[]⟩)) [tm 58]) (P 59)::
.go (.move (tm 59)) (P 56)::
.go (.extract (tm 56) 0) (P 60)::
.go (.extract (tm 56) 1) (P 61)::
.go (.move (tm 60)) (P 19)::
.go (.move (tm 61)) (P 20)::
[])) (.seq (.draw 13 (.go (.loadN 4 (tm 9)) (P 63)::
.go (.call (.con (.func (.func 22) ⟨[]⟩ ⟨[]⟩)) [tm 63]) (P 64)::
.go (.loadN 4 (tm 13)) (P 65)::
.go (.call (.con (.func (.func 22) ⟨[]⟩ ⟨[]⟩)) [tm 65]) (P 66)::
.go (.loadN 4 (tm 9)) (P 67)::
.go (.call (.con (.func (.func 22) ⟨[]⟩ ⟨[]⟩)) [tm 67]) (P 68)::
.go (.buildSlice 38 3 [(.slice none 0 0),(.slice none 0 0),(.slice none 0 0),(.slice none 0 0),(.slice none 0 0),(.slice none 0 0),(.slice none 0 0),(.slice none 0 0),(.slice none 0 0),(.slice none 0 0),(.slice none 0 0),(.slice none 0 0)] [(0,4,(tm 64)),(4,4,(tm 66)),(8,4,(tm 68))]) (P 69)::
.go (.call (.con (.func (.func 32) ⟨[]⟩ ⟨[]⟩)) [tm 69]) (P 70)::
.go (.move (tm 70)) (P 62)::
.go (.extract (tm 62) 0) (P 71)::
.go (.extract (tm 62) 1) (P 72)::
.go (.move (tm 71)) (P 21)::
.go (.move (tm 72)) (P 22)::
[]) [.ok,.ok,.rd none (.loadN 4 (tm 13)) (some (P 65)) [0],.ok,.rd none (.loadN 4 (tm 9)) (some (P 67)) [0,2],.ok,.ok,.ok,.ok,.ok,.ok,.ok,.ok]) (.seq (.run (.go (.move (.con (.slice none 0 0))) (P 23)::
[])) (.seq (.seq (.run (.go (.move (tm 18)) (P 73)::
.go (.bin .eql 33 (tm 73) (.con (.int .i64 (.ofNat 9)))) (P 74)::
[])) (.cond (tm 74) (.run (.go (.move (tm 23)) (P 75)::
.go (.buildSlice 3 1 [(.int .i64 (.ofNat 0))] [(0,1,(.con (.int .i64 (.ofNat 0))))]) (P 76)::
.go (.append 3 1 8 (tm 75) (tm 76)) (P 77)::
.go (.move (tm 77)) (P 23)::
[])) .skip)) (.seq (.seq (.run (.go (.move (tm 20)) (P 78)::
.go (.bin .eql 33 (tm 78) (.con (.int .i64 (.ofNat 9)))) (P 79)::
[])) (.cond (tm 79) (.run (.go (.move (tm 23)) (P 80)::
.go (.buildSlice 3 1 [(.int .i64 (.ofNat 0))] [(0,1,(.con (.int .i64 (.ofNat 1))))]) (P 81)::
.go (.append 3 1 8 (tm 80) (tm 81)) (P 82)::
.go (.move (tm 82)) (P 23)::
[])) .skip)) (.seq (.seq (.run (.go (.move (tm 18)) (P 83)::
.go (.bin .eql 33 (tm 83) (.con (.int .i64 (.ofNat 9)))) (P 84)::
[])) (.cond (tm 84) (.run (.go (.move (tm 23)) (P 85)::
.go (.buildSlice 3 1 [(.int .i64 (.ofNat 0))] [(0,1,(.con (.int .i64 (.ofNat 2))))]) (P 86)::
.go (.append 3 1 8 (tm 85) (tm 86)) (P 87)::
.go (.move (tm 87)) (P 23)::
[])) .skip)) (.seq (.run (.go (.move (tm 22)) (P 88)::
.go (.bin .eql 33 (tm 88) (.con (.int .i64 (.ofNat 0)))) (P 89)::
.go (.move (tm 89)) (P 90)::
.gd (P 90) true (.move (tm 21)) (P 91)::
.gd (P 90) true (.buildSlice 26 1 [(.slice none 0 0)] [(0,1,(tm 91))]) (P 92)::
.gd (P 90) true (.move (tm 23)) (P 93)::
.gd (P 90) true (.buildSlice 26 1 [(.slice none 0 0)] [(0,1,(tm 93))]) (P 94)::
.gd (P 90) true (.call (.con (.func (.func 29) ⟨[]⟩ ⟨[]⟩)) [(tm 92),(tm 94)]) (P 95)::
.go (.pick (tm 90) (tm 95) (.con (.bool false))) (P 96)::
.go (.move (tm 96)) (P 97)::
.gd (P 97) true (.call (.con (.func (.func 20) ⟨[]⟩ ⟨[]⟩)) []) (P 98)::
.go (.pick (tm 97) (tm 98) (.con (.bool false))) (P 99)::
.go (.move (tm 99)) (P 8)::
[])) .ret))))))))))))
theorem de16 : @compF Try.prog (Gl.none Try.prog) Try.f16 4=.mk d16 (mkTT 100) [(P 0),(P 1),(P 2),(P 3)] [.tmp (P 8)]:=by kernel_rfl
theorem dg16 : Try.prog.funcs[16]?=some Try.f16:=Try.func16
theorem do16 : okF Try.prog Try.f16=true:=by kernel_rfl
theorem Nest1 {H : Heap} {s : Value} {l : List Int} {i : Nat} {e : TypeId} (hs : RI H s l) (hb : Bx H i [s] e) : Nest RI H (.slice (some ⟨i,0,none⟩) 1 1) [l]:=by
 refine⟨[s],.at hb.1 hb.2 (Nat.le_refl _) rfl (by simp) (fun k x hx=>?_),rfl,fun k x r hx hr=>?_⟩
 ·rw[Nat.zero_add]
  exact (arr_get _ _).trans hx
 ·cases k with
  | zero=>
   simp only[List.getElem?_cons_zero,Option.some.injEq] at hx hr
   subst hx;subst hr
   exact hs
  | succ k=>simp at hx
theorem f31_v {H : Heap} {c b r n : Value} {T : Tb} (h : TV H c b r n T) (hs : sh T) (h0 : flt T=0) : F Try.prog 31 ⟨[.agg ⟨[c,b,r,n]⟩]⟩ H (fun w X=>Grow H X∧∃ s,w=.tuple ⟨[s,I (if ok T u0 then 0 else 9)]⟩∧((¬ ok T u0∧s=.slice none 0 0)∨(ok T u0∧Nest RS X s (bdl (bnd T u0) T.C.length (grp T))))):=by
 refine F.mono (f31_ok h hs) (fun w X ⟨g,hw⟩=>⟨g,?_⟩)
 rcases hw with⟨h1,_⟩|⟨_,h1,rfl⟩|⟨_,h1,s,rfl,h2⟩
 ·exact absurd h0 h1
 ·exact⟨_,by rw[if_neg h1],.inl ⟨h1,rfl⟩⟩
 ·exact⟨s,by rw[if_pos h1],.inr ⟨h1,h2⟩⟩
theorem TL3 {H : Heap} {c3 b3 r3 n3 c4 b4 r4 n4 c5 b5 r5 n5 : Value} {A B C : Tb} (h1 : TV H c3 b3 r3 n3 A) (h2 : TV H c4 b4 r4 n4 B) (h3 : TV H c5 b5 r5 n5 C) : TL (H.alloc (.cells ⟨[c3,b3,r3,n3,c4,b4,r4,n4,c5,b5,r5,n5]⟩ 38 true)) (.slice (some ⟨H.next,0,none⟩) 3 3) [A,B,C]:=by
 have g : Grow H (H.alloc (.cells ⟨[c3,b3,r3,n3,c4,b4,r4,n4,c5,b5,r5,n5]⟩ 38 true)):=(Grow.refl H).alloc _
 refine⟨[[c3,b3,r3,n3],[c4,b4,r4,n4],[c5,b5,r5,n5]],Sw.flat (w:=4) (c:=3) (l:=[[c3,b3,r3,n3],[c4,b4,r4,n4],[c5,b5,r5,n5]]) (Nat.lt_succ_self _) (cells_alloc _ _ _ _) (by simp) (by simp),rfl,fun k l T hl hT=>?_⟩
 match k with
 | 0=>
  simp only[List.getElem?_cons_zero,Option.some.injEq] at hl hT
  subst hl;subst hT
  exact⟨_,_,_,_,rfl,h1.grow g⟩
 | 1=>
  simp only[List.getElem?_cons_zero,List.getElem?_cons_succ,Option.some.injEq] at hl hT
  subst hl;subst hT
  exact⟨_,_,_,_,rfl,h2.grow g⟩
 | 2=>
  simp only[List.getElem?_cons_zero,List.getElem?_cons_succ,Option.some.injEq] at hl hT
  subst hl;subst hT
  exact⟨_,_,_,_,rfl,h3.grow g⟩
 | k+3=>simp at hl
theorem f16_ok {H : Heap} {c b r n c2 b2 r2' n2 x : Value} {T T' : Tb} {ws : List Int} {bits : Int} (hR : Ro H) (h : TV H c b r n T) (h' : TV H c2 b2 r2' n2 T') (hw : WS H x ws) : F Try.prog 16 ⟨[.agg ⟨[c,b,r,n]⟩,.agg ⟨[c2,b2,r2',n2]⟩,x,.int .u16 bits]⟩ H (fun w _=>w=.bool true):=by
 refine F.entryL rfl dg16 do16 de16 rfl (by kernel_rfl) ?_
 simp only[sets]
 refine V.re [(0,.agg ⟨[c,b,r,n]⟩),(1,.agg ⟨[c2,b2,r2',n2]⟩),(2,x),(3,.int .u16 bits)] (N:=100) zE zY ?_
 intro t hF hA
 simp only[Kn,and_true] at hA
 refine zS ?_
 refine V.l0 ?_
 refine V.heap (fun X=>Grow H X∧Bx X H.next [c,b,r,n] 25∧Bx X (H.next+1) [c2,b2,r2',n2] 25) ⟨?_,?_,?_⟩ ?_
 ·exact zW
 ·exact zB
 ·exact zB
 rintro H1 ⟨g1,b1,c1⟩
 refine zS ?_
 refine V.run ?_
 have zf:=b1.2
 refine VI.sz 3 ?_
 simp only[ds]
 refine VI.callR zA (f53_ok (bits:=bits) hR h g1 (hw.grow g1)) zA (fun w2 H2 ⟨g2,yc,yb,yr,yn,xf,xb,xd,xm,s,hw2,⟨i1,i2,i3,i4⟩,⟨j1,j2,j3,j4⟩,_,hl⟩=>?_)
 subst hw2
 have k1:=(sl1 i1).1
 have k2:=(sl1 i2).1
 have k3:=(sl1 i3).1
 have k4:=(sl1 i4).1
 have o1:=(sl1 j1).1
 have o2:=(sl1 j2).1
 have o3:=(sl1 j3).1
 have o4:=(sl1 j4).1
 have c2':=c1.grow g2
 have g12:=g1.trans g2
 have zf:=And.intro @k1<|And.intro @k2<|And.intro @k3<|And.intro @k4<|And.intro @o1<|And.intro @o2<|And.intro @o3<|@o4
 refine VI.lz ?_
 refine V.heap (fun X=>Grow H2 X∧Bx X H2.next [yc,yb,yr,yn] 25) ⟨?_,?_⟩ ?_
 ·exact zW
 ·exact zB
 rintro H3 ⟨g3,y3⟩
 have c3:=c2'.grow g3
 have g13:=g12.trans g3
 refine zS ?_
 refine V.run ?_
 have zf:=c3.2
 refine VI.sz 4 ?_
 simp only[ds]
 refine VI.callR zA (f53_ok (bits:=IntKind.u16.wrap (bits.tdiv 3)) hR h' g13 (hw.grow g13)) zA (fun w4 H4 ⟨g4,zc,zb,zr,zn,xf',xb',xd',xm',s',hw4,⟨i5,i6,i7,i8⟩,⟨j5,j6,j7,j8⟩,_,hl'⟩=>?_)
 subst hw4
 have k5:=(sl1 i5).1
 have k6:=(sl1 i6).1
 have k7:=(sl1 i7).1
 have k8:=(sl1 i8).1
 have o5:=(sl1 j5).1
 have o6:=(sl1 j6).1
 have o7:=(sl1 j7).1
 have o8:=(sl1 j8).1
 have y4:=y3.grow g4
 have ly4:=y4.1
 have zf:=And.intro @k5<|And.intro @k6<|And.intro @k7<|And.intro @k8<|And.intro @o5<|And.intro @o6<|And.intro @o7<|@o8
 refine VI.lz ?_
 refine V.heap (fun X=>Grow H4 X∧Bx X H2.next [yc,yb,yr,yn] 25∧Bx X H4.next [zc,zb,zr,zn] 25) ⟨?_,?_,?_⟩ ?_
 ·exact zW
 ·exact zB
 ·exact zB
 rintro H5 ⟨g5,y5,z5⟩
 have g25:=(g3.trans g4).trans g5
 refine zS ?_
 refine V.l0 ?_
 refine zS ?_
 refine V.condP zP (fun ht=>?_) (fun ht=>?_)
 ·refine zS ?_
  refine V.run ?_
  refine VI.callA rfl (f20_ok _) zA (fun H6 g6=>?_)
  refine VI.l0 ?_
  refine zS ?_
  refine V.ret (V.rets rfl (Lv.retF (by simp +contextual (disch:=first|omega|simp only[nx];omega) only[D1,cells_alloc_at,cells_alloc_ne,cells_set_at,cells_set_ne,yres,yres1,yresL,qA,qB,qC,D5,hF,hA,↓reduceIte,qD,qE];rfl) ?_))
  rfl
 have h1 : lv T ws bits:=by
  by_cases hh : lv T ws bits
  ·exact hh
  ·exact absurd (by simp[hh]) ht
 have h2 : lv T' ws (IntKind.u16.wrap (bits.tdiv 3)):=by
  by_cases hh : lv T' ws (IntKind.u16.wrap (bits.tdiv 3))
  ·exact hh
  ·exact absurd (by simp[hh,h1]) ht
 clear ht
 obtain⟨tv,_,_⟩:=hl h1
 obtain⟨tv',_,_⟩:=hl' h2
 have tv:=tv.grow g25
 have tv':=tv'.grow g5
 have e1:=h1.2.2
 have e2:=h2.2.2
 have s1 : sh (lT T ws bits):=shs (flt_0.1 e1).1 (flt_0.1 e1).2
 have s2 : sh (lT T' ws (IntKind.u16.wrap (bits.tdiv 3))):=shs (flt_0.1 e2).1 (flt_0.1 e2).2
 generalize lT T ws bits=Y at *
 generalize lT T' ws (IntKind.u16.wrap (bits.tdiv 3))=Z at *
 clear hl hl' h1 h2 c1 c2' c3 b1
 refine zS ?_
 refine V.run ?_
 have zf:=y5.2
 refine VI.sz 1 ?_
 simp only[ds]
 refine VI.callR zA (f22_ok tv s1) zA (fun w6 H6 ⟨g6,ca,ba,ra,na,hw6,tv6⟩=>?_)
 subst hw6
 refine VI.callR zA (f31_v tv6 s1 e1) zA (fun w7 H7 ⟨g7,sb,hw7,_⟩=>?_)
 subst hw7
 have g57:=g6.trans g7
 have y7:=y5.grow g57
 have z7:=z5.grow g57
 refine VI.l0 ?_
 refine zS ?_
 refine V.run ?_
 have zf:=z7.2
 refine VI.sz 1 ?_
 simp only[ds]
 refine VI.callR zA (f22_ok (tv'.grow g57) s2) zA (fun w8 H8 ⟨g8,cb,bb,rb,nb,hw8,tv8⟩=>?_)
 subst hw8
 refine VI.callR zA (f31_v tv8 s2 e2) zA (fun w9 H9 ⟨g9,sb',hw9,_⟩=>?_)
 subst hw9
 have g79:=g8.trans g9
 have g59:=g57.trans g79
 have y9:=y7.grow g79
 have z9:=z7.grow g79
 refine VI.l0 ?_
 refine zS ?_
 refine V.re [(9,PT H2.next),(13,PT H4.next),(18,I (if ok Y u0 then 0 else 9)),(20,I (if ok Z u0 then 0 else 9))] (N:=100) zF zK ?_
 clear hF hA
 intro t hF hA
 simp only[Kn,and_true] at hA
 refine V.draw ?_
 have zf:=y9.2
 refine VD.nz 1 ?_
 simp only[ds]
 refine VD.callR zA (f22_ok (tv.grow g59) s1) zA (fun wa Ha ⟨ga,c3,b3,r3,n3,hwa,tva⟩=>?_)
 subst hwa
 have ya:=y9.grow ga
 have za:=z9.grow ga
 have zf:=za.2
 refine VD.nz 1 ?_
 simp only[ds]
 refine VD.callR zA (f22_ok (tv'.grow (g59.trans ga)) s2) zA (fun wb Hb ⟨gb,c4,b4,r4,n4,hwb,tvb⟩=>?_)
 subst hwb
 have yb':=ya.grow gb
 have zb':=za.grow gb
 have tva':=tva.grow gb
 have zf:=yb'.2
 refine VD.nz 1 ?_
 simp only[ds]
 refine VD.callR zA (f22_ok (tv.grow ((g59.trans ga).trans gb)) s1) zA (fun wc Hc ⟨gc,c5,b5,r5,n5,hwc,tvc⟩=>?_)
 subst hwc
 have tva':=tva'.grow gc
 have tvb':=tvb.grow gc
 have p1:=(sl1 tva.c.isS).1
 have p2:=(sl1 (rp.sl tva.b)).1
 have p3:=(sl1 (rp.sl tva.r)).1
 have p4:=(sl1 (rp.sl tva.n)).1
 have p5:=(sl1 tvb.c.isS).1
 obtain⟨⟨_,_,_,rfl⟩,⟨_,_,_,rfl⟩,⟨_,_,_,rfl⟩,⟨_,_,_,rfl⟩⟩:=And.intro tva.c.isS (And.intro (rp.sl tva.b) (And.intro (rp.sl tva.r) (rp.sl tva.n)))
 obtain⟨⟨_,_,_,rfl⟩,⟨_,_,_,rfl⟩,⟨_,_,_,rfl⟩,⟨_,_,_,rfl⟩⟩:=And.intro tvb.c.isS (And.intro (rp.sl tvb.b) (And.intro (rp.sl tvb.r) (rp.sl tvb.n)))
 obtain⟨⟨_,_,_,rfl⟩,⟨_,_,_,rfl⟩,⟨_,_,_,rfl⟩,⟨_,_,_,rfl⟩⟩:=And.intro tvc.c.isS (And.intro (rp.sl tvc.b) (And.intro (rp.sl tvc.r) (rp.sl tvc.n)))
 have htl:=TL3 tva' tvb' tvc
 have hsh : ∀ T∈[Y,Z,Y],sh T:=by
  intro T hT
  simp only[List.mem_cons,List.not_mem_nil,or_false] at hT
  rcases hT with rfl|rfl|rfl
  ·exact s1
  ·exact s2
  ·exact s1
 refine VD.n0 1 ?_
 simp only[ds]
 refine VD.callR zA (f32_ok htl (by simp) hsh) zA (fun wd' Hd ⟨gd',hwd⟩=>?_)
 have hwd2 : ∃ l,wd'=.tuple ⟨[l,I 0]⟩∧RI Hd l (bads [Y,Z,Y] 3):=by
  rcases hwd with⟨k,hk,h1,_⟩|⟨_,l,h1,h2⟩
  ·exfalso
   match k with
   | 0=>exact h1 e1
   | 1=>exact h1 e2
   | 2=>exact h1 e1
   | k+3=>simp at hk;omega
  ·exact⟨l,h1,h2.sl⟩
 obtain⟨l,rfl,hl⟩:=hwd2
 have m1:=ga.1
 have m2:=gb.1
 have m3:=gc.1
 have m4:=gd'.1
 simp only[Heap.next_alloc] at m4
 refine VD.d0 ?_ ?_ rfl ?_
 ·exact zM
 ·simp only[dcAll,dcOk,wantD,List.cons_append,List.nil_append,true_and,and_true]
  have gcd : Grow Hc Hd:=((Grow.refl Hc).alloc _).trans gd'
  have vY:=vEq4 i1 i2 i3 i4
  have vZ:=vEq4 i5 i6 i7 i8
  have zf:=And.intro z9.2<|And.intro za.2<|And.intro zb'.2<|And.intro y9.2<|And.intro ya.2<|yb'.2
  exact⟨zR,zR⟩
 refine zS ?_
 refine V.re [(18,I (if ok Y u0 then 0 else 9)),(20,I (if ok Z u0 then 0 else 9)),(21,l),(22,I 0)] (N:=100) zF zK ?_
 clear hF hA
 intro t hF hA
 simp only[Kn,and_true] at hA
 have es : ∀ (X : Heap) a b c,ylen 0 X (.slice a b c)=some (I b):=fun _ _ _ _=>rfl
 refine V.l0 ?_
 refine zS ?_
 refine V.l0 ?_
 refine zS ?_
 have ho : Ow Hd Hd 3 (.slice none 0 0) ([] : List Value):=.nil
 have g0 : Grow Hd Hd:=.refl _
 refine V.condP zP (fun q1=>?_) (fun q1=>?_)
 ·have hY : ¬ ok Y u0:=fun hh=>by rw[if_pos hh] at q1;omega
  obtain⟨w1,X1,a1,a2,a3,_,_,_,_,_⟩:=Ow.push (H0:=Hd) (bytes:=8) (r:=[I 0]) g0 ho (by simp[ok1_int]) (by simp) (by simp) (by simp)
  simp only[List.length_singleton] at a1
  refine zS ?_
  have zf:=@a1
  refine V.lz ?_
  have ho:=a2
  have g0:=a3
  refine zS ?_
  refine V.l0 ?_
  refine zS ?_
  refine V.condP zP (fun q2=>?_) (fun q2=>?_)
  ·have hZ : ¬ ok Z u0:=fun hh=>by rw[if_pos hh] at q2;omega
   obtain⟨w2,X2,a1,a2,a3,_,_,_,_,_⟩:=Ow.push (H0:=Hd) (bytes:=8) (r:=[I 1]) g0 ho (by simp[ok1_int]) (by simp) (by simp) (by simp)
   simp only[List.length_singleton] at a1
   refine zS ?_
   have zf:=@a1
   refine V.lz ?_
   have ho:=a2
   have g0:=a3
   refine zS ?_
   refine V.l0 ?_
   refine zS ?_
   refine V.condP zP (fun q3=>?_) (fun q3=>?_)
   ·clear q3
    obtain⟨w3,X3,a1,a2,a3,_,_,_,_,_⟩:=Ow.push (H0:=Hd) (bytes:=8) (r:=[I 2]) g0 ho (by simp[ok1_int]) (by simp) (by simp) (by simp)
    simp only[List.length_singleton] at a1
    refine zS ?_
    have zf:=@a1
    refine V.lz ?_
    have ho:=a2
    have g0:=a3
    refine zS ?_
    have eb : bads [Y,Z,Y] 3=[0,1,2]:=by
     simp only[bads,List.getD_cons_zero,List.getD_cons_succ,hY,hZ,if_true,if_false]
     rfl
    have ed : decide ([bads [Y,Z,Y] 3]=[[0,1,2]])=true:=by rw[eb];simp
    obtain⟨_,_,_,rfl⟩:=ho.slice
    obtain⟨_,_,_,rfl⟩:=ri.sl hl
    refine V.run ?_
    refine VI.s0 7 ?_
    simp only[ds]
    refine VI.callAT zG rfl (f29_ok (Nest1 (ri.grow ((g0.alloc _).alloc _) hl) ((Bx.new _ _ _).alloc _)) (Nest1 (l:=[0,1,2]) (ri.grow (((Grow.refl _).alloc _).alloc _) ho.sl) (Bx.new _ _ _)) (by simp) (by intro row hr;rw[List.mem_singleton.1 hr,eb];simp)) zA (fun He ge=>?_)
    have zf:=@ed
    refine VI.sz 2 ?_
    simp only[ds]
    refine VI.callAT zG rfl (f20_ok _) zA (fun Hf gf=>?_)
    refine VI.l0 ?_
    refine zS ?_
    refine V.ret (V.rets rfl (Lv.retF (by simp +contextual (disch:=first|omega|simp only[nx];omega) only[D1,cells_alloc_at,cells_alloc_ne,cells_set_at,cells_set_ne,yres,yres1,yresL,qA,qB,qC,D5,hF,hA,↓reduceIte,qD,qE];rfl) ?_))
    rfl
   ·exact absurd (if_neg hY) q3
  ·have hZ : ok Z u0:=Decidable.not_not.1 (fun hh=>q2 (if_neg hh))
   refine zS ?_
   refine V.l0 ?_
   refine zS ?_
   refine V.condP zP (fun q3=>?_) (fun q3=>?_)
   ·clear q3
    obtain⟨w3,X3,a1,a2,a3,_,_,_,_,_⟩:=Ow.push (H0:=Hd) (bytes:=8) (r:=[I 2]) g0 ho (by simp[ok1_int]) (by simp) (by simp) (by simp)
    simp only[List.length_singleton] at a1
    refine zS ?_
    have zf:=@a1
    refine V.lz ?_
    have ho:=a2
    have g0:=a3
    refine zS ?_
    have eb : bads [Y,Z,Y] 3=[0,2]:=by
     simp only[bads,List.getD_cons_zero,List.getD_cons_succ,hY,hZ,if_true,if_false]
     rfl
    have ed : decide ([bads [Y,Z,Y] 3]=[[0,2]])=true:=by rw[eb];simp
    obtain⟨_,_,_,rfl⟩:=ho.slice
    obtain⟨_,_,_,rfl⟩:=ri.sl hl
    refine V.run ?_
    refine VI.s0 7 ?_
    simp only[ds]
    refine VI.callAT zG rfl (f29_ok (Nest1 (ri.grow ((g0.alloc _).alloc _) hl) ((Bx.new _ _ _).alloc _)) (Nest1 (l:=[0,2]) (ri.grow (((Grow.refl _).alloc _).alloc _) ho.sl) (Bx.new _ _ _)) (by simp) (by intro row hr;rw[List.mem_singleton.1 hr,eb];simp)) zA (fun He ge=>?_)
    have zf:=@ed
    refine VI.sz 2 ?_
    simp only[ds]
    refine VI.callAT zG rfl (f20_ok _) zA (fun Hf gf=>?_)
    refine VI.l0 ?_
    refine zS ?_
    refine V.ret (V.rets rfl (Lv.retF (by simp +contextual (disch:=first|omega|simp only[nx];omega) only[D1,cells_alloc_at,cells_alloc_ne,cells_set_at,cells_set_ne,yres,yres1,yresL,qA,qB,qC,D5,hF,hA,↓reduceIte,qD,qE];rfl) ?_))
    rfl
   ·exact absurd (if_neg hY) q3
 ·have hY : ok Y u0:=Decidable.not_not.1 (fun hh=>q1 (if_neg hh))
  refine zS ?_
  refine V.l0 ?_
  refine zS ?_
  refine V.condP zP (fun q2=>?_) (fun q2=>?_)
  ·have hZ : ¬ ok Z u0:=fun hh=>by rw[if_pos hh] at q2;omega
   obtain⟨w2,X2,a1,a2,a3,_,_,_,_,_⟩:=Ow.push (H0:=Hd) (bytes:=8) (r:=[I 1]) g0 ho (by simp[ok1_int]) (by simp) (by simp) (by simp)
   simp only[List.length_singleton] at a1
   refine zS ?_
   have zf:=@a1
   refine V.lz ?_
   have ho:=a2
   have g0:=a3
   refine zS ?_
   refine V.l0 ?_
   refine zS ?_
   refine V.condP zP (fun q3=>?_) (fun q3=>?_)
   ·exact absurd q3 (by rw[if_pos hY];omega)
   ·clear q3
    refine zS ?_
    have eb : bads [Y,Z,Y] 3=[1]:=by
     simp only[bads,List.getD_cons_zero,List.getD_cons_succ,hY,hZ,if_true,if_false]
     rfl
    have ed : decide ([bads [Y,Z,Y] 3]=[[1]])=true:=by rw[eb];simp
    obtain⟨_,_,_,rfl⟩:=ho.slice
    obtain⟨_,_,_,rfl⟩:=ri.sl hl
    refine V.run ?_
    refine VI.s0 7 ?_
    simp only[ds]
    refine VI.callAT zG rfl (f29_ok (Nest1 (ri.grow ((g0.alloc _).alloc _) hl) ((Bx.new _ _ _).alloc _)) (Nest1 (l:=[1]) (ri.grow (((Grow.refl _).alloc _).alloc _) ho.sl) (Bx.new _ _ _)) (by simp) (by intro row hr;rw[List.mem_singleton.1 hr,eb];simp)) zA (fun He ge=>?_)
    have zf:=@ed
    refine VI.sz 2 ?_
    simp only[ds]
    refine VI.callAT zG rfl (f20_ok _) zA (fun Hf gf=>?_)
    refine VI.l0 ?_
    refine zS ?_
    refine V.ret (V.rets rfl (Lv.retF (by simp +contextual (disch:=first|omega|simp only[nx];omega) only[D1,cells_alloc_at,cells_alloc_ne,cells_set_at,cells_set_ne,yres,yres1,yresL,qA,qB,qC,D5,hF,hA,↓reduceIte,qD,qE];rfl) ?_))
    rfl
  ·have hZ : ok Z u0:=Decidable.not_not.1 (fun hh=>q2 (if_neg hh))
   refine zS ?_
   refine V.l0 ?_
   refine zS ?_
   refine V.condP zP (fun q3=>?_) (fun q3=>?_)
   ·exact absurd q3 (by rw[if_pos hY];omega)
   ·clear q3
    refine zS ?_
    have eb : bads [Y,Z,Y] 3=([] : List Int):=by
     simp only[bads,List.getD_cons_zero,List.getD_cons_succ,hY,hZ,if_true,if_false]
    have ed : decide ([bads [Y,Z,Y] 3]=[([] : List Int)])=true:=by rw[eb];simp
    obtain⟨_,_,_,rfl⟩:=ri.sl hl
    refine V.run ?_
    refine VI.s0 7 ?_
    simp only[ds]
    refine VI.callAT zG rfl (f29_ok (Nest1 (ri.grow ((g0.alloc _).alloc _) hl) ((Bx.new _ _ _).alloc _)) (Nest1 (l:=([] : List Int)) (ri.grow (((Grow.refl _).alloc _).alloc _) ho.sl) (Bx.new _ _ _)) (by simp) (by intro row hr;rw[List.mem_singleton.1 hr,eb];simp)) zA (fun He ge=>?_)
    have zf:=@ed
    refine VI.sz 2 ?_
    simp only[ds]
    refine VI.callAT zG rfl (f20_ok _) zA (fun Hf gf=>?_)
    refine VI.l0 ?_
    refine zS ?_
    refine V.ret (V.rets rfl (Lv.retF (by simp +contextual (disch:=first|omega|simp only[nx];omega) only[D1,cells_alloc_at,cells_alloc_ne,cells_set_at,cells_set_ne,yres,yres1,yresL,qA,qB,qC,D5,hF,hA,↓reduceIte,qD,qE];rfl) ?_))
    rfl
theorem f16_all {H : Heap} {c b r n c2 b2 r2' n2 x : Value} {T T' : Tb} {ws : List Int} {bits : Int} (hR : Ro H) (h : TV H c b r n T) (h' : TV H c2 b2 r2' n2 T') (hw : Sl H x (ws.map fun v=>.int .u16 v)) (hb : ∀ v∈ws,0≤v∧v≤65535) (_ : 0≤bits∧bits≤65535) : F Try.prog 16 ⟨[.agg ⟨[c,b,r,n]⟩,.agg ⟨[c2,b2,r2',n2]⟩,x,.int .u16 bits]⟩ H (fun w _=>w=.bool true):=f16_ok hR h h' ⟨hw,fun v hv=>by have:=hb v hv;omega⟩
end Go.Xe.TFX
/- Tables and truths that come in: what lies where. Conditions: none. -/
namespace Go.Xe.TFX
open Go Go.Xe Go.Proofs
open Go.Xe.Flw
abbrev shR : Sh:=.pair (.int .i64) (.pair (.int .i64) .unit)
abbrev shRs : Sh:=.slice 2 shR
abbrev shT : Sh:=.pair (.slice 1 shRs) (.pair shRs (.pair shRs (.pair shRs .unit)))
theorem rs_of {A : Heap} {cs : List Value} {y : Ty shRs} (h : Sem A shRs cs y) : ∃ v L,cs=[v]∧RS A v L:=by
 obtain⟨v,rows,rfl,h1,h2,_,h3⟩:=h
 refine⟨v,y.map fun x=>(x.1,x.2.1),rfl,?_⟩
 have e : rows=(y.map fun x=>(x.1,x.2.1)).map r2:=by
  apply List.ext_getElem
  ·simp[h2]
  ·intro k k1 k2
   have hk : k<y.length:=by omega
   obtain⟨c1,c2,e1,⟨rfl,_⟩,d1,d2,e2,⟨rfl,_⟩,e3⟩:=h3 k rows[k] y[k] (by simp) (by simp[hk])
   rw[e1,e2,e3]
   simp[r2]
 have:=h1.sw
 rw[e] at this
 exact this
theorem nest_of {α : Type} {s : Sh} {R : Heap→Value→α→Prop} {A : Heap} (hR : ∀ cs y,Sem A s cs y→∃ v L,cs=[v]∧R A v L) {cs : List Value} {y : Ty (.slice 1 s)} (h : Sem A (.slice 1 s) cs y) : ∃ v L,cs=[v]∧Nest R A v L:=by
 obtain⟨v,rows,rfl,h1,h2,_,h3⟩:=h
 obtain⟨Z,hz1,hz2⟩:=list_of (α:=Value×α) (p:=fun i x=>rows[i]?=some [x.1]∧R A x.1 x.2) rows.length (fun i hi=>by
  have hk : i<(y : List (Ty s)).length:=by omega
  obtain⟨v,L,e,hr⟩:=hR _ _ (h3 i rows[i] ((y : List (Ty s))[i]) (by simp) (by simp[hk]))
  exact⟨(v,L),by simp[hi,e],hr⟩)
 refine⟨v,Z.map (·.2),rfl,Z.map (·.1),?_,by simp,?_⟩
 ·have e : rows=(Z.map (·.1)).map fun x=>[x]:=by
   apply List.ext_getElem
   ·simp[hz1]
   ·intro k k1 k2
    have:=(hz2 k Z[k] (by simp[hz1,k1])).1
    rw[List.getElem?_eq_getElem k1,Option.some.injEq] at this
    rw[this]
    simp
  rw[e] at h1
  exact h1.one
 ·intro k x r hx hr
  rw[List.getElem?_map] at hx hr
  cases hq : Z[k]? with
  | none=>rw[hq] at hx;cases hx
  | some q=>
   rw[hq] at hx hr
   cases hx;cases hr
   exact (hz2 k q hq).2
theorem tv_of {A : Heap} {l : List Value} {y : Ty shT} (h : Sem A shT l y) : ∃ c b r n T,l=[c,b,r,n]∧TV A c b r n T:=by
 obtain⟨c1,c2,rfl,h1,d1,d2,rfl,h2,e1,e2,rfl,h3,f1,f2,rfl,h4,h5⟩:=h
 obtain⟨c,C,rfl,hc⟩:=nest_of (R:=RS) (fun cs y h=>rs_of h) h1
 obtain⟨b,B,rfl,hb⟩:=rs_of h2
 obtain⟨r,Rt,rfl,hr⟩:=rs_of h3
 obtain⟨n,N,rfl,hn⟩:=rs_of h4
 have h5' : f2=[]:=h5
 subst h5'
 exact⟨c,b,r,n,⟨C,B,Rt,N⟩,rfl,hc,hb,hr,hn⟩
end Go.Xe.TFX
/- Rules of reasoning over the executable reading of the model's code (part Z16): arguments, by what their types allow. Conditions: none; for every program. -/
namespace Go.Xe
open Go Go.RowKit Go.ChangeShapes Go.WideShapes
theorem okWide_agg {P : Program} {w : World} {r : Reach} {base : Nat} {t : TypeId} {v : Value} {fs : Array Field} (ht : P.underlying t=some (.struct fs)) (h : Value.okWide P w r base t v) : ∃ cs,v=.agg cs:=by
 unfold Value.okWide at h
 rw[ht] at h
 obtain⟨cs,h,_⟩:=h
 exact⟨cs,h⟩
end Go.Xe
/- The end of a call that has changed nothing of what was there: what a statement asks of the memory behind it. Conditions: as post_of_same's, but that new memory may be frozen. -/
namespace Go.Xe
open Go Go.RowKit Go.ChangeShapes Go.WideShapes
variable {H : Type} {enc : TypeId×Value→H} {P : Program}
theorem post_of_old {f : Func} {s : ChangeSpec} {apart fresh handsOn again : Bool} {W W' : World} {args : Array Value} {v : Value} {ds gs : List (DataW H)} {before pa pv : List MemPlace}
  (hW : DataW.Whole enc P f.params.toList s.vars apart W args.toList ds gs before)
  (hres : ∀ (b : Nat) (sp : Nat→Bool) (hd : Bool),DataW.TrodAll enc P W' b sp hd f.resultTypes.toList (v.resultList f.resultTypes.size) (s.fn H (ds++gs)).results [])
  (hargs : ∀ sp : Nat→Bool,(∀ p∈before,sp p.block=true)→DataW.TrodAll enc P W' 0 sp true f.params.toList args.toList (s.fn H (ds++gs)).args pa)
  (hvars : ∀ sp : Nat→Bool,(∀ p∈before,sp p.block=true)→DataW.TrodVars enc P W' sp s.vars (s.fn H (ds++gs)).vars pv)
  (hps : before=pa++pv) (hk : W.keptBut W' (·∈before)) (hfz : ∀ a : Addr,a.block<W.heap.size→W'.frozen? a=W.frozen? a)
  (hok : ∀ (j : Nat) (t : TypeId) (r : Value),f.resultTypes[j]?=some t→(v.resultList f.resultTypes.size)[j]?=some r→Value.okWide P W' .any 0 t r) :
  s.post enc P f apart fresh handsOn again W args v W':=by
 have old : ∀ p∈before,p.block<W.heap.size:=fun p hp=>hW.lt p hp
 have hold : ∀ p∈before,(fun b=>decide (b<W.heap.size)) p.block=true:=fun p hp=>by simpa using old p hp
 subst hps
 refine⟨ds,gs,_,[],pa,pv,hW,hres _ _ _,hargs _ hold,hvars _ hold,World.keptBut_mono (fun p hp=>⟨hp,.inr (List.mem_append.1 hp)⟩) hk,fun _=>?_⟩
 obtain⟨_,_,_,_,_,hz,hn⟩:=hW
 refine⟨hok,_,_,([]++pa)++pv,⟨[]++pa,pv,trodAll_append (hargs _ (fun _ _=>rfl)) (hres _ _ _),hvars _ (fun _ _=>rfl),rfl,?_,?_⟩,?_⟩
 ·intro b off hp
  have hp' : MemPlace.cell b off∈pa++pv:=by simpa using hp
  rw[hfz _ (old _ hp')]
  exact hz b off hp'
 ·intro ha
  simpa using hn ha
 ·intro p hp _
  simpa using hp
end Go.Xe
