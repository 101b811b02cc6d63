/- What the functions of the layer round come to: rows and columns exchanged (RoundTurned). Conditions: none. -/
import Derived.Test.YtimnlnfpblomnaaTTQ
import Derived.Test.YtimnlnfpblomnaaZl
import Derived.WideShapes
import Derived.ChangeSame
import Derived.Below
-- MOD TR
namespace Go.Xe.TRX
open Go Go.Xe Go.Proofs
open Nat renaming reduceLeDiff → qA, reduceSub → qB, reduceAdd → qC, reduceEqDiff → qD, reduceLT → qE
open Int renaming reduceNegSucc → qF, reduceEq → qG
open Go.Xe.V renaming seq → sA, block → sB, scope → sC, skip → sD, close → sE
open Go.Xe renaming pth → P
open Go.Xe.Rnd
set_option maxRecDepth 100000
set_option maxHeartbeats 1600000
set_option linter.unusedSimpArgs false
noncomputable def d12 : FCode:=(.seq (.run (.go (.box 25 (tm 0)) (P 1)::
.go (.move (.con (.bool false))) (P 2)::
[])) (.seq (.seq (.run (.go (.loadN 3 (tm 1)) (P 18)::
.go (.call (.con (.func (.func 41) ⟨[]⟩ ⟨[]⟩)) [tm 18]) (P 19)::
.go (.un .not (tm 19)) (P 20)::
.go (.move (tm 20)) (P 21)::
.gd (P 21) false (.fieldAddr 1 (tm 1)) (P 22)::
.gd (P 21) false (.load1 (tm 22)) (P 23)::
.gd (P 21) false (.len 0 (tm 23)) (P 24)::
.gd (P 21) false (.bin .gtr 3 (tm 24) (.con (.int .i64 (.ofNat 4)))) (P 25)::
.go (.pick (tm 21) (.con (.bool true)) (tm 25)) (P 26)::
[])) (.cond (tm 26) (.seq (.run (.go (.call (.con (.func (.func 17) ⟨[]⟩ ⟨[]⟩)) []) (P 27)::
.go (.move (tm 27)) (P 2)::
[])) .ret) .skip)) (.seq (.run (.go (.fieldAddr 0 (tm 1)) (P 28)::
.go (.load1 (tm 28)) (P 29)::
.go (.build [(.int .i64 (.ofNat 0)),(.slice none 0 0),(.slice none 0 0)] [(0,1,(tm 29))]) (P 30)::
.go (.alloc 25 [(.int .i64 (.ofNat 0)),(.slice none 0 0),(.slice none 0 0)]) (P 3)::
.un (.store 3 (tm 3) (tm 30))::
[])) (.seq (.seq (.run (.go (.move (.con (.int .i64 (.ofNat 0)))) (P 4)::
[])) (.block 0 (.loop (.seq (.seq (.run (.go (.move (tm 4)) (P 31)::
.go (.loadN 3 (tm 1)) (P 32)::
.go (.call (.con (.func (.func 44) ⟨[]⟩ ⟨[]⟩)) [tm 32]) (P 33)::
.go (.bin .lss 3 (tm 31) (tm 33)) (P 34)::
[])) (.cond (tm 34) .skip (.exit 0))) (.seq (.block 1 (.seq (.run (.go (.move (.con (.slice none 0 0))) (P 5)::
[])) (.seq (.seq (.run (.go (.move (.con (.int .i64 (.ofNat 0)))) (P 6)::
[])) (.block 2 (.loop (.seq (.seq (.run (.go (.move (tm 6)) (P 37)::
.go (.fieldAddr 1 (tm 1)) (P 38)::
.go (.load1 (tm 38)) (P 39)::
.go (.len 0 (tm 39)) (P 40)::
.go (.bin .lss 3 (tm 37) (tm 40)) (P 41)::
[])) (.cond (tm 41) .skip (.exit 2))) (.seq (.block 3 (.run (.go (.move (tm 5)) (P 44)::
.go (.fieldAddr 1 (tm 1)) (P 45)::
.go (.load1 (tm 45)) (P 46)::
.go (.move (tm 6)) (P 47)::
.go (.indexAddr none 1 (tm 46) (tm 47)) (P 48)::
.go (.load1 (tm 48)) (P 49)::
.go (.move (tm 4)) (P 50)::
.go (.indexAddr none 1 (tm 49) (tm 50)) (P 51)::
.go (.load1 (tm 51)) (P 52)::
.go (.buildSlice 3 1 [(.int .i64 (.ofNat 0))] [(0,1,(tm 52))]) (P 53)::
.go (.append 3 1 8 (tm 44) (tm 53)) (P 54)::
.go (.move (tm 54)) (P 5)::
[]))) (.run (.go (.move (tm 6)) (P 42)::
.go (.bin .add 3 (tm 42) (.con (.int .i64 (.ofNat 1)))) (P 43)::
.go (.move (tm 43)) (P 6)::
[]))))))) (.run (.go (.fieldAddr 1 (tm 3)) (P 55)::
.go (.load1 (tm 55)) (P 56)::
.go (.move (tm 5)) (P 57)::
.go (.buildSlice 41 1 [(.slice none 0 0)] [(0,1,(tm 57))]) (P 58)::
.go (.append 41 1 24 (tm 56) (tm 58)) (P 59)::
.go (.fieldAddr 1 (tm 3)) (P 60)::
.un (.store 1 (tm 60) (tm 59))::
[]))))) (.run (.go (.move (tm 4)) (P 35)::
.go (.bin .add 3 (tm 35) (.con (.int .i64 (.ofNat 1)))) (P 36)::
.go (.move (tm 36)) (P 4)::
[]))))))) (.seq (.seq (.run (.go (.move (.con (.int .i64 (.ofNat 0)))) (P 7)::
[])) (.block 4 (.loop (.seq (.seq (.run (.go (.move (tm 7)) (P 61)::
.go (.fieldAddr 2 (tm 1)) (P 62)::
.go (.load1 (tm 62)) (P 63)::
.go (.len 0 (tm 63)) (P 64)::
.go (.bin .lss 3 (tm 61) (tm 64)) (P 65)::
[])) (.cond (tm 65) .skip (.exit 4))) (.seq (.block 5 (.draw 25 (.go (.fieldAddr 2 (tm 3)) (P 68)::
.go (.load1 (tm 68)) (P 69)::
.go (.fieldAddr 2 (tm 1)) (P 70)::
.go (.load1 (tm 70)) (P 71)::
.go (.move (tm 7)) (P 72)::
.go (.indexAddr none 3 (tm 71) (tm 72)) (P 73)::
.go (.fieldAddr 1 (tm 73)) (P 74)::
.go (.load1 (tm 74)) (P 75)::
.go (.fieldAddr 2 (tm 1)) (P 76)::
.go (.load1 (tm 76)) (P 77)::
.go (.move (tm 7)) (P 78)::
.go (.indexAddr none 3 (tm 77) (tm 78)) (P 79)::
.go (.fieldAddr 0 (tm 79)) (P 80)::
.go (.load1 (tm 80)) (P 81)::
.go (.fieldAddr 2 (tm 1)) (P 82)::
.go (.load1 (tm 82)) (P 83)::
.go (.move (tm 7)) (P 84)::
.go (.indexAddr none 3 (tm 83) (tm 84)) (P 85)::
.go (.fieldAddr 2 (tm 85)) (P 86)::
.go (.load1 (tm 86)) (P 87)::
.go (.build [(.int .i64 (.ofNat 0)),(.int .i64 (.ofNat 0)),(.int .i64 (.ofNat 0))] [(0,1,(tm 75)),(1,1,(tm 81)),(2,1,(tm 87))]) (P 88)::
.go (.buildSlice 76 1 [(.int .i64 (.ofNat 0)),(.int .i64 (.ofNat 0)),(.int .i64 (.ofNat 0))] [(0,3,(tm 88))]) (P 89)::
.go (.append 76 3 24 (tm 69) (tm 89)) (P 90)::
.go (.fieldAddr 2 (tm 3)) (P 91)::
.un (.store 1 (tm 91) (tm 90))::
[]) [.ok,.rd none (.load1 (tm 68)) (some (P 69)) [22],.ok,.ok,.ok,.ok,.ok,.ok,.ok,.ok,.ok,.ok,.ok,.ok,.ok,.ok,.ok,.ok,.ok,.ok,.ok,.ok,.ok,.ok,.ok])) (.run (.go (.move (tm 7)) (P 66)::
.go (.bin .add 3 (tm 66) (.con (.int .i64 (.ofNat 1)))) (P 67)::
.go (.move (tm 67)) (P 7)::
[]))))))) (.seq (.run (.go (.loadN 3 (tm 1)) (P 93)::
.go (.call (.con (.func (.func 19) ⟨[]⟩ ⟨[]⟩)) [tm 93]) (P 94)::
.go (.call (.con (.func (.func 29) ⟨[]⟩ ⟨[]⟩)) [tm 94]) (P 95)::
.go (.move (tm 95)) (P 92)::
.go (.extract (tm 92) 0) (P 96)::
.go (.extract (tm 92) 1) (P 97)::
.go (.extract (tm 92) 2) (P 98)::
.go (.move (tm 96)) (P 8)::
.go (.move (tm 97)) (P 9)::
.go (.move (tm 98)) (P 10)::
[])) (.seq (.run (.go (.loadN 3 (tm 3)) (P 100)::
.go (.call (.con (.func (.func 19) ⟨[]⟩ ⟨[]⟩)) [tm 100]) (P 101)::
.go (.call (.con (.func (.func 29) ⟨[]⟩ ⟨[]⟩)) [tm 101]) (P 102)::
.go (.move (tm 102)) (P 99)::
.go (.extract (tm 99) 0) (P 103)::
.go (.extract (tm 99) 1) (P 104)::
.go (.extract (tm 99) 2) (P 105)::
.go (.move (tm 103)) (P 11)::
.go (.move (tm 104)) (P 12)::
.go (.move (tm 105)) (P 13)::
[])) (.seq (.run (.go (.loadN 3 (tm 1)) (P 107)::
.go (.call (.con (.func (.func 19) ⟨[]⟩ ⟨[]⟩)) [tm 107]) (P 108)::
.go (.call (.con (.func (.func 30) ⟨[]⟩ ⟨[]⟩)) [tm 108]) (P 109)::
.go (.move (tm 109)) (P 106)::
.go (.extract (tm 106) 0) (P 110)::
.go (.extract (tm 106) 1) (P 111)::
.go (.move (tm 110)) (P 14)::
.go (.move (tm 111)) (P 15)::
[])) (.seq (.run (.go (.loadN 3 (tm 3)) (P 113)::
.go (.call (.con (.func (.func 19) ⟨[]⟩ ⟨[]⟩)) [tm 113]) (P 114)::
.go (.call (.con (.func (.func 30) ⟨[]⟩ ⟨[]⟩)) [tm 114]) (P 115)::
.go (.move (tm 115)) (P 112)::
.go (.extract (tm 112) 0) (P 116)::
.go (.extract (tm 112) 1) (P 117)::
.go (.move (tm 116)) (P 16)::
.go (.move (tm 117)) (P 17)::
[])) (.seq (.run (.go (.move (tm 10)) (P 118)::
.go (.move (tm 13)) (P 119)::
.go (.bin .eql 29 (tm 118) (tm 119)) (P 120)::
.go (.move (tm 120)) (P 121)::
.gd (P 121) true (.move (tm 9)) (P 122)::
.gd (P 121) true (.move (tm 12)) (P 123)::
.gd (P 121) true (.bin .eql 3 (tm 122) (tm 123)) (P 124)::
.go (.pick (tm 121) (tm 124) (.con (.bool false))) (P 125)::
.go (.move (tm 125)) (P 126)::
.gd (P 126) true (.move (tm 15)) (P 127)::
.gd (P 126) true (.bin .eql 29 (tm 127) (.con (.int .i64 (.ofNat 0)))) (P 128)::
.go (.pick (tm 126) (tm 128) (.con (.bool false))) (P 129)::
.go (.move (tm 129)) (P 130)::
.gd (P 130) true (.move (tm 17)) (P 131)::
.gd (P 130) true (.bin .eql 29 (tm 131) (.con (.int .i64 (.ofNat 0)))) (P 132)::
.go (.pick (tm 130) (tm 132) (.con (.bool false))) (P 133)::
.go (.move (tm 133)) (P 134)::
.gd (P 134) true (.move (tm 14)) (P 135)::
.gd (P 134) true (.move (tm 16)) (P 136)::
.gd (P 134) true (.bin .eql 3 (tm 135) (tm 136)) (P 137)::
.go (.pick (tm 134) (tm 137) (.con (.bool false))) (P 138)::
.go (.move (tm 138)) (P 139)::
.gd (P 139) true (.call (.con (.func (.func 17) ⟨[]⟩ ⟨[]⟩)) []) (P 140)::
.go (.pick (tm 139) (tm 140) (.con (.bool false))) (P 141)::
.go (.move (tm 141)) (P 2)::
[])) .ret))))))))))
theorem de12 : @compF Try.prog (Gl.none Try.prog) Try.f12 1=.mk d12 (mkTT 142) [(P 0)] [.tmp (P 2)]:=by kernel_rfl
theorem dg12 : Try.prog.funcs[12]?=some Try.f12:=Try.func12
theorem do12 : okF Try.prog Try.f12=true:=by kernel_rfl
theorem turT_len (T : Tb) : (turT T).C.length=cols T:=trp_len _ _
theorem turT_take {T : Tb} {j : Nat} (h : j<cols T) : (turT T).C.take (j+1)=(turT T).C.take j++[T.C.map fun row=>row.getD j 0]:=by
 have hj : j<(turT T).C.length:=by rw[turT_len];exact h
 rw[tk1n hj]
 have e:=trp_row (N:=T.C) h
 have hj' : j<(trp (cols T) T.C).length:=hj
 rw[gdl hj'] at e
 show _++[(trp (cols T) T.C)[j]]=_
 rw[e]
theorem f12_ok {H : Heap} {c f : Value} {T : Tb} (h : TV H c f T) : F Try.prog 12 ⟨[.agg ⟨[I T.b,c,f]⟩]⟩ H (fun w _=>w=.bool true):=by
 have hcl : ∀ X,ylen 0 X c=some (I T.C.length):=h.c.len
 have hfll:=h.fl
 refine F.entryL rfl dg12 do12 de12 rfl (by kernel_rfl) ?_
 simp only[sets]
 refine V.re [(0,.agg ⟨[I T.b,c,f]⟩)] (N:=142) zE zY ?_
 intro t hF hA
 simp only[Kn,and_true] at hA
 refine zS ?_
 refine V.l0 ?_
 refine V.heap (fun X=>Grow H X∧Bx X H.next [I T.b,c,f] 25) ⟨?_,?_⟩ ?_
 ·exact zW
 ·exact zB
 rintro H1 ⟨g1,b1⟩
 have n1:=b1.1
 refine zS ?_
 refine V.run ?_
 have zf:=b1.2
 refine VI.sz 1 ?_
 simp only[ds]
 refine VI.callA rfl (f41_ok (h.grow g1)) zA (fun H2 g2=>?_)
 have b2:=b1.grow g2
 have g12:=g1.trans g2
 have n2:=g2.1
 have zf:=And.intro b2.2<|@hcl
 refine VI.lz ?_
 refine zS ?_
 refine V.condP zP (fun hs=>?_) (fun hs=>?_)
 ·refine zS ?_
  refine V.run ?_
  refine VI.callA rfl (f17_ok _) zA (fun H3 g3=>?_)
  refine VI.l0 ?_
  refine zS ?_
  refine V.ret (V.rets rfl (Lv.retF (by simp +contextual (disch:=first|omega|simp only[nx];omega) only[D1,cells_alloc_at,cells_alloc_ne,cells_set_at,cells_set_ne,yres,yres1,yresL,qA,qB,qC,D5,hF,hA,↓reduceIte,qD,qE];rfl) ?_))
  rfl
 have hs' : snd T∧T.C.length≤4:=by
  refine⟨Decidable.by_contra (fun e=>hs (.inl e)),?_⟩
  apply Decidable.by_contra
  intro e
  exact hs (.inr (by omega))
 obtain⟨⟨hth,hfl⟩,hC4⟩:=hs'
 obtain⟨hf,hv⟩:=flt_0.1 hfl
 have hb:=hv.1
 obtain⟨hf',hv'⟩:=turT_ok hf hv hC4
 have hc4:=cols_le hf
 have hF10:=hf.2.1
 refine zS ?_
 have zf:=b2.2
 refine V.lz ?_
 refine V.heap (fun X=>Grow H2 X∧Bx X H2.next [I T.b,.slice none 0 0,.slice none 0 0] 25) ⟨?_,?_⟩ ?_
 ·exact ((Grow.refl H2).alloc _).set (Nat.le_refl _) _
 ·exact⟨by simp only[Heap.next_set,Heap.next_alloc];omega,cells_set _ _ _ _ _⟩
 rintro H3 ⟨g3,x3⟩
 have n3:=x3.1
 have b3:=b2.grow g3
 have g13:=g12.trans g3
 refine zS ?_
 refine V.l0 ?_
 refine zS ?_
 refine V.loop (fun z t m X=>∃ (j : Nat) (s : Value),j≤cols T∧z=cols T-j∧m=[]∧GrowS (·=H2.next) H3 X∧Bx X H2.next [I T.b,s,.slice none 0 0] 25∧OwN (From RI H3.next) H3 X 41 s ((turT T).C.take j)∧Full 142 t∧Kn [(1,PT H.next),(3,PT H2.next),(4,I j)] t) (cols T) ?_ ?_
 ·exact⟨0,_,by omega,by omega,rfl,.refl _,x3,by rw[List.take_zero];exact .nil,zF,zK⟩
 clear hF hA
 rintro z t m X ⟨j,s,hj,rfl,rfl,hg,hx,os,hF,hA⟩
 simp only[Kn,and_true] at hA
 have bX:=b3.growS hg (by omega)
 have mX:=hg.1
 have gX : Grow H X:=⟨by have:=g13.1;omega,fun i hi=>by rw[hg.2 i (by omega) (by omega),g13.2 i hi]⟩
 refine zS ?_
 refine V.run ?_
 have zf:=bX.2
 refine VI.sz 2 ?_
 simp only[ds]
 refine VI.callA rfl (f44_ok (h.grow gX)) zA (fun X1 gX1=>?_)
 have bX1:=bX.grow gX1
 have mX1:=gX1.1
 have hx1:=hx.grow gX1
 have os1:=os.keep (ri.from _) gX1
 have gHX1:=gX.trans gX1
 refine VI.l0 ?_
 refine zS ?_
 refine V.condP zP (fun hlt=>?_) (fun hlt=>?_)
 ·have hj' : j<cols T:=by omega
  refine zS ?_
  refine V.l0 ?_
  refine zS ?_
  refine V.l0 ?_
  refine zS ?_
  refine V.loop (fun z t m Y=>∃ (k : Nat) (v : Value),k≤T.C.length∧z=T.C.length-k∧m=[]∧Grow X1 Y∧Ow X1 Y 3 v (Li ((T.C.take k).map fun row=>row.getD j 0))∧Full 142 t∧Kn [(1,PT H.next),(3,PT H2.next),(4,I j),(5,v),(6,I k)] t) T.C.length ?_ ?_
  ·exact⟨0,_,by omega,by omega,rfl,.refl _,.nil,zF,zK⟩
  clear hF hA
  rintro z t m Y ⟨k,v,hk,rfl,rfl,hgY,ov,hF,hA⟩
  simp only[Kn,and_true] at hA
  have gY:=gHX1.trans hgY
  have bY:=bX1.grow hgY
  have xY:=hx1.grow hgY
  have mY:=hgY.1
  refine zS ?_
  have zf:=And.intro bY.2<|@hcl
  refine V.lz ?_
  refine zS ?_
  refine V.condP zP (fun hlk=>?_) (fun hlk=>?_)
  ·have hk' : k<T.C.length:=by omega
   obtain⟨p,u,hp,hu⟩:=h.c.at ri hk'
   have hpk:=hp .i64
   obtain⟨hu1,hu2⟩:=hu Y gY
   have hrow:=hv.2.2.1 _ (List.getElem_mem hk')
   have hjl : j<(T.C[k]).length:=by rw[hrow.1];exact hj'
   obtain⟨w,hw,hww⟩:=hu2.at hjl
   have hw1:=hww Y (.refl _)
   obtain⟨v',Y',e1,o1,k1,_,m1,_⟩:=Ow.pushB (bytes:=8) (r:=[I (T.C[k])[j]]) hgY.1 ov rfl (by simp) (by rw[Li_len,List.length_map,List.length_take];simp only[List.length_cons,List.length_nil];omega) (by rw[Li_len,List.length_map,List.length_take];simp only[List.length_cons,List.length_nil];omega)
   obtain⟨pv,nv,cv,rfl⟩:=ov.sl.isS
   obtain⟨pv',nv',cv',rfl⟩:=o1.sl.isS
   have e1':=e1
   simp only[List.length_cons,List.length_nil] at e1'
   refine zS ?_
   have zf:=And.intro bY.2<|And.intro @hpk<|And.intro @hu1<|And.intro @hw<|And.intro @hw1<|@e1'
   refine V.lz ?_
   refine zS ?_
   refine V.l0 ?_
   refine V.nil (Or.inl ⟨rfl,T.C.length-(k+1),by omega,?_⟩)
   refine⟨k+1,_,hk',rfl,rfl,k1.grow hgY (Nat.le_refl _),?_,zF,zK⟩
   have e2 : Li ((T.C.take (k+1)).map fun row=>row.getD j 0)=Li ((T.C.take k).map fun row=>row.getD j 0)++[I (T.C[k])[j]]:=by
    rw[tk1n hk',List.map_append,Li_app]
    congr 1
    show [I ((T.C[k]).getD j 0)]=_
    rw[List.getD_eq_getElem?_getD,List.getElem?_eq_getElem hjl]
    rfl
   rw[e2];exact o1
  ·obtain rfl : k=T.C.length:=by omega
   rw[List.take_length] at ov
   refine V.exit ?_
   refine zX ?_
   refine V.nil (Or.inr ⟨by simp,?_⟩)
   refine zX ?_
   have osY:=os1.keep (ri.from _) hgY
   have hy : From RI H3.next Y v (T.C.map fun row=>row.getD j 0):=⟨ow_ri ov,fun i hi=>Nat.le_trans (Nat.le_trans mX mX1) (ov.from i hi)⟩
   obtain⟨s',Y2,e1,o2,k2,_,m2,_⟩:=OwN.pushB (ri.from _) (bytes:=24) (by omega) osY hy (os1.sepNew (Nat.le_refl _) ov.from) (by rw[List.length_take];omega) (by rw[List.length_take];omega)
   obtain⟨pv,nv,cv,rfl⟩:=ov.sl.isS
   obtain⟨pS,nS,cS,rfl⟩:=osY.nest.isS
   obtain⟨pS2,nS2,cS2,rfl⟩:=o2.nest.isS
   have xA:=(xY.alloc (.cells ⟨[.slice pv nv cv]⟩ 41 true)).2
   have x2:=k2.bx xY (by omega)
   refine zS ?_
   have zf:=And.intro xY.2<|And.intro @xA<|And.intro x2.2<|@e1
   refine V.lz ?_
   refine V.heap (fun Z=>GrowS (·=H2.next) H3 Z∧Bx Z H2.next [I T.b,.slice pS2 nS2 cS2,.slice none 0 0] 25∧OwN (From RI H3.next) H3 Z 41 (.slice pS2 nS2 cS2) ((turT T).C.take (j+1))) ⟨?_,?_,?_⟩ ?_
   ·refine⟨by have:=k2.1;simp only[Heap.next_set];omega,fun i hi hne=>?_⟩
    rw[Heap.get_set,if_neg hne,k2.2 i hi,hgY.2 i (by omega),gX1.2 i (by omega),hg.2 i hi hne]
   ·exact⟨by simp only[Heap.next_set];exact x2.1,cells_set _ _ _ _ _⟩
   ·rw[turT_take hj']
    exact o2.loc ri (by simp only[Heap.next_set];exact Nat.le_refl _) (fun i hi=>by rw[Heap.get_set,if_neg (by omega)])
   rintro Z ⟨z1,z2,z3⟩
   refine zS ?_
   refine V.l0 ?_
   refine V.nil (Or.inl ⟨rfl,cols T-(j+1),by omega,?_⟩)
   exact⟨j+1,_,by omega,by omega,rfl,z1,z2,z3,zF,zK⟩
 ·obtain rfl : j=cols T:=by omega
  have e0 : (turT T).C.take (cols T)=(turT T).C:=List.take_of_length_le (by rw[turT_len];exact Nat.le_refl _)
  rw[e0] at os1
  obtain⟨psC,nsC,csC,rfl⟩:=os1.nest.isS
  have hloc:=os1.locP ri
  have gs1 : GrowS (·=H2.next) H3 X1:=hg.trans gX1.s
  refine V.exit ?_
  refine zX ?_
  refine V.nil (Or.inr ⟨by simp,?_⟩)
  refine zX ?_
  refine zS ?_
  refine V.l0 ?_
  refine zS ?_
  refine V.loop (fun z t m Y=>∃ (k : Nat) (sF : Value),k≤T.F.length∧z=T.F.length-k∧m=[]∧GrowS (·=H2.next) X1 Y∧Bx Y H2.next [I T.b,.slice psC nsC csC,sF] 25∧OwW 3 X1 Y 76 sF (((T.F.map swp).take k).map r3)∧Full 142 t∧Kn [(1,PT H.next),(3,PT H2.next),(7,I k)] t) T.F.length ?_ ?_
  ·exact⟨0,_,by omega,by omega,rfl,.refl _,hx1,.nil,zF,zK⟩
  clear hF hA
  rintro z t m Y ⟨k,sF,hk,rfl,rfl,hgY,xY,oF,hF,hA⟩
  simp only[Kn,and_true] at hA
  have bY:=bX1.growS hgY (by omega)
  have mY:=hgY.1
  have gY : Grow H Y:=⟨by have:=gHX1.1;omega,fun i hi=>by rw[hgY.2 i (by have:=gHX1.1;omega) (by omega),gHX1.2 i hi]⟩
  refine zS ?_
  have zf:=And.intro bY.2<|@hfll
  refine V.lz ?_
  refine zS ?_
  refine V.condP zP (fun hlf=>?_) (fun hlf=>?_)
  ·have hk' : k<T.F.length:=by omega
   obtain⟨i0,o0,hp,hx0⟩:=(h.grow gY).f.at2 (w:=3) (by decide) (k:=k) (x:=r3 T.F[k]) (by rw[List.getElem?_map,List.getElem?_eq_getElem hk'];rfl)
   have hpk:=hp .i64
   have l0:=(hx0 Y (.refl _)).2 0 _ rfl
   have l1:=(hx0 Y (.refl _)).2 1 _ rfl
   have l2:=(hx0 Y (.refl _)).2 2 _ rfl
   have hw3 : ∀ x∈((T.F.map swp).take k).map r3,x.length=3:=fun x hx=>by obtain⟨y,_,rfl⟩:=List.mem_map.1 hx;rfl
   obtain⟨sF',Y',e1,o1,k1,_,m1,c1⟩:=OwW.pushB (bytes:=24) (w:=3) (x:=r3 (swp T.F[k])) (by decide) hgY.1 oF hw3 rfl rfl (by rw[List.length_map,List.length_take,List.length_map];omega) (by rw[List.length_map,List.length_take,List.length_map];omega)
   have l0' : yload1 Y (.pointer (some ⟨i0,o0,none⟩))=some (I T.F[k].1):=l0
   obtain⟨pF,nF,cF,rfl⟩:=(oF.sw hw3).isS
   obtain⟨pF',nF',cF',rfl⟩ : ∃ a b c,sF'=.slice a b c:=by
    rcases o1 with⟨e,_⟩|⟨i,_,_,e,_⟩<;>exact⟨_,_,_,e⟩
   have e1' : yappend 76 3 24 (Y.alloc (.cells ⟨[I T.F[k].2.1,I T.F[k].1,I T.F[k].2.2]⟩ 76 true)) (.slice pF nF cF) (.slice (some ⟨Y.next,0,none⟩) 1 1)=some (.slice pF' nF' cF',Y'):=e1
   have xA:=(xY.alloc (.cells ⟨[I T.F[k].2.1,I T.F[k].1,I T.F[k].2.2]⟩ 76 true)).2
   have x2:=k1.bx xY (by omega)
   refine zS ?_
   have zf:=And.intro xY.2<|And.intro bY.2<|And.intro @hpk<|And.intro @l0<|And.intro @l0'<|And.intro @l1<|And.intro @l2<|And.intro @e1'<|x2.2
   refine V.dz ?_ ?_ rfl ?_
   ·exact zM
   ·simp only[dcAll,dcOk,wantD,List.cons_append,List.nil_append,true_and,and_true]
    have zf:=And.intro xY.2<|And.intro @xA<|x2.2
    exact zR
   refine V.heap (fun Z=>GrowS (·=H2.next) X1 Z∧Bx Z H2.next [I T.b,.slice psC nsC csC,.slice pF' nF' cF'] 25∧OwW 3 X1 Z 76 (.slice pF' nF' cF') (((T.F.map swp).take (k+1)).map r3)) ⟨?_,?_,?_⟩ ?_
   ·refine⟨by have:=k1.1;simp only[Heap.next_set];omega,fun i hi hne=>?_⟩
    rw[Heap.get_set,if_neg hne,k1.2 i hi,hgY.2 i hi hne]
   ·exact⟨by simp only[Heap.next_set];exact x2.1,cells_set _ _ _ _ _⟩
   ·have e3 : ((T.F.map swp).take (k+1)).map r3=((T.F.map swp).take k).map r3++[r3 (swp T.F[k])]:=by
     have hk2 : k<(T.F.map swp).length:=by rw[List.length_map];exact hk'
     rw[tk1 hk2,List.map_append,List.getElem_map]
     rfl
    rw[e3]
    exact o1.loc (by simp only[Heap.next_set];exact Nat.le_refl _) (fun i hi=>by rw[Heap.get_set,if_neg (by omega)])
   rintro Z ⟨z1,z2,z3⟩
   refine zS ?_
   refine V.l0 ?_
   refine V.nil (Or.inl ⟨rfl,T.F.length-(k+1),by omega,?_⟩)
   exact⟨k+1,_,by omega,by omega,rfl,z1,z2,z3,zF,zK⟩
  ·obtain rfl : k=T.F.length:=by omega
   have e4 : (T.F.map swp).take T.F.length=T.F.map swp:=List.take_of_length_le (by simp)
   rw[e4] at oF
   have hw3 : ∀ x∈(T.F.map swp).map r3,x.length=3:=fun x hx=>by obtain⟨y,_,rfl⟩:=List.mem_map.1 hx;rfl
   refine V.exit ?_
   refine zX ?_
   refine V.nil (Or.inr ⟨by simp,?_⟩)
   refine zX ?_
   have tvY : TV Y (.slice psC nsC csC) sF (turT T):=⟨hloc Y hgY.1 (fun i h1 h2=>hgY.2 i h2 (by omega)),oF.sw hw3⟩
   have hsh:=thin_sh hth
   have hsh' : sh (turT T):=⟨by have:=hf'.1;omega,fun row hr=>by have:=hf'.2.2 row hr;omega,by have:=hf'.2.1;omega⟩
   have hfl' : flt (turT T)=0:=flt_0.2 ⟨hf',hv'⟩
   obtain⟨t1,t2⟩:=turT_eq hf hv hC4
   have tvB : turT T=⟨T.b,(turT T).C,(turT T).F⟩:=rfl
   refine zS ?_
   refine V.run ?_
   have zf:=bY.2
   refine VI.sz 1 ?_
   simp only[ds]
   refine VI.callR zA (f19_ok (h.grow gY) hsh) zA (fun w5 H5 ⟨g5,c5,f5,hw5,tv5⟩=>?_)
   subst hw5
   refine VI.callR zA (f29_ok tv5 hsh) zA (fun w6 H6 ⟨g6,ua,na,ea,hw6,hba⟩=>?_)
   subst hw6
   have g56:=g5.trans g6
   have b6:=bY.grow g56
   have x6:=xY.grow g56
   have tv6:=tvY.grow g56
   have h6:=h.grow (gY.trans g56)
   refine VI.l0 ?_
   refine zS ?_
   refine V.run ?_
   have zf:=x6.2
   refine VI.sz 1 ?_
   simp only[ds]
   refine VI.callR zA (f19_ok tv6 hsh') zA (fun w7 H7 ⟨g7,c7,f7,hw7,tv7⟩=>?_)
   subst hw7
   refine VI.callR zA (f29_ok tv7 hsh') zA (fun w8 H8 ⟨g8,ub,nb,eb,hw8,hbb⟩=>?_)
   subst hw8
   have g78:=g7.trans g8
   have b8:=b6.grow g78
   have x8:=x6.grow g78
   have tv8:=tv6.grow g78
   have h8:=h6.grow g78
   refine VI.l0 ?_
   refine zS ?_
   refine V.run ?_
   have zf:=b8.2
   refine VI.sz 1 ?_
   simp only[ds]
   refine VI.callR zA (f19_ok h8 hsh) zA (fun w9 H9 ⟨g9,c9,f9,hw9,tv9⟩=>?_)
   subst hw9
   refine VI.callA rfl (f30_ok tv9 hsh) zA (fun H10 g10=>?_)
   rw[if_pos hfl,hfl]
   have g910:=g9.trans g10
   have x10:=x8.grow g910
   have tv10:=tv8.grow g910
   refine VI.l0 ?_
   refine zS ?_
   refine V.run ?_
   have zf:=x10.2
   refine VI.sz 1 ?_
   simp only[ds]
   refine VI.callR zA (f19_ok tv10 hsh') zA (fun w11 H11 ⟨g11,c11,f11,hw11,tv11⟩=>?_)
   subst hw11
   refine VI.callA rfl (f30_ok tv11 hsh') zA (fun H12 g12'=>?_)
   rw[if_pos hfl',hfl',t1]
   refine VI.l0 ?_
   refine zS ?_
   refine V.run ?_
   have heq : ea=eb∧na=nb:=by
    rcases hba with⟨h0,_⟩|⟨_,hr0,_,rfl,rfl⟩|⟨_,hr0,rfl,rfl,_⟩
    ·exact absurd hfl h0
    ·rcases hbb with⟨h0,_⟩|⟨_,_,_,rfl,rfl⟩|⟨_,hr1,_⟩
     ·exact absurd hfl' h0
     ·exact⟨rfl,rfl⟩
     ·have:=List.length_pos_iff.2 hr1
      rw[t1,hr0] at this
      simp at this
    ·rcases hbb with⟨h0,_⟩|⟨_,hr1,_⟩|⟨_,_,rfl,rfl,_⟩
     ·exact absurd hfl' h0
     ·have:=List.length_pos_iff.2 hr0
      rw[← t1,hr1] at this
      simp at this
     ·exact⟨rfl,(t2 hr0).symm⟩
   obtain⟨rfl,rfl⟩:=heq
   refine VI.s0 9 ?_
   simp only[ds]
   refine VI.s0 9 ?_
   simp only[ds]
   refine VI.s0 4 ?_
   simp only[ds]
   refine VI.callAT zG rfl (f17_ok _) zA (fun H13 g13=>?_)
   refine VI.l0 ?_
   refine zS ?_
   refine V.ret (V.rets rfl (Lv.retF (by simp +contextual (disch:=first|omega|simp only[nx];omega) only[D1,cells_alloc_at,cells_alloc_ne,cells_set_at,cells_set_ne,yres,yres1,yresL,qA,qB,qC,D5,hF,hA,↓reduceIte,qD,qE];rfl) ?_))
   rfl
end Go.Xe.TRX
/- Rules of reasoning over the executable reading of the model's code (part Z16): arguments, by what their types allow. Conditions: none; for every program. -/
namespace Go.Xe
open Go Go.RowKit Go.ChangeShapes Go.WideShapes
theorem okWide_agg {P : Program} {w : World} {r : Reach} {base : Nat} {t : TypeId} {v : Value} {fs : Array Field} (ht : P.underlying t=some (.struct fs)) (h : Value.okWide P w r base t v) : ∃ cs,v=.agg cs:=by
 unfold Value.okWide at h
 rw[ht] at h
 obtain⟨cs,h,_⟩:=h
 exact⟨cs,h⟩
end Go.Xe
/- The end of a call that has changed nothing of what was there: what a statement asks of the memory behind it. Conditions: as post_of_same's, but that new memory may be frozen. -/
namespace Go.Xe
open Go Go.RowKit Go.ChangeShapes Go.WideShapes
variable {H : Type} {enc : TypeId×Value→H} {P : Program}
theorem post_of_old {f : Func} {s : ChangeSpec} {apart fresh handsOn again : Bool} {W W' : World} {args : Array Value} {v : Value} {ds gs : List (DataW H)} {before pa pv : List MemPlace}
  (hW : DataW.Whole enc P f.params.toList s.vars apart W args.toList ds gs before)
  (hres : ∀ (b : Nat) (sp : Nat→Bool) (hd : Bool),DataW.TrodAll enc P W' b sp hd f.resultTypes.toList (v.resultList f.resultTypes.size) (s.fn H (ds++gs)).results [])
  (hargs : ∀ sp : Nat→Bool,(∀ p∈before,sp p.block=true)→DataW.TrodAll enc P W' 0 sp true f.params.toList args.toList (s.fn H (ds++gs)).args pa)
  (hvars : ∀ sp : Nat→Bool,(∀ p∈before,sp p.block=true)→DataW.TrodVars enc P W' sp s.vars (s.fn H (ds++gs)).vars pv)
  (hps : before=pa++pv) (hk : W.keptBut W' (·∈before)) (hfz : ∀ a : Addr,a.block<W.heap.size→W'.frozen? a=W.frozen? a)
  (hok : ∀ (j : Nat) (t : TypeId) (r : Value),f.resultTypes[j]?=some t→(v.resultList f.resultTypes.size)[j]?=some r→Value.okWide P W' .any 0 t r) :
  s.post enc P f apart fresh handsOn again W args v W':=by
 have old : ∀ p∈before,p.block<W.heap.size:=fun p hp=>hW.lt p hp
 have hold : ∀ p∈before,(fun b=>decide (b<W.heap.size)) p.block=true:=fun p hp=>by simpa using old p hp
 subst hps
 refine⟨ds,gs,_,[],pa,pv,hW,hres _ _ _,hargs _ hold,hvars _ hold,World.keptBut_mono (fun p hp=>⟨hp,.inr (List.mem_append.1 hp)⟩) hk,fun _=>?_⟩
 obtain⟨_,_,_,_,_,hz,hn⟩:=hW
 refine⟨hok,_,_,([]++pa)++pv,⟨[]++pa,pv,trodAll_append (hargs _ (fun _ _=>rfl)) (hres _ _ _),hvars _ (fun _ _=>rfl),rfl,?_,?_⟩,?_⟩
 ·intro b off hp
  have hp' : MemPlace.cell b off∈pa++pv:=by simpa using hp
  rw[hfz _ (old _ hp')]
  exact hz b off hp'
 ·intro ha
  simpa using hn ha
 ·intro p hp _
  simpa using hp
end Go.Xe
