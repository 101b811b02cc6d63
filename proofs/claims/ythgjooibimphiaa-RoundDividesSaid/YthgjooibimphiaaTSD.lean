/- What the functions of the layer round come to: the reference's Divide. Conditions: none. -/
import Derived.Test.YthgjooibimphiaaTSC
-- MOD TR
namespace Go.Xe.TRX
open Go Go.Xe Go.Proofs
open Nat renaming reduceLeDiff → qA, reduceSub → qB, reduceAdd → qC, reduceEqDiff → qD, reduceLT → qE
open Int renaming reduceNegSucc → qF, reduceEq → qG
open Go.Xe.V renaming seq → sA, block → sB, scope → sC, skip → sD, close → sE
open Go.Xe renaming pth → P
open Go.Xe.Rnd
set_option maxRecDepth 100000
set_option maxHeartbeats 3200000
set_option linter.unusedSimpArgs false
noncomputable def d40 : FCode:=(.seq (.run (.go (.move (.con (.slice none 0 0))) (P 4)::
[])) (.seq (.run (.go (.move (tm 1)) (P 13)::
.go (.move (.con (.int .i64 (.ofNat 0)))) (P 5)::
.go (.move (tm 13)) (P 6)::
[])) (.seq (.seq (.run (.go (.move (.con (.int .i64 (.ofNat 0)))) (P 7)::
[])) (.block 0 (.loop (.seq (.seq (.run (.go (.move (tm 7)) (P 14)::
.go (.move (tm 0)) (P 15)::
.go (.len 0 (tm 15)) (P 16)::
.go (.bin .lss 3 (tm 14) (tm 16)) (P 17)::
[])) (.cond (tm 17) .skip (.exit 0))) (.seq (.block 1 (.run (.go (.move (tm 5)) (P 20)::
.go (.move (tm 0)) (P 21)::
.go (.move (tm 7)) (P 22)::
.go (.indexAddr none 1 (tm 21) (tm 22)) (P 23)::
.go (.load1 (tm 23)) (P 24)::
.go (.bin .add 3 (tm 20) (tm 24)) (P 25)::
.go (.move (tm 25)) (P 5)::
[]))) (.run (.go (.move (tm 7)) (P 18)::
.go (.bin .add 3 (tm 18) (.con (.int .i64 (.ofNat 1)))) (P 19)::
.go (.move (tm 19)) (P 7)::
[]))))))) (.seq (.run (.go (.move (.con (.slice none 0 0))) (P 8)::
.go (.move (.con (.slice none 0 0))) (P 9)::
[])) (.seq (.seq (.run (.go (.move (.con (.int .i64 (.ofNat 0)))) (P 10)::
[])) (.block 2 (.loop (.seq (.seq (.run (.go (.move (tm 10)) (P 26)::
.go (.move (tm 0)) (P 27)::
.go (.len 0 (tm 27)) (P 28)::
.go (.bin .lss 3 (tm 26) (tm 28)) (P 29)::
[])) (.cond (tm 29) .skip (.exit 2))) (.seq (.block 3 (.seq (.run (.go (.move (tm 8)) (P 32)::
.go (.move (tm 1)) (P 33)::
.go (.move (tm 0)) (P 34)::
.go (.move (tm 10)) (P 35)::
.go (.indexAddr none 1 (tm 34) (tm 35)) (P 36)::
.go (.load1 (tm 36)) (P 37)::
.go (.bin .mul 3 (tm 33) (tm 37)) (P 38)::
.go (.move (tm 5)) (P 39)::
.go (.bin .quo 3 (tm 38) (tm 39)) (P 40)::
.go (.buildSlice 3 1 [(.int .i64 (.ofNat 0))] [(0,1,(tm 40))]) (P 41)::
.go (.append 3 1 8 (tm 32) (tm 41)) (P 42)::
.go (.move (tm 42)) (P 8)::
[])) (.seq (.draw 17 (.go (.move (tm 9)) (P 43)::
.go (.move (tm 1)) (P 44)::
.go (.move (tm 0)) (P 45)::
.go (.move (tm 10)) (P 46)::
.go (.indexAddr none 1 (tm 45) (tm 46)) (P 47)::
.go (.load1 (tm 47)) (P 48)::
.go (.bin .mul 3 (tm 44) (tm 48)) (P 49)::
.go (.move (tm 8)) (P 50)::
.go (.move (tm 10)) (P 51)::
.go (.indexAddr none 1 (tm 50) (tm 51)) (P 52)::
.go (.load1 (tm 52)) (P 53)::
.go (.move (tm 5)) (P 54)::
.go (.bin .mul 3 (tm 53) (tm 54)) (P 55)::
.go (.bin .sub 3 (tm 49) (tm 55)) (P 56)::
.go (.buildSlice 3 1 [(.int .i64 (.ofNat 0))] [(0,1,(tm 56))]) (P 57)::
.go (.append 3 1 8 (tm 43) (tm 57)) (P 58)::
.go (.move (tm 58)) (P 9)::
[]) [.ok,.ok,.ok,.ok,.ok,.ok,.ok,.ok,.ok,.ok,.ok,.ok,.ok,.ok,.ok,.ok,.ok]) (.run (.go (.move (tm 6)) (P 59)::
.go (.move (tm 8)) (P 60)::
.go (.move (tm 10)) (P 61)::
.go (.indexAddr none 1 (tm 60) (tm 61)) (P 62)::
.go (.load1 (tm 62)) (P 63)::
.go (.bin .sub 3 (tm 59) (tm 63)) (P 64)::
.go (.move (tm 64)) (P 6)::
[]))))) (.run (.go (.move (tm 10)) (P 30)::
.go (.bin .add 3 (tm 30) (.con (.int .i64 (.ofNat 1)))) (P 31)::
.go (.move (tm 31)) (P 10)::
[]))))))) (.seq (.block 4 (.loop (.seq (.seq (.run (.go (.move (tm 6)) (P 65)::
.go (.bin .gtr 3 (tm 65) (.con (.int .i64 (.ofNat 0)))) (P 66)::
[])) (.cond (tm 66) .skip (.exit 4))) (.block 5 (.seq (.run (.go (.move (.con (.int .i64 (.ofNat 0)))) (P 11)::
[])) (.seq (.seq (.run (.go (.move (.con (.int .i64 (.ofNat 1)))) (P 12)::
[])) (.block 6 (.loop (.seq (.seq (.run (.go (.move (tm 12)) (P 67)::
.go (.move (tm 9)) (P 68)::
.go (.len 0 (tm 68)) (P 69)::
.go (.bin .lss 3 (tm 67) (tm 69)) (P 70)::
[])) (.cond (tm 70) .skip (.exit 6))) (.seq (.block 7 (.seq (.draw 9 (.go (.move (tm 9)) (P 73)::
.go (.move (tm 12)) (P 74)::
.go (.indexAddr none 1 (tm 73) (tm 74)) (P 75)::
.go (.load1 (tm 75)) (P 76)::
.go (.move (tm 9)) (P 77)::
.go (.move (tm 11)) (P 78)::
.go (.indexAddr none 1 (tm 77) (tm 78)) (P 79)::
.go (.load1 (tm 79)) (P 80)::
.go (.bin .gtr 3 (tm 76) (tm 80)) (P 81)::
[]) [.ok,.ok,.ok,.ok,.ok,.ok,.ok,.ok,.ok]) (.cond (tm 81) (.run (.go (.move (tm 12)) (P 82)::
.go (.move (tm 82)) (P 11)::
[])) .skip))) (.run (.go (.move (tm 12)) (P 71)::
.go (.bin .add 3 (tm 71) (.con (.int .i64 (.ofNat 1)))) (P 72)::
.go (.move (tm 72)) (P 12)::
[]))))))) (.seq (.run (.go (.move (tm 8)) (P 83)::
.go (.move (tm 11)) (P 84)::
.go (.indexAddr none 1 (tm 83) (tm 84)) (P 85)::
.go (.load1 (tm 85)) (P 86)::
.go (.bin .add 3 (tm 86) (.con (.int .i64 (.ofNat 1)))) (P 87)::
.go (.indexAddr none 1 (tm 83) (tm 84)) (P 88)::
.un (.store 1 (tm 88) (tm 87))::
[])) (.seq (.run (.go (.move (tm 9)) (P 89)::
.go (.move (tm 11)) (P 90)::
.go (.indexAddr none 1 (tm 89) (tm 90)) (P 91)::
.go (.load1 (tm 91)) (P 92)::
.go (.move (tm 5)) (P 93)::
.go (.bin .sub 3 (tm 92) (tm 93)) (P 94)::
.go (.indexAddr none 1 (tm 89) (tm 90)) (P 95)::
.un (.store 1 (tm 95) (tm 94))::
[])) (.run (.go (.move (tm 6)) (P 96)::
.go (.bin .sub 3 (tm 96) (.con (.int .i64 (.ofNat 1)))) (P 97)::
.go (.move (tm 97)) (P 6)::
[])))))))))) (.seq (.run (.go (.move (tm 8)) (P 98)::
.go (.move (tm 98)) (P 4)::
[])) .ret)))))))
theorem de40 : @compF Try.prog (Gl.none Try.prog) Try.f40 2=.mk d40 (mkTT 99) [(P 0),(P 1)] [.tmp (P 4)]:=by kernel_rfl
theorem dg40 : Try.prog.funcs[40]?=some Try.f40:=Try.func40
theorem do40 : okF Try.prog Try.f40=true:=by kernel_rfl
theorem Li_atD {l : List Int} {k : Nat} (h : k<l.length) : (Li l)[k]?=some (I (l.getD k 0)):=by
 rw[Li_at h];congr 2;rw[List.getD_eq_getElem?_getD,List.getElem?_eq_getElem h];rfl
theorem gD {l : List Int} {k : Nat} (h : k<l.length) : l[k]=l.getD k 0:=by
 rw[List.getD_eq_getElem?_getD,List.getElem?_eq_getElem h];rfl
theorem f40_ok {H : Heap} {x : Value} {l : List Int} {tt : Int} (h : LS H x l) (hn : l.length≤12) (hb : ∀ v∈l,0≤v∧v≤10000) (ht : 0≤tt∧tt≤100000) (hS0 : 0<sm l) : F Try.prog 40 ⟨[x,I tt]⟩ H (fun v X=>Grow H X∧LS X v (dv l tt)):=by
 have hl:=h.len
 have hSb:=(sm_bound hb).2
 have hS : 0<sm l∧sm l≤120000:=⟨hS0,by have : (l.length : Int)*10000≤12*10000:=Int.mul_le_mul_of_nonneg_right (by omega) (by decide);omega⟩
 obtain⟨rb1,rb2⟩:=rst_bound ht.1 (fun w hw=>(hb w hw).1) hS0
 have hdv : dvn (sm l) (rst tt (sm l) l).toNat (par tt (sm l) l) (lak tt (sm l) l)=dv l tt:=rfl
 refine F.entryL rfl dg40 do40 de40 rfl (by kernel_rfl) ?_
 simp only[sets]
 refine V.re [(0,x),(1,I tt)] (N:=99) zE zY ?_
 intro t hF hA
 simp only[Kn,and_true] at hA
 refine zS ?_
 refine V.l0 ?_
 refine zS ?_
 refine V.l0 ?_
 refine zS ?_
 refine V.l0 ?_
 refine zS ?_
 refine V.loop (fun z t m X=>∃ (k : Nat),k≤l.length∧z=l.length-k∧m=[]∧X=H∧Full 99 t∧Kn [(0,x),(1,I tt),(5,I (sm (l.take k))),(6,I tt),(7,I k)] t) l.length ?_ ?_
 ·exact⟨0,by omega,by omega,rfl,rfl,zF,zK⟩
 clear hF hA
 rintro z t m X ⟨k,hk,rfl,rfl,rfl,hF,hA⟩
 simp only[Kn,and_true] at hA
 refine zS ?_
 have zf:=@hl
 refine V.lz ?_
 refine zS ?_
 refine V.condP zP (fun hlt=>?_) (fun hlt=>?_)
 ·have hlt' : k<l.length:=by omega
  obtain⟨p,hp,hx⟩:=h.at hlt'
  have hx1:=hx X (.refl _)
  have hs:=sm_take hlt'
  have hbk:=hb _ (List.getElem_mem hlt')
  have hbt:=sm_bound (c:=10000) (l:=l.take k) (fun v hv=>hb v (List.mem_of_mem_take hv))
  have hlk : (l.take k).length=k:=by rw[List.length_take];omega
  rw[hlk] at hbt
  refine zS ?_
  have zf:=And.intro @hp<|@hx1
  refine V.lz ?_
  refine zS ?_
  refine V.l0 ?_
  rw[← hs]
  refine V.nil (Or.inl ⟨rfl,l.length-(k+1),by omega,?_⟩)
  exact⟨k+1,hlt',rfl,rfl,rfl,zF,zK⟩
 obtain rfl : k=l.length:=by omega
 rw[List.take_length] at hA
 generalize hSe : sm l=S at *
 have hSn : ¬ S=0:=by omega
 refine V.exit ?_
 refine zX ?_
 refine V.nil (Or.inr ⟨by simp,?_⟩)
 refine zX ?_
 refine zS ?_
 refine V.l0 ?_
 refine zS ?_
 refine V.l0 ?_
 refine zS ?_
 refine V.loop (fun z t m Y=>∃ (k : Nat) (col : Nat→Nat) (vp vg : Value),k≤l.length∧z=l.length-k∧m=[]∧Grow X Y∧OL X.next col 0 Y vp (par tt S (l.take k))∧OL X.next col 1 Y vg (lak tt S (l.take k))∧Full 99 t∧Kn [(0,x),(1,I tt),(5,I S),(6,I (tt-sm (par tt S (l.take k)))),(8,vp),(9,vg),(10,I k)] t) l.length ?_ ?_
 ·refine⟨0,fun _=>0,.slice none 0 0,.slice none 0 0,by omega,by omega,rfl,.refl _,.nil,.nil,?_⟩
  have e0 : tt-sm (par tt S (l.take 0))=tt:=by simp[par,sm]
  rw[e0]
  exact⟨zF,zK⟩
 clear hF hA
 rintro z t m Y ⟨k,col,vp,vg,hk,rfl,rfl,hg,op,og,hF,hA⟩
 simp only[Kn,and_true] at hA
 refine zS ?_
 have zf:=@hl
 refine V.lz ?_
 refine zS ?_
 refine V.condP zP (fun hlt=>?_) (fun hlt=>?_)
 ·have hlt' : k<l.length:=by omega
  obtain⟨p,hp,hx⟩:=h.at hlt'
  have hx1:=hx Y hg
  have hwk:=hb _ (List.getElem_mem hlt')
  obtain⟨⟨e1,e2⟩,⟨e3,e4⟩,⟨e5,e6⟩,⟨e8,e9⟩,e7⟩:=prod_bound ht hwk hS
  have hsp : sm (par tt S (l.take (k+1)))=sm (par tt S (l.take k))+(tt*l[k]).tdiv S:=by rw[par_take hlt',sm_app];simp[sm]
  have hpb : 0≤sm (par tt S (l.take k))∧sm (par tt S (l.take k))≤12000000000:=by
   have hlk : (par tt S (l.take k)).length=k:=by rw[par_len,List.length_take];omega
   obtain⟨q1,q2⟩:=sm_bound (c:=1000000000) (l:=par tt S (l.take k)) (fun y hy=>by
    obtain⟨w,hw,rfl⟩:=List.mem_map.1 hy
    obtain⟨_,q,_⟩:=prod_bound ht (hb w (List.mem_of_mem_take hw)) hS
    exact q)
   rw[hlk] at q2
   have : (k : Int)*1000000000≤12*1000000000:=Int.mul_le_mul_of_nonneg_right (by omega) (by decide)
   omega
  have hn1:=hg.1
  have lpk : (par tt S (l.take k)).length=k:=by rw[par_len,List.length_take];omega
  have lp : (par tt S (l.take k)).length≤1048576:=by omega
  obtain⟨u,X1,a1,col1,a2,a3,a4,a5⟩:=OL.push op hn1 lp ((tt*l[k]).tdiv S)
  have og1:=Oc.st og a3 (by decide)
  have hn2 : X.next≤X1.next:=by omega
  have lg : (lak tt S (l.take k)).length≤1048576:=by rw[lak_len,List.length_take];omega
  obtain⟨u',X2,c1,col2,c2,c3,c4,c5⟩:=OL.push (l:=lak tt S (l.take k)) og1 hn2 lg (tt*l[k]-(tt*l[k]).tdiv S*S)
  have op2:=Oc.st a2 c3 (by decide)
  rw[← lak_take hlt'] at c2
  rw[← par_take hlt'] at op2 a2
  have gX1:=a4.grow hg (Nat.le_refl _)
  have gX2:=c4.grow gX1 (Nat.le_refl _)
  have hl1 : (par tt S (l.take (k+1))).length=k+1:=by rw[par_len,List.length_take];omega
  have hk1 : k<(par tt S (l.take (k+1))).length:=by omega
  have hval : (par tt S (l.take (k+1)))[k]=(tt*l[k]).tdiv S:=by
   rw[List.getElem_of_eq (par_take hlt'),List.getElem_append_right (by omega)]
   simp[lpk]
  have hx2:=hx X1 gX1
  obtain⟨p2,hp2,hy2⟩:=(OL.ls a2).at hk1
  rw[hval] at hy2
  have hy3:=hy2 X1 (.refl _)
  obtain⟨p3,hp3,hy4⟩:=(OL.ls op2).at hk1
  rw[hval] at hy4
  have hy5:=hy4 X2 (.refl _)
  refine zS ?_
  have zf:=And.intro @hp<|And.intro @hx1<|And.intro @hSn<|@a1
  refine V.lz ?_
  refine zS ?_
  have zf:=And.intro @hp<|And.intro @hx2<|And.intro @hp2<|And.intro @hy3<|@c1
  refine V.dz ?_ ?_ rfl ?_
  ·exact zM
  ·simp only[dcAll,dcOk,wantD,List.cons_append,List.nil_append,true_and,and_true]
  refine zS ?_
  have zf:=And.intro @hp3<|@hy5
  refine V.lz ?_
  refine zS ?_
  refine V.l0 ?_
  refine V.nil (Or.inl ⟨rfl,l.length-(k+1),by omega,?_⟩)
  have e6' : tt-sm (par tt S (l.take (k+1)))=tt-sm (par tt S (l.take k))-(tt*l[k]).tdiv S:=by omega
  refine⟨k+1,col2,u,u',hlt',rfl,rfl,gX2,op2,c2,?_⟩
  rw[e6']
  exact⟨zF,zK⟩
 obtain rfl : k=l.length:=by omega
 rw[List.take_length] at op og hA
 have hl0 : 0<l.length:=by
  apply Nat.pos_of_ne_zero
  intro h0
  have : l=[]:=List.length_eq_zero_iff.1 h0
  subst this
  simp[sm] at hSe
  omega
 obtain⟨R,hR⟩ : ∃ R : Nat,tt-sm (par tt S l)=(R : Int):=⟨(rst tt S l).toNat,by unfold rst at rb1 ⊢;omega⟩
 have hR2 : (rst tt S l).toNat=R:=by unfold rst;omega
 have hRl : R<l.length:=by unfold rst at rb2;omega
 rw[hR2] at hdv
 rw[hR] at hA
 refine V.exit ?_
 refine zX ?_
 refine V.nil (Or.inr ⟨by simp,?_⟩)
 refine zX ?_
 refine zS ?_
 have ob : ∀ y∈par tt S l,0≤y∧y≤1000000000:=fun y hy=>by
  obtain⟨w,hw,rfl⟩:=List.mem_map.1 hy
  obtain⟨_,q,_⟩:=prod_bound ht (hb w hw) hS
  exact q
 have gb : ∀ y∈lak tt S l,0≤y∧y≤120000:=fun y hy=>by
  obtain⟨w,hw,rfl⟩:=List.mem_map.1 hy
  have:=lak_at ht.1 (hb w hw).1 hS.1
  omega
 refine V.loop (fun z t m Z=>∃ (j : Nat) (col : Nat→Nat) (vp vg : Value) (o g : List Int),j≤R∧z=R-j∧m=[]∧Grow X Z∧OL X.next col 0 Z vp o∧OL X.next col 1 Z vg g∧o.length=l.length∧g.length=l.length∧dvn S (R-j) o g=dv l tt∧(∀ y∈o,0≤y∧y≤1000000000+(j : Int))∧(∀ y∈g,-(200000*(j : Int))≤y∧y≤200000)∧Full 99 t∧Kn [(5,I S),(6,I ((R : Int)-(j : Int))),(8,vp),(9,vg)] t) R ?_ ?_
 ·refine⟨0,col,vp,vg,_,_,by omega,by omega,rfl,hg,op,og,par_len _ _ _,lak_len _ _ _,hdv,fun y hy=>by have:=ob y hy;omega,fun y hy=>by have:=gb y hy;omega,?_⟩
  have e0 : (R : Int)-((0 : Nat) : Int)=R:=by omega
  rw[e0]
  exact⟨zF,zK⟩
 clear hF hA
 rintro z t m Z ⟨j,col,vp,vg,o,g,hj,rfl,rfl,hg,op,og,ol,gl,hd,ob,gb,hF,hA⟩
 simp only[Kn,and_true] at hA
 refine zS ?_
 refine V.l0 ?_
 refine zS ?_
 refine V.condP zP (fun hlt2=>?_) (fun hlt2=>?_)
 ·have hj' : j<R:=by omega
  have hgn : g≠[]:=fun h0=>by rw[h0] at gl;simp at gl;omega
  have hgl:=og.ls.len
  refine zS ?_
  refine V.l0 ?_
  refine zS ?_
  refine V.l0 ?_
  refine zS ?_
  refine V.loop (fun z t m W=>∃ (i b : Nat),i≤g.length∧1≤i∧z=g.length-i∧m=[]∧W=Z∧b<i∧(∀ q,q<i→g.getD q 0≤g.getD b 0)∧(∀ q,q<b→g.getD q 0<g.getD b 0)∧Full 99 t∧Kn [(5,I S),(6,I ((R : Int)-(j : Int))),(8,vp),(9,vg),(11,I b),(12,I i)] t) (g.length-1) ?_ ?_
  ·refine⟨1,0,by omega,by omega,by omega,rfl,rfl,by omega,fun q hq=>?_,fun q hq=>by omega,zF,zK⟩
   obtain rfl : q=0:=by omega
   exact Int.le_refl _
  clear hF hA
  rintro z t m W ⟨i,b,hi,hi1,rfl,rfl,rfl,hbi,hge,hfi,hF,hA⟩
  simp only[Kn,and_true] at hA
  refine zS ?_
  have zf:=@hgl
  refine V.lz ?_
  refine zS ?_
  refine V.condP zP (fun hlt3=>?_) (fun hlt3=>?_)
  ·have hi' : i<g.length:=by omega
   obtain⟨p,hp,hx⟩:=og.ls.at hi'
   have hx1:=hx W (.refl _)
   obtain⟨p',hp',hx'⟩:=og.ls.at (show b<g.length by omega)
   have hx1':=hx' W (.refl _)
   rw[gD hi'] at hx1
   rw[gD (show b<g.length by omega)] at hx1'
   refine zS ?_
   have zf:=And.intro @hp<|And.intro @hx1<|And.intro @hp'<|@hx1'
   refine V.dz ?_ ?_ rfl ?_
   ·exact zM
   ·simp only[dcAll,dcOk,wantD,List.cons_append,List.nil_append,true_and,and_true]
   refine zS ?_
   refine V.condP zP (fun hgt=>?_) (fun hgt=>?_)
   ·refine zS ?_
    refine V.l0 ?_
    refine zS ?_
    refine V.l0 ?_
    refine V.nil (Or.inl ⟨rfl,g.length-(i+1),by omega,?_⟩)
    refine⟨i+1,i,by omega,by omega,rfl,rfl,rfl,by omega,fun q hq=>?_,fun q hq=>?_,zF,zK⟩
    ·by_cases hqi : q=i
     ·subst hqi;omega
     ·have:=hge q (by omega);omega
    ·have:=hge q (by omega);omega
   ·refine zS ?_
    refine V.l0 ?_
    refine V.nil (Or.inl ⟨rfl,g.length-(i+1),by omega,?_⟩)
    refine⟨i+1,b,by omega,by omega,rfl,rfl,rfl,by omega,fun q hq=>?_,hfi,zF,zK⟩
    by_cases hqi : q=i
    ·subst hqi;omega
    ·exact hge q (by omega)
  ·obtain rfl : i=g.length:=by omega
   have hbf : b=fmx g:=FMx.uniq ⟨hbi,hge,hfi⟩ (fmx_ok hgn)
   subst hbf
   have hfl : fmx g<l.length:=by omega
   have hoi:=ob _ (getD_mem (l:=o) (i:=fmx g) (by omega))
   have hgi:=gb _ (getD_mem (l:=g) (i:=fmx g) (by omega))
   obtain⟨b,rfl,b1,b2,b3,b4,b5⟩:=OL.set op (i:=fmx g) (by omega) (o.getD (fmx g) 0+1)
   have og1:=Oc.st og b5 (by decide)
   obtain⟨b',rfl,b1',b2',b3',b4',b5'⟩:=OL.set (l:=g) og1 (i:=fmx g) (by omega) (g.getD (fmx g) 0-S)
   have op1:=Oc.st b4 b5' (by decide)
   have ix : yindexAddr none 1 (.slice (some ⟨b,0,none⟩) o.length o.length) (I (fmx g : Nat))=some (.pointer (some ⟨b,fmx g,none⟩)):=own_idx (by omega)
   have ix' : yindexAddr none 1 (.slice (some ⟨b',0,none⟩) g.length g.length) (I (fmx g : Nat))=some (.pointer (some ⟨b',fmx g,none⟩)):=own_idx (by omega)
   have lo : (Li o)[fmx g]?=some (I (o.getD (fmx g) 0)):=Li_atD (by omega)
   have lg : (Li g)[fmx g]?=some (I (g.getD (fmx g) 0)):=Li_atD (by omega)
   have lol : fmx g<(Li o).length:=by rw[Li_len];omega
   have lgl : fmx g<(Li g).length:=by rw[Li_len];omega
   refine V.exit ?_
   refine zX ?_
   refine V.nil (Or.inr ⟨by simp,?_⟩)
   refine zX ?_
   refine zS ?_
   have zf:=And.intro @ix<|And.intro @b3<|And.intro @lo<|And.intro @lol<|@arr_get
   refine V.lz ?_
   refine zS ?_
   have zf:=And.intro @ix'<|And.intro @b3'<|And.intro @lg<|And.intro @lgl<|@arr_get
   refine V.lz ?_
   refine zS ?_
   refine V.l0 ?_
   refine zS ?_
   refine V.nil (Or.inl ⟨rfl,R-(j+1),by omega,?_⟩)
   refine⟨j+1,col,_,_,o.set (fmx g) (o.getD (fmx g) 0+1),g.set (fmx g) (g.getD (fmx g) 0-S),hj',rfl,rfl,(hg.set b1 _).set b1' _,op1,b4',by rw[List.length_set];exact ol,by rw[List.length_set];exact gl,?_,?_,?_,?_⟩
   ·rw[← hd]
    have : R-j=(R-(j+1))+1:=by omega
    rw[this];rfl
   ·intro y hy
    rcases mem_set hy with hy|rfl
    ·have:=ob y hy;omega
    ·omega
   ·intro y hy
    rcases mem_set hy with hy|rfl
    ·have:=gb y hy;omega
    ·omega
   ·have e1 : (R : Int)-((j+1 : Nat) : Int)=(R : Int)-(j : Int)-1:=by omega
    rw[e1]
    exact⟨zF,zK⟩
 ·obtain rfl : j=R:=by omega
  rw[Nat.sub_self] at hd
  have hd : o=dv l tt:=hd
  subst hd
  refine V.exit ?_
  refine zX ?_
  refine V.nil (Or.inr ⟨by simp,?_⟩)
  refine zX ?_
  refine zS ?_
  refine V.l0 ?_
  refine zS ?_
  refine V.ret (V.rets rfl (Lv.retF (by simp +contextual (disch:=first|omega|simp only[nx];omega) only[D1,cells_alloc_at,cells_alloc_ne,cells_set_at,cells_set_ne,yres,yres1,yresL,qA,qB,qC,D5,hF,hA,↓reduceIte,qD,qE];rfl) ?_))
  exact⟨hg,op.ls⟩
end Go.Xe.TRX
