/- What the functions of the layer seat come to: Remainders. Conditions: none. -/
import Derived.Test.YtelfbgmhleneiaaTUN
-- MOD TV
namespace Go.Xe.TVX
open Go Go.Xe Go.Proofs
open Nat renaming reduceLeDiff → qA, reduceSub → qB, reduceAdd → qC, reduceEqDiff → qD, reduceLT → qE
open Int renaming reduceNegSucc → qF, reduceEq → qG
open Go.Xe.V renaming seq → sA, block → sB, scope → sC, skip → sD, close → sE
open Go.Xe renaming pth → P
open Go.Xe.Sea
set_option maxRecDepth 100000
set_option maxHeartbeats 3200000
set_option linter.unusedSimpArgs false
noncomputable def d69 : FCode:=(.seq (.run (.go (.box 23 (tm 0)) (P 2)::
.go (.move (.con (.slice none 0 0))) (P 4)::
.go (.move (.con (.slice none 0 0))) (P 5)::
[])) (.seq (.draw 8 (.go (.move (tm 1)) (P 18)::
.go (.len 0 (tm 18)) (P 19)::
.go (.move (tm 1)) (P 21)::
.go (.len 0 (tm 21)) (P 22)::
.go (.makeSlice 3 1 8 [(.int .i64 (.ofNat 0))] (tm 19) (tm 19)) (P 20)::
.go (.makeSlice 3 1 8 [(.int .i64 (.ofNat 0))] (tm 22) (tm 22)) (P 23)::
.go (.move (tm 20)) (P 6)::
.go (.move (tm 23)) (P 7)::
[]) [.ok,.ok,.nw none (some (P 20)) 4 true,.ok,.ok,.nw none (some (P 23)) 5 true,.nw none (some (P 6)) 6 false,.nw none (some (P 7)) 7 false]) (.seq (.draw 7 (.go (.loadN 3 (tm 2)) (P 24)::
.go (.move (tm 1)) (P 25)::
.go (.call (.con (.func (.func 36) ⟨[]⟩ ⟨[]⟩)) [(tm 24),(tm 25)]) (P 26)::
.go (.fieldAddr 1 (tm 2)) (P 27)::
.go (.load1 (tm 27)) (P 28)::
.go (.move (tm 26)) (P 8)::
.go (.move (tm 28)) (P 9)::
[]) [.ok,.ok,.ok,.ok,.rd none (.load1 (tm 27)) (some (P 28)) [0],.ok,.ok]) (.seq (.seq (.run (.go (.move (.con (.int .i64 (.ofNat 0)))) (P 10)::
[])) (.block 0 (.loop (.seq (.seq (.run (.go (.move (tm 10)) (P 29)::
.go (.move (tm 1)) (P 30)::
.go (.len 0 (tm 30)) (P 31)::
.go (.bin .lss 3 (tm 29) (tm 31)) (P 32)::
[])) (.cond (tm 32) .skip (.exit 0))) (.seq (.block 1 (.seq (.draw 6 (.go (.loadN 3 (tm 2)) (P 35)::
.go (.move (tm 1)) (P 36)::
.go (.move (tm 10)) (P 37)::
.go (.indexAddr none 1 (tm 36) (tm 37)) (P 38)::
.go (.load1 (tm 38)) (P 39)::
.go (.call (.con (.func (.func 37) ⟨[]⟩ ⟨[]⟩)) [(tm 35),(tm 39)]) (P 40)::
[]) [.ok,.ok,.ok,.ok,.ok,.ok]) (.cond (tm 40) (.draw 12 (.go (.move (tm 9)) (P 41)::
.go (.move (tm 1)) (P 42)::
.go (.move (tm 10)) (P 43)::
.go (.indexAddr none 1 (tm 42) (tm 43)) (P 44)::
.go (.load1 (tm 44)) (P 45)::
.go (.fieldAddr 1 (tm 2)) (P 46)::
.go (.load1 (tm 46)) (P 47)::
.go (.bin .mul 3 (tm 45) (tm 47)) (P 48)::
.go (.move (tm 8)) (P 49)::
.go (.bin .quo 3 (tm 48) (tm 49)) (P 50)::
.go (.bin .sub 3 (tm 41) (tm 50)) (P 51)::
.go (.move (tm 51)) (P 9)::
[]) [.ok,.ok,.ok,.ok,.ok,.ok,.ok,.ok,.ok,.ok,.ok,.ok]) .skip))) (.run (.go (.move (tm 10)) (P 33)::
.go (.bin .add 3 (tm 33) (.con (.int .i64 (.ofNat 1)))) (P 34)::
.go (.move (tm 34)) (P 10)::
[]))))))) (.seq (.seq (.run (.go (.move (.con (.int .i64 (.ofNat 0)))) (P 11)::
[])) (.block 2 (.loop (.seq (.seq (.run (.go (.move (tm 11)) (P 52)::
.go (.move (tm 1)) (P 53)::
.go (.len 0 (tm 53)) (P 54)::
.go (.bin .lss 3 (tm 52) (tm 54)) (P 55)::
[])) (.cond (tm 55) .skip (.exit 2))) (.seq (.block 3 (.seq (.seq (.draw 7 (.go (.loadN 3 (tm 2)) (P 58)::
.go (.move (tm 1)) (P 59)::
.go (.move (tm 11)) (P 60)::
.go (.indexAddr none 1 (tm 59) (tm 60)) (P 61)::
.go (.load1 (tm 61)) (P 62)::
.go (.call (.con (.func (.func 37) ⟨[]⟩ ⟨[]⟩)) [(tm 58),(tm 62)]) (P 63)::
.go (.un .not (tm 63)) (P 64)::
[]) [.ok,.ok,.ok,.ok,.ok,.ok,.ok]) (.cond (tm 64) (.exit 3) .skip)) (.seq (.draw 20 (.go (.move (tm 1)) (P 65)::
.go (.move (tm 11)) (P 66)::
.go (.indexAddr none 1 (tm 65) (tm 66)) (P 67)::
.go (.load1 (tm 67)) (P 68)::
.go (.fieldAddr 1 (tm 2)) (P 69)::
.go (.load1 (tm 69)) (P 70)::
.go (.bin .mul 3 (tm 68) (tm 70)) (P 71)::
.go (.move (tm 8)) (P 72)::
.go (.bin .quo 3 (tm 71) (tm 72)) (P 73)::
.go (.move (tm 1)) (P 74)::
.go (.move (tm 11)) (P 75)::
.go (.indexAddr none 1 (tm 74) (tm 75)) (P 76)::
.go (.load1 (tm 76)) (P 77)::
.go (.fieldAddr 1 (tm 2)) (P 78)::
.go (.load1 (tm 78)) (P 79)::
.go (.bin .mul 3 (tm 77) (tm 79)) (P 80)::
.go (.move (tm 8)) (P 81)::
.go (.bin .rem 3 (tm 80) (tm 81)) (P 82)::
.go (.move (tm 73)) (P 12)::
.go (.move (tm 82)) (P 13)::
[]) [.ok,.ok,.ok,.ok,.ok,.ok,.ok,.ok,.ok,.ok,.ok,.ok,.ok,.ok,.ok,.ok,.ok,.ok,.ok,.ok]) (.seq (.run (.go (.move (.con (.int .i64 (.ofNat 0)))) (P 14)::
.go (.move (.con (.int .i64 (.ofNat 0)))) (P 15)::
[])) (.seq (.seq (.run (.go (.move (.con (.int .i64 (.ofNat 0)))) (P 16)::
[])) (.block 4 (.loop (.seq (.seq (.run (.go (.move (tm 16)) (P 83)::
.go (.move (tm 1)) (P 84)::
.go (.len 0 (tm 84)) (P 85)::
.go (.bin .lss 3 (tm 83) (tm 85)) (P 86)::
[])) (.cond (tm 86) .skip (.exit 4))) (.seq (.block 5 (.seq (.seq (.draw 7 (.go (.loadN 3 (tm 2)) (P 89)::
.go (.move (tm 1)) (P 90)::
.go (.move (tm 16)) (P 91)::
.go (.indexAddr none 1 (tm 90) (tm 91)) (P 92)::
.go (.load1 (tm 92)) (P 93)::
.go (.call (.con (.func (.func 37) ⟨[]⟩ ⟨[]⟩)) [(tm 89),(tm 93)]) (P 94)::
.go (.un .not (tm 94)) (P 95)::
[]) [.ok,.ok,.ok,.ok,.ok,.ok,.ok]) (.cond (tm 95) (.exit 5) .skip)) (.seq (.draw 10 (.go (.move (tm 1)) (P 96)::
.go (.move (tm 16)) (P 97)::
.go (.indexAddr none 1 (tm 96) (tm 97)) (P 98)::
.go (.load1 (tm 98)) (P 99)::
.go (.fieldAddr 1 (tm 2)) (P 100)::
.go (.load1 (tm 100)) (P 101)::
.go (.bin .mul 3 (tm 99) (tm 101)) (P 102)::
.go (.move (tm 8)) (P 103)::
.go (.bin .rem 3 (tm 102) (tm 103)) (P 104)::
.go (.move (tm 104)) (P 17)::
[]) [.ok,.ok,.ok,.ok,.ok,.ok,.ok,.ok,.ok,.ok]) (.block 6 (.seq (.run (.go (.move (tm 17)) (P 106)::
.go (.move (tm 13)) (P 107)::
.go (.bin .gtr 3 (tm 106) (tm 107)) (P 108)::
.go (.move (tm 108)) (P 105)::
[])) (.cond (tm 105) (.run (.go (.move (tm 14)) (P 109)::
.go (.bin .add 3 (tm 109) (.con (.int .i64 (.ofNat 1)))) (P 110)::
.go (.move (tm 110)) (P 14)::
[])) (.seq (.run (.go (.move (tm 17)) (P 112)::
.go (.move (tm 13)) (P 113)::
.go (.bin .eql 3 (tm 112) (tm 113)) (P 114)::
.go (.move (tm 114)) (P 111)::
[])) (.cond (tm 111) (.run (.go (.move (tm 15)) (P 115)::
.go (.bin .add 3 (tm 115) (.con (.int .i64 (.ofNat 1)))) (P 116)::
.go (.move (tm 116)) (P 15)::
[])) .skip)))))))) (.run (.go (.move (tm 16)) (P 87)::
.go (.bin .add 3 (tm 87) (.con (.int .i64 (.ofNat 1)))) (P 88)::
.go (.move (tm 88)) (P 16)::
[]))))))) (.seq (.run (.go (.move (tm 6)) (P 117)::
.go (.move (tm 11)) (P 118)::
.go (.move (tm 7)) (P 119)::
.go (.move (tm 11)) (P 120)::
.go (.move (tm 12)) (P 121)::
.go (.move (tm 12)) (P 122)::
.go (.indexAddr none 1 (tm 117) (tm 118)) (P 123)::
.un (.store 1 (tm 123) (tm 121))::
.go (.indexAddr none 1 (tm 119) (tm 120)) (P 124)::
.un (.store 1 (tm 124) (tm 122))::
[])) (.seq (.seq (.run (.go (.move (tm 14)) (P 125)::
.go (.move (tm 15)) (P 126)::
.go (.bin .add 3 (tm 125) (tm 126)) (P 127)::
.go (.move (tm 9)) (P 128)::
.go (.bin .leq 3 (tm 127) (tm 128)) (P 129)::
[])) (.cond (tm 129) (.run (.go (.move (tm 6)) (P 130)::
.go (.move (tm 11)) (P 131)::
.go (.indexAddr none 1 (tm 130) (tm 131)) (P 132)::
.go (.load1 (tm 132)) (P 133)::
.go (.bin .add 3 (tm 133) (.con (.int .i64 (.ofNat 1)))) (P 134)::
.go (.indexAddr none 1 (tm 130) (tm 131)) (P 135)::
.un (.store 1 (tm 135) (tm 134))::
[])) .skip)) (.seq (.run (.go (.move (tm 14)) (P 136)::
.go (.move (tm 9)) (P 137)::
.go (.bin .lss 3 (tm 136) (tm 137)) (P 138)::
[])) (.cond (tm 138) (.run (.go (.move (tm 7)) (P 139)::
.go (.move (tm 11)) (P 140)::
.go (.indexAddr none 1 (tm 139) (tm 140)) (P 141)::
.go (.load1 (tm 141)) (P 142)::
.go (.bin .add 3 (tm 142) (.con (.int .i64 (.ofNat 1)))) (P 143)::
.go (.indexAddr none 1 (tm 139) (tm 140)) (P 144)::
.un (.store 1 (tm 144) (tm 143))::
[])) .skip))))))))) (.run (.go (.move (tm 11)) (P 56)::
.go (.bin .add 3 (tm 56) (.con (.int .i64 (.ofNat 1)))) (P 57)::
.go (.move (tm 57)) (P 11)::
[]))))))) (.seq (.run (.go (.move (tm 6)) (P 145)::
.go (.move (tm 7)) (P 146)::
.go (.move (tm 145)) (P 4)::
.go (.move (tm 146)) (P 5)::
[])) .ret))))))
theorem de69 : @compF Try.prog (Gl.none Try.prog) Try.f69 2=.mk d69 (mkTT 147) [(P 0),(P 1)] [.tmp (P 4),.tmp (P 5)]:=by kernel_rfl
theorem dg69 : Try.prog.funcs[69]?=some Try.f69:=Try.func69
theorem do69 : okF Try.prog Try.f69=true:=by kernel_rfl
theorem f69_ok {H : Heap} {S L : Int} {x : Value} {l : List Int} (h : LS H x l) (hg : (0≤S∧S≤61)∧l.length≤8∧∀ v∈l,0≤v∧v≤10000) (hN0 : 0<sm (vl L l) 8) : F Try.prog 69 ⟨[.agg ⟨A3 5 S L⟩,x]⟩ H (fun w X=>Grow H X∧SPR 5 S L l X w):=by
 have hl:=h.len
 obtain⟨px,nx',cx,rfl⟩:=h.s.isS
 obtain⟨hS,hl8,hb⟩:=hg
 have hvk:=vl_ok (L:=L) hb
 have hv8:=vl_8 (L:=L) hl8
 have F0:=otc_fin (m:=5) hvk hS hv8
 have hNb:=sm_bd hvk
 refine F.entryL rfl dg69 do69 de69 rfl (by kernel_rfl) ?_
 simp only[sets]
 refine V.re [(0,.agg ⟨A3 5 S L⟩),(1,.slice px nx' cx)] (N:=147) zE zY ?_
 intro t hF hA
 simp only[Kn,and_true] at hA
 refine zS ?_
 refine V.l0 ?_
 refine V.heap (fun X=>Grow H X∧Bx X H.next (A3 5 S L) 23) ⟨?_,?_⟩ ?_
 ·exact zW
 ·exact zB
 rintro H1 ⟨g1,b1⟩
 have n1:=b1.1
 refine zS ?_
 have mk1:=mk_row H1 l.length (by omega)
 have mk2:=mk_row (H1.alloc (.cells ⟨Li (fl l.length fun _=>0)⟩ 3 true)) l.length (by omega)
 have ib:=fun m=>inb_fl l.length m fun _=>0
 have zf:=And.intro @hl<|And.intro @mk1<|@mk2
 refine V.dz ?_ ?_ rfl ?_
 ·exact zM
 ·simp only[dcAll,dcOk,wantD,List.cons_append,List.nil_append,true_and,and_true]
  exact⟨fun _=>⟨_,_,_,rfl,rfl,rfl,(by simp only[D5,hF,hA,↓reduceIte,qD,qE];simp[inBound]<;>exact decide_eq_true (by omega)),fun _=>⟨_,_,_,cells_alloc _ _ _ _,ib _⟩⟩,fun _=>⟨_,_,_,rfl,rfl,rfl,(by simp only[D5,hF,hA,↓reduceIte,qD,qE];simp[inBound]<;>exact decide_eq_true (by omega)),fun _=>⟨_,_,_,cells_alloc _ _ _ _,ib _⟩⟩,fun _=>⟨_,_,_,rfl,rfl,rfl,(by simp only[D5,hF,hA,↓reduceIte,qD,qE];simp[inBound]<;>exact decide_eq_true (by omega)),fun k=>by cases k⟩,fun _=>⟨_,_,_,rfl,rfl,rfl,(by simp only[D5,hF,hA,↓reduceIte,qD,qE];simp[inBound]<;>exact decide_eq_true (by omega)),fun k=>by cases k⟩⟩
 refine V.heap (fun X=>Grow H X∧Bx X H.next (A3 5 S L) 23∧Bx X H1.next (Li (fl l.length fun _=>0)) 3∧Bx X (H1.next+1) (Li (fl l.length fun _=>0)) 3) ⟨?_,?_,?_,?_⟩ ?_
 ·exact zW
 ·exact (b1.alloc _).alloc _
 ·exact (Bx.new _ _ _).alloc _
 ·exact Bx.new _ _ _
 rintro H2 ⟨g2,b2,c2,d2⟩
 obtain⟨N,hN⟩ : ∃ N,N=sm (vl L l) 8:=⟨_,rfl⟩
 obtain⟨sh,hsh⟩ : ∃ sh : Nat→Int,sh=fun p=>(shr S (vl L l) p).1:=⟨_,rfl⟩
 obtain⟨rm,hrm⟩ : ∃ rm : Nat→Int,rm=fun p=>(shr S (vl L l) p).2:=⟨_,rfl⟩
 obtain⟨A,hA0⟩ : ∃ A,A=(otc 5 S (vl L l)).1:=⟨_,rfl⟩
 obtain⟨B,hB0⟩ : ∃ B,B=(otc 5 S (vl L l)).2:=⟨_,rfl⟩
 have esh : ∀ p,(shr S (vl L l) p).1=sh p:=fun p=>by rw[hsh]
 have erm : ∀ p,(shr S (vl L l) p).2=rm p:=fun p=>by rw[hrm]
 have spr:=fun p hp vp=>spread5 (p:=p) hvk hS hv8 hN0 hp vp
 have f36':=f36_ok (m:=5) (S:=S) (L:=L) (h.grow g2) hl8 hb
 rw[← hN] at f36' hN0 hNb
 have hnz : ¬ N=0:=by omega
 have bsh : ∀ q,q<8→(0≤sh q∧sh q≤610000)∧0≤rm q∧rm q≤80000:=fun q hq=>by
  have:=shr_bd hvk hS hq
  rw[esh,erm] at this
  exact⟨this.1,this.2.1,this.2.2.1⟩
 have ssh : ∀ k,k≤l.length→0≤sm sh k∧sm sh k≤4880000:=fun k hk=>by
  have h1:=sm_ub (s:=sh) (b:=610000) (n:=k) (fun q hq=>(bsh q (by omega)).1)
  omega
 have vadm : ∀ p (hp : p<l.length),0<vl L l p↔adm L l[p]:=fun p hp=>by rw[vl_pos,gl0_at hp]
 have vval : ∀ p (hp : p<l.length),0<vl L l p→vl L l p=l[p]:=fun p hp k=>by rw[← vl_eq k,gl0_at hp]
 have zsh : ∀ q,¬ 0<vl L l q→sh q=0:=fun q hq=>by
  have hz : vl L l q=0:=by
   by_cases k : q<8
   ·have:=(hvk q k).1;omega
   ·exact hv8 q k
  rw[← esh];unfold shr;rw[if_pos hz]
 have hmul : ∀ p (hp : p<l.length),0≤l[p]*S∧l[p]*S≤610000:=fun p hp=>by
  have hb':=hb _ (List.getElem_mem hp)
  exact⟨Int.mul_nonneg hb'.1 hS.1,Int.mul_le_mul hb'.2 hS.2 hS.1 (by omega)⟩
 have hdiv : ∀ p (hp : p<l.length),adm L l[p]→(l[p]*S).tdiv N=sh p∧(l[p]*S).tmod N=rm p:=fun p hp ha=>by
  have vp:=(vadm p hp).2 ha
  have ev:=vval p hp vp
  have hm:=hmul p hp
  have e : shr S (vl L l) p=((l[p]*S)/N,(l[p]*S)%N):=by
   unfold shr
   rw[if_neg (by omega),ev,← hN]
  rw[← esh,← erm,e,Int.tdiv_eq_ediv_of_nonneg hm.1,Int.tmod_eq_emod_of_nonneg hm.1]
  exact⟨rfl,rfl⟩
 refine zS ?_
 refine V.draw ?_
 have zf:=b2.2
 refine VD.nz 2 ?_
 simp only[ds]
 refine VD.callA zA (f36') zA (fun H3 g3=>?_)
 have b3:=b2.grow g3
 have c3:=c2.grow g3
 have d3:=d2.grow g3
 have gH3:=g2.trans g3
 have o1:=g3.1
 have zf:=b3.2
 refine VD.dz ?_ ?_ rfl ?_
 ·exact zM
 ·simp only[dcAll,dcOk,wantD,List.cons_append,List.nil_append,true_and,and_true]
  have zf:=And.intro b2.2<|b3.2
  exact zR
 refine zS ?_
 refine V.l0 ?_
 refine zS ?_
 refine V.loop (fun z t mm X=>∃ (p : Nat),p≤l.length∧z=l.length-p∧mm=[]∧Grow H3 X∧Full 147 t∧Kn [(1,.slice px nx' cx),(2,PT H.next),(6,.slice (some ⟨H1.next,0,none⟩) l.length l.length),(7,.slice (some ⟨H1.next+1,0,none⟩) l.length l.length),(8,I N),(9,I (S-sm sh p)),(10,I p)] t) l.length ?_ ?_
 ·refine⟨0,by omega,by omega,rfl,.refl _,?_⟩
  have e : S-sm sh 0=S:=by simp[sm]
  rw[e]
  exact⟨zF,zK⟩
 clear hF hA
 rintro z t mm X ⟨p,hp,rfl,rfl,gX,hF,hA⟩
 simp only[Kn,and_true] at hA
 have bX:=b3.grow gX
 have sp:=ssh p hp
 refine zS ?_
 have zf:=@hl
 refine V.lz ?_
 refine zS ?_
 refine V.condP zP (fun hlt=>?_) (fun hlt=>?_)
 ·have hlt' : p<l.length:=by omega
  obtain⟨lp,lp1,lp2⟩:=h.at hlt'
  have lp3:=lp2 X (gH3.trans gX)
  have hmp:=hmul p hlt'
  have bp:=bsh p (by omega)
  have hbp:=hb _ (List.getElem_mem hlt')
  refine zS ?_
  refine V.draw ?_
  have zf:=And.intro bX.2<|And.intro @lp1<|@lp3
  refine VD.nz 5 ?_
  simp only[ds]
  refine VD.callA zA (f37_ok 5 S L l[p] X) zA (fun X2 k2=>?_)
  have bX2:=bX.grow k2
  have gX2:=gX.trans k2
  have lp4:=lp2 X2 (gH3.trans gX2)
  have o2:=k2.1
  refine VD.d0 ?_ ?_ rfl ?_
  ·exact zM
  ·simp only[dcAll,dcOk,wantD,List.cons_append,List.nil_append,true_and,and_true]
  refine zS ?_
  refine V.condP zP (fun ha=>?_) (fun ha=>?_)
  ·obtain⟨hq,_⟩:=hdiv p hlt' ha
   have e : S-sm sh p-sh p=S-sm sh (p+1):=by
    show S-sm sh p-sh p=S-(sm sh p+sh p)
    omega
   refine zS ?_
   have zf:=And.intro bX2.2<|And.intro @lp1<|And.intro @lp4<|And.intro @hnz<|@hq
   refine V.dz ?_ ?_ rfl ?_
   ·exact zM
   ·simp only[dcAll,dcOk,wantD,List.cons_append,List.nil_append,true_and,and_true]
   refine zS ?_
   refine V.l0 ?_
   rw[e]
   refine V.nil (Or.inl ⟨rfl,l.length-(p+1),by omega,?_⟩)
   exact⟨p+1,hlt',rfl,rfl,gX2,zF,zK⟩
  ·have e : S-sm sh p=S-sm sh (p+1):=by
    show S-sm sh p=S-(sm sh p+sh p)
    rw[zsh p (fun k=>ha ((vadm p hlt').1 k))]
    omega
   rw[e] at hA
   refine zS ?_
   refine V.l0 ?_
   refine V.nil (Or.inl ⟨rfl,l.length-(p+1),by omega,?_⟩)
   exact⟨p+1,hlt',rfl,rfl,gX2,zF,zK⟩
 obtain rfl : p=l.length:=by omega
 have cX:=c3.grow gX
 have dX:=d3.grow gX
 have gX:=gH3.trans gX
 have hleft : S-sm sh l.length=rleft S (vl L l):=by
  unfold rleft
  rw[← hsh]
  have:=sm_out (v:=sh) (n:=l.length) (k:=8-l.length) (fun q hq=>zsh q (by rw[vl_out hq];omega))
  rw[show l.length+(8-l.length)=8 by omega] at this
  rw[this]
 obtain⟨lf,hlf⟩ : ∃ lf,lf=rleft S (vl L l):=⟨_,rfl⟩
 rw[hleft,← hlf] at hA
 have blf : -4880000≤lf∧lf≤61:=by rw[hlf,← hleft];omega
 refine V.exit ?_
 refine zX ?_
 refine V.nil (Or.inr ⟨by simp,?_⟩)
 refine zX ?_
 refine zS ?_
 refine V.l0 ?_
 refine zS ?_
 have hA8 : ∀ p,p<8→0<vl L l p→A p=sh p+(if rBE S (vl L l) p≤lf then 1 else 0)∧B p=sh p+(if rbe S (vl L l) p<lf then 1 else 0):=fun p hp vp=>by
  have:=spr p hp vp
  rw[← hA0,← hB0,esh,← hlf] at this
  exact this
 have yA : ∀ p,¬ 0<vl L l p→A p=0:=fun p hp=>by rw[hA0];exact F0.1.adm p (fun k=>hp k.2)
 have yB : ∀ p,¬ 0<vl L l p→B p=0:=fun p hp=>by
  rw[hB0]
  rcases F0.2 with⟨_,_,e⟩|⟨_,_,e⟩|⟨_,_,_,e⟩
  ·rw[e];exact F0.1.adm p (fun k=>hp k.2)
  ·rw[e];exact F0.1.adm p (fun k=>hp k.2)
  ·rw[e];unfold Sea.up;rw[if_neg (fun k=>hp (mem_tp.1 k).2.1)];exact F0.1.adm p (fun k=>hp k.2)
 refine V.loop (fun z t mm Y=>∃ (p : Nat),p≤l.length∧z=l.length-p∧mm=[]∧Grow H Y∧Bx Y H.next (A3 5 S L) 23∧Bx Y H1.next (Li (fl l.length fun q=>if q<p then A q else 0)) 3∧Bx Y (H1.next+1) (Li (fl l.length fun q=>if q<p then B q else 0)) 3∧Full 147 t∧Kn [(1,.slice px nx' cx),(2,PT H.next),(6,.slice (some ⟨H1.next,0,none⟩) l.length l.length),(7,.slice (some ⟨H1.next+1,0,none⟩) l.length l.length),(8,I N),(9,I lf),(11,I p)] t) l.length ?_ ?_
 ·exact⟨0,by omega,by omega,rfl,gX,bX,cX,dX,zF,zK⟩
 clear hF hA gX bX cX dX
 rintro z t mm X ⟨p,hp,rfl,rfl,gX,bX,cX,dX,hF,hA⟩
 simp only[Kn,and_true] at hA
 refine zS ?_
 have zf:=@hl
 refine V.lz ?_
 refine zS ?_
 refine V.condP zP (fun hlt=>?_) (fun hlt=>?_)
 ·have hlt' : p<l.length:=by omega
  have hp8 : p<8:=by omega
  obtain⟨lp,lp1,lp2⟩:=h.at hlt'
  have lp3:=lp2 X gX
  have hmp:=hmul p hlt'
  have bp:=bsh p hp8
  have hbp:=hb _ (List.getElem_mem hlt')
  have vap:=vadm p hlt'
  have iA : ∀ (f : Nat→Int) (q : Nat),(if q<p then f q else 0)=if q=p then (0 : Int) else if q<p then f q else 0:=fun f q=>by
   by_cases k : q=p
   ·rw[if_pos k,if_neg (by omega)]
   ·rw[if_neg k]
  have jA : ∀ f : Nat→Int,(fun q : Nat=>if q=p then f p else if q<p then f q else 0)=fun q=>if q<p+1 then f q else 0:=fun f=>by
   funext q
   by_cases k : q=p
   ·rw[if_pos k,if_pos (by omega),k]
   ·rw[if_neg k]
    by_cases k2 : q<p
    ·rw[if_pos k2,if_pos (by omega)]
    ·rw[if_neg k2,if_neg (by omega)]
  rw[funext (iA A)] at cX
  rw[funext (iA B)] at dX
  refine zS ?_
  refine V.draw ?_
  have zf:=And.intro bX.2<|And.intro @lp1<|@lp3
  refine VD.nz 5 ?_
  simp only[ds]
  refine VD.callA zA (f37_ok 5 S L l[p] X) zA (fun X2 k2=>?_)
  have bX2:=bX.grow k2
  have cX2:=cX.grow k2
  have dX2:=dX.grow k2
  have gX2:=gX.trans k2
  have lp4:=lp2 X2 gX2
  have o2:=k2.1
  refine VD.d0 ?_ ?_ rfl ?_
  ·exact zM
  ·simp only[dcAll,dcOk,wantD,List.cons_append,List.nil_append,true_and,and_true]
  refine zS ?_
  by_cases ha : adm L l[p]
  rotate_left
  ·have ha' : (adm L l[p])=False:=eq_false ha
   have t1:=jA A
   have t2:=jA B
   rw[yA p (fun k=>ha (vap.1 k))] at t1
   rw[yB p (fun k=>ha (vap.1 k))] at t2
   rw[t1] at cX2
   rw[t2] at dX2
   refine V.condP zP (fun hx=>?_) (fun hx=>?_)
   ·refine V.exit ?_
    refine zX ?_
    refine zS ?_
    refine V.l0 ?_
    refine V.nil (Or.inl ⟨rfl,l.length-(p+1),by omega,?_⟩)
    exact⟨p+1,hlt',rfl,rfl,gX2,bX2,cX2,dX2,zF,zK⟩
   ·exact absurd ha hx
  refine V.condP zP (fun hx=>?_) (fun hx=>?_)
  ·exact absurd ha hx
  clear hx
  have vp:=vap.2 ha
  obtain⟨hq,hm⟩:=hdiv p hlt' ha
  refine zS ?_
  have zf:=And.intro bX2.2<|And.intro @lp1<|And.intro @lp4<|And.intro @hnz<|And.intro @hq<|@hm
  refine V.dz ?_ ?_ rfl ?_
  ·exact zM
  ·simp only[dcAll,dcOk,wantD,List.cons_append,List.nil_append,true_and,and_true]
  refine zS ?_
  refine V.l0 ?_
  refine zS ?_
  refine V.l0 ?_
  refine zS ?_
  obtain⟨E1,hE1⟩ : ∃ E1 : Nat→Int,E1=fun q=>if 0<vl L l q∧rm p<rm q then 1 else 0:=⟨_,rfl⟩
  obtain⟨E2,hE2⟩ : ∃ E2 : Nat→Int,E2=fun q=>if 0<vl L l q∧rm q=rm p then 1 else 0:=⟨_,rfl⟩
  have bE1 : ∀ k,0≤sm E1 k∧sm E1 k≤1*k:=fun k=>sm_ub (fun q _=>by rw[hE1];dsimp only;split<;>omega)
  have bE2 : ∀ k,0≤sm E2 k∧sm E2 k≤1*k:=fun k=>sm_ub (fun q _=>by rw[hE2];dsimp only;split<;>omega)
  refine V.loop (fun z t mm Y=>∃ (o : Nat),o≤l.length∧z=l.length-o∧mm=[]∧Grow X2 Y∧Full 147 t∧Kn [(1,.slice px nx' cx),(2,PT H.next),(6,.slice (some ⟨H1.next,0,none⟩) l.length l.length),(7,.slice (some ⟨H1.next+1,0,none⟩) l.length l.length),(8,I N),(9,I lf),(11,I p),(12,I (sh p)),(13,I (rm p)),(14,I (sm E1 o)),(15,I (sm E2 o)),(16,I o)] t) l.length ?_ ?_
  ·exact⟨0,by omega,by omega,rfl,.refl _,zF,zK⟩
  clear hF hA
  rintro z t mm Y ⟨o,ho,rfl,rfl,gY,hF,hA⟩
  simp only[Kn,and_true] at hA
  have bY:=bX2.grow gY
  have b1o:=bE1 o
  have b2o:=bE2 o
  refine zS ?_
  have zf:=@hl
  refine V.lz ?_
  refine zS ?_
  refine V.condP zP (fun hlo=>?_) (fun hlo=>?_)
  ·have hlo' : o<l.length:=by omega
   obtain⟨lo,lo1,lo2⟩:=h.at hlo'
   have lo3:=lo2 Y (gX2.trans gY)
   have hmo:=hmul o hlo'
   have bo:=bsh o (by omega)
   have vao:=vadm o hlo'
   have hbo:=hb _ (List.getElem_mem hlo')
   have eE1 : sm E1 (o+1)=sm E1 o+E1 o:=rfl
   have eE2 : sm E2 (o+1)=sm E2 o+E2 o:=rfl
   have vE1 : E1 o=if 0<vl L l o∧rm p<rm o then 1 else 0:=by rw[hE1]
   have vE2 : E2 o=if 0<vl L l o∧rm o=rm p then 1 else 0:=by rw[hE2]
   refine zS ?_
   refine V.draw ?_
   have zf:=And.intro bY.2<|And.intro @lo1<|@lo3
   refine VD.nz 5 ?_
   simp only[ds]
   refine VD.callA zA (f37_ok 5 S L l[o] Y) zA (fun Y2 j2=>?_)
   have bY2:=bY.grow j2
   have gY2:=gY.trans j2
   have lo4:=lo2 Y2 (gX2.trans gY2)
   have o3:=j2.1
   refine VD.d0 ?_ ?_ rfl ?_
   ·exact zM
   ·simp only[dcAll,dcOk,wantD,List.cons_append,List.nil_append,true_and,and_true]
   refine zS ?_
   refine V.condP zP (fun hx=>?_) (fun hx=>?_)
   ·have nv : ¬ 0<vl L l o:=fun k=>hx (vao.1 k)
    rw[if_neg (fun k=>nv k.1)] at vE1 vE2
    have e1 : sm E1 o=sm E1 (o+1):=by omega
    have e2 : sm E2 o=sm E2 (o+1):=by omega
    rw[e1,e2] at hA
    refine V.exit ?_
    refine zX ?_
    refine zS ?_
    refine V.l0 ?_
    refine V.nil (Or.inl ⟨rfl,l.length-(o+1),by omega,?_⟩)
    exact⟨o+1,hlo',rfl,rfl,gY2,zF,zK⟩
   have hao:=Decidable.not_not.1 hx
   clear hx
   have vo:=vao.2 hao
   obtain⟨_,hmr⟩:=hdiv o hlo' hao
   refine zS ?_
   have zf:=And.intro bY2.2<|And.intro @lo1<|And.intro @lo4<|And.intro @hnz<|@hmr
   refine V.dz ?_ ?_ rfl ?_
   ·exact zM
   ·simp only[dcAll,dcOk,wantD,List.cons_append,List.nil_append,true_and,and_true]
   refine zS ?_
   refine V.l0 ?_
   refine zS ?_
   refine V.condP zP (fun k1=>?_) (fun k1=>?_)
   ·rw[if_pos ⟨vo,k1⟩] at vE1
    rw[if_neg (fun k=>by omega)] at vE2
    have e1 : sm E1 o+1=sm E1 (o+1):=by omega
    have e2 : sm E2 o=sm E2 (o+1):=by omega
    rw[e2] at hA
    refine zS ?_
    refine V.l0 ?_
    rw[e1]
    refine zS ?_
    refine V.l0 ?_
    refine V.nil (Or.inl ⟨rfl,l.length-(o+1),by omega,?_⟩)
    exact⟨o+1,hlo',rfl,rfl,gY2,zF,zK⟩
   rw[if_neg (fun k=>k1 k.2)] at vE1
   have e1 : sm E1 o=sm E1 (o+1):=by omega
   rw[e1] at hA
   refine zS ?_
   refine V.l0 ?_
   refine zS ?_
   refine V.condP zP (fun k2=>?_) (fun k2=>?_)
   ·rw[if_pos ⟨vo,k2⟩] at vE2
    have e2 : sm E2 o+1=sm E2 (o+1):=by omega
    refine zS ?_
    refine V.l0 ?_
    rw[e2]
    refine zS ?_
    refine V.l0 ?_
    refine V.nil (Or.inl ⟨rfl,l.length-(o+1),by omega,?_⟩)
    exact⟨o+1,hlo',rfl,rfl,gY2,zF,zK⟩
   ·rw[if_neg (fun k=>k2 k.2)] at vE2
    have e2 : sm E2 o=sm E2 (o+1):=by omega
    rw[e2] at hA
    refine zS ?_
    refine V.l0 ?_
    refine V.nil (Or.inl ⟨rfl,l.length-(o+1),by omega,?_⟩)
    exact⟨o+1,hlo',rfl,rfl,gY2,zF,zK⟩
  ·obtain rfl : o=l.length:=by omega
   have kB : sm E1 l.length=rbe S (vl L l) p:=by
    have:=sm_out (v:=E1) (n:=l.length) (k:=8-l.length) (fun q hq=>by rw[hE1];exact if_neg (fun k=>by have:=k.1;rw[vl_out hq] at this;omega))
    rw[show l.length+(8-l.length)=8 by omega] at this
    rw[← this,hE1,hrm];rfl
   have kE : sm E1 l.length+sm E2 l.length=rBE S (vl L l) p:=by
    have:=sm_out (v:=fun q=>E1 q+E2 q) (n:=l.length) (k:=8-l.length) (fun q hq=>by
     have nv : ¬ 0<vl L l q:=by rw[vl_out hq];omega
     rw[hE1,hE2]
     simp only[nv,false_and,if_false]
     rfl)
    rw[show l.length+(8-l.length)=8 by omega] at this
    rw[← sm_add,← this]
    unfold rBE
    refine sm_cong fun q _=>?_
    rw[hE1,hE2,erm,erm]
    dsimp only
    by_cases v0 : 0<vl L l q
    ·simp only[v0,true_and]
     split<;>split<;>split<;>omega
    ·simp only[v0,false_and,if_false];rfl
   obtain⟨hpA,hpB⟩:=hA8 p hp8 vp
   rw[← kE] at hpA
   rw[← kB] at hpB
   have gZ:=gX2.trans gY
   have bZ:=bX2.grow gY
   have cZ:=cX2.grow gY
   have dZ:=dX2.grow gY
   have oi:=own_idx (y:=H1.next) (c:=l.length) hlt'
   have oi2:=own_idx (y:=H1.next+1) (c:=l.length) hlt'
   have s1:=fl_set (n:=l.length) (p:=p) (g:=fun q=>if q<p then A q else 0) (a:=0) (b:=sh p)
   have s2:=fl_set (n:=l.length) (p:=p) (g:=fun q=>if q<p then B q else 0) (a:=0) (b:=sh p)
   have m7:=cZ.1
   have m8:=bZ.1
   have m9:=dZ.1
   refine V.exit ?_
   refine zX ?_
   refine V.nil (Or.inr ⟨by simp,?_⟩)
   refine zX ?_
   refine zS ?_
   have zf:=And.intro @oi<|And.intro @oi2<|And.intro cZ.2<|And.intro dZ.2<|And.intro @Li_len<|And.intro @fl_len<|And.intro @hlt'<|And.intro @s1<|@s2
   refine V.lz ?_
   refine V.heap (fun X=>Grow H X∧Bx X H.next (A3 5 S L) 23∧Bx X H1.next (Li (fl l.length fun q=>if q=p then sh p else if q<p then A q else 0)) 3∧Bx X (H1.next+1) (Li (fl l.length fun q=>if q=p then sh p else if q<p then B q else 0)) 3) ⟨?_,?_,?_,?_⟩ ?_
   ·exact (gZ.set (by have:=g1.1;omega) _).set (by have:=g1.1;omega) _
   ·exact (bZ.set (by omega) _).set (by omega) _
   ·exact (Bx.put (by omega) _ _).set (by omega) _
   ·exact Bx.put (by simp only[Heap.next_set];omega) _ _
   clear gZ bZ cZ dZ m7 m8 m9
   rintro Z0 ⟨gZ,bZ,cZ,dZ⟩
   refine zS ?_
   refine V.l0 ?_
   refine zS ?_
   refine V.condP zP (fun hA1=>?_) (fun hA1=>?_)
   ·have ea : A p=sh p+1:=by rw[hpA,if_pos (by omega)]
    have hLk : (Li (fl l.length fun q=>if q=p then sh p else if q<p then A q else 0))[p]?=some (I (sh p)):=by rw[Li_at (by rw[fl_len];exact hlt'),fl_at,if_pos rfl]
    have hst:=fl_set (n:=l.length) (p:=p) (g:=fun q=>if q<p then A q else 0) (a:=sh p) (b:=sh p+1)
    have n7:=cZ.1
    have n8:=bZ.1
    refine zS ?_
    have zf:=And.intro @oi<|And.intro cZ.2<|And.intro @hLk<|And.intro @Li_len<|And.intro @fl_len<|And.intro @hlt'<|@hst
    refine V.lz ?_
    rw[← ea]
    refine V.heap (fun X=>Grow H X∧Bx X H.next (A3 5 S L) 23∧Bx X H1.next (Li (fl l.length fun q=>if q<p+1 then A q else 0)) 3∧Bx X (H1.next+1) (Li (fl l.length fun q=>if q=p then sh p else if q<p then B q else 0)) 3) ⟨?_,?_,?_,?_⟩ ?_
    ·exact gZ.set (by have:=g1.1;omega) _
    ·exact bZ.set (by omega) _
    ·rw[← jA A];exact Bx.put (by omega) _ _
    ·exact dZ.set (by omega) _
    clear gZ bZ cZ dZ
    rintro Z ⟨gZ,bZ,cZ,dZ⟩
    refine zS ?_
    have zf:=bZ.2
    refine V.lz ?_
    refine zS ?_
    refine V.condP zP (fun hB1=>?_) (fun hB1=>?_)
    ·have eb : B p=sh p+1:=by rw[hpB,if_pos (by omega)]
     have hLk2 : (Li (fl l.length fun q=>if q=p then sh p else if q<p then B q else 0))[p]?=some (I (sh p)):=by rw[Li_at (by rw[fl_len];exact hlt'),fl_at,if_pos rfl]
     have hst2:=fl_set (n:=l.length) (p:=p) (g:=fun q=>if q<p then B q else 0) (a:=sh p) (b:=sh p+1)
     have n9:=cZ.1
     have n10:=dZ.1
     have n11:=bZ.1
     refine zS ?_
     have zf:=And.intro @oi2<|And.intro dZ.2<|And.intro @hLk2<|And.intro @Li_len<|And.intro @fl_len<|And.intro @hlt'<|@hst2
     refine V.lz ?_
     rw[← eb]
     refine V.heap (fun X=>Grow H X∧Bx X H.next (A3 5 S L) 23∧Bx X H1.next (Li (fl l.length fun q=>if q<p+1 then A q else 0)) 3∧Bx X (H1.next+1) (Li (fl l.length fun q=>if q<p+1 then B q else 0)) 3) ⟨?_,?_,?_,?_⟩ ?_
     ·exact gZ.set (by have:=g1.1;omega) _
     ·exact bZ.set (by omega) _
     ·exact cZ.set (by omega) _
     ·rw[← jA B];exact Bx.put (by omega) _ _
     clear gZ bZ cZ dZ
     rintro W ⟨gZ,bZ,cZ,dZ⟩
     refine zS ?_
     refine V.l0 ?_
     refine V.nil (Or.inl ⟨rfl,l.length-(p+1),by omega,?_⟩)
     exact⟨p+1,hlt',rfl,rfl,gZ,bZ,cZ,dZ,zF,zK⟩
    ·have eb : B p=sh p:=by rw[hpB,if_neg (by omega)];omega
     rw[← eb,jA B] at dZ
     refine zS ?_
     refine V.l0 ?_
     refine V.nil (Or.inl ⟨rfl,l.length-(p+1),by omega,?_⟩)
     exact⟨p+1,hlt',rfl,rfl,gZ,bZ,cZ,dZ,zF,zK⟩
   ·have ea : A p=sh p:=by rw[hpA,if_neg (by omega)];omega
    rw[← ea,jA A] at cZ
    refine zS ?_
    have zf:=bZ.2
    refine V.lz ?_
    refine zS ?_
    refine V.condP zP (fun hB1=>?_) (fun hB1=>?_)
    ·have eb : B p=sh p+1:=by rw[hpB,if_pos (by omega)]
     have hLk2 : (Li (fl l.length fun q=>if q=p then sh p else if q<p then B q else 0))[p]?=some (I (sh p)):=by rw[Li_at (by rw[fl_len];exact hlt'),fl_at,if_pos rfl]
     have hst2:=fl_set (n:=l.length) (p:=p) (g:=fun q=>if q<p then B q else 0) (a:=sh p) (b:=sh p+1)
     have n9:=cZ.1
     have n10:=dZ.1
     have n11:=bZ.1
     refine zS ?_
     have zf:=And.intro @oi2<|And.intro dZ.2<|And.intro @hLk2<|And.intro @Li_len<|And.intro @fl_len<|And.intro @hlt'<|@hst2
     refine V.lz ?_
     rw[← eb]
     refine V.heap (fun X=>Grow H X∧Bx X H.next (A3 5 S L) 23∧Bx X H1.next (Li (fl l.length fun q=>if q<p+1 then A q else 0)) 3∧Bx X (H1.next+1) (Li (fl l.length fun q=>if q<p+1 then B q else 0)) 3) ⟨?_,?_,?_,?_⟩ ?_
     ·exact gZ.set (by have:=g1.1;omega) _
     ·exact bZ.set (by omega) _
     ·exact cZ.set (by omega) _
     ·rw[← jA B];exact Bx.put (by omega) _ _
     clear gZ bZ cZ dZ
     rintro W ⟨gZ,bZ,cZ,dZ⟩
     refine zS ?_
     refine V.l0 ?_
     refine V.nil (Or.inl ⟨rfl,l.length-(p+1),by omega,?_⟩)
     exact⟨p+1,hlt',rfl,rfl,gZ,bZ,cZ,dZ,zF,zK⟩
    ·have eb : B p=sh p:=by rw[hpB,if_neg (by omega)];omega
     rw[← eb,jA B] at dZ
     refine zS ?_
     refine V.l0 ?_
     refine V.nil (Or.inl ⟨rfl,l.length-(p+1),by omega,?_⟩)
     exact⟨p+1,hlt',rfl,rfl,gZ,bZ,cZ,dZ,zF,zK⟩
 ·obtain rfl : p=l.length:=by omega
  refine V.exit ?_
  refine zX ?_
  refine V.nil (Or.inr ⟨by simp,?_⟩)
  refine zX ?_
  refine zS ?_
  refine V.l0 ?_
  refine zS ?_
  refine V.ret (V.rets rfl (Lv.retF (by simp +contextual (disch:=first|omega|simp only[nx];omega) only[D1,cells_alloc_at,cells_alloc_ne,cells_set_at,cells_set_ne,yres,yres1,yresL,qA,qB,qC,D5,hF,hA,↓reduceIte,qD,qE];rfl) ?_))
  have e : ∀ f : Nat→Int,(fl l.length fun q=>if q<l.length then f q else 0)=fl l.length f:=fun f=>by
   apply List.ext_getElem
   ·rw[fl_len,fl_len]
   ·intro i h1 h2
    rw[fl_at,fl_at,if_pos (by rw[fl_len] at h2;exact h2)]
  rw[e] at cX dX
  refine⟨gX,_,_,rfl,?_,?_⟩
  ·rw[← hA0];exact ls_box cX (fl_len _ _)
  ·rw[← hB0];exact ls_box dX (fl_len _ _)
end Go.Xe.TVX
