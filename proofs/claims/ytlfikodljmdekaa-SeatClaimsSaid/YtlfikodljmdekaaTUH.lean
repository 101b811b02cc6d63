/- What the functions of the layer seat come to: SeatClaims. Conditions: none. -/
import Derived.Test.YtlfikodljmdekaaTUG
-- MOD TV
namespace Go.Xe.TVX
open Go Go.Xe Go.Proofs
open Nat renaming reduceLeDiff → qA, reduceSub → qB, reduceAdd → qC, reduceEqDiff → qD, reduceLT → qE
open Int renaming reduceNegSucc → qF, reduceEq → qG
open Go.Xe.V renaming seq → sA, block → sB, scope → sC, skip → sD, close → sE
open Go.Xe renaming pth → P
open Go.Xe.Sea
set_option maxRecDepth 100000
set_option maxHeartbeats 3200000
set_option linter.unusedSimpArgs false
noncomputable def d50 : FCode:=(.seq (.run (.go (.box 23 (tm 0)) (P 3)::
.go (.move (.con (.bool false))) (P 6)::
[])) (.seq (.seq (.run (.go (.move (tm 2)) (P 11)::
.go (.len 0 (tm 11)) (P 12)::
.go (.move (tm 1)) (P 13)::
.go (.len 0 (tm 13)) (P 14)::
.go (.bin .neq 3 (tm 12) (tm 14)) (P 15)::
[])) (.cond (tm 15) (.seq (.run (.go (.move (.con (.bool false))) (P 6)::
[])) .ret) .skip)) (.seq (.run (.go (.move (.con (.bool false))) (P 7)::
[])) (.seq (.seq (.run (.go (.move (.con (.int .i64 (.ofNat 0)))) (P 8)::
[])) (.block 0 (.loop (.seq (.seq (.run (.go (.move (tm 8)) (P 16)::
.go (.move (tm 1)) (P 17)::
.go (.len 0 (tm 17)) (P 18)::
.go (.bin .lss 3 (tm 16) (tm 18)) (P 19)::
[])) (.cond (tm 19) .skip (.exit 0))) (.seq (.block 1 (.seq (.draw 7 (.go (.loadN 3 (tm 3)) (P 22)::
.go (.move (tm 1)) (P 23)::
.go (.move (tm 8)) (P 24)::
.go (.indexAddr none 1 (tm 23) (tm 24)) (P 25)::
.go (.load1 (tm 25)) (P 26)::
.go (.call (.con (.func (.func 37) ⟨[]⟩ ⟨[]⟩)) [(tm 22),(tm 26)]) (P 27)::
.go (.move (tm 27)) (P 9)::
[]) [.ok,.ok,.ok,.ok,.ok,.ok,.ok]) (.seq (.run (.go (.move (tm 7)) (P 28)::
.go (.move (tm 28)) (P 29)::
.gd (P 29) false (.move (tm 9)) (P 30)::
.go (.pick (tm 29) (.con (.bool true)) (tm 30)) (P 31)::
.go (.move (tm 31)) (P 7)::
[])) (.seq (.seq (.draw 25 (.go (.move (tm 2)) (P 32)::
.go (.move (tm 8)) (P 33)::
.go (.indexAddr none 1 (tm 32) (tm 33)) (P 34)::
.go (.load1 (tm 34)) (P 35)::
.go (.bin .lss 3 (tm 35) (.con (.int .i64 (.ofNat 0)))) (P 36)::
.go (.move (tm 36)) (P 37)::
.gd (P 37) false (.move (tm 2)) (P 38)::
.gd (P 37) false (.move (tm 8)) (P 39)::
.gd (P 37) false (.indexAddr none 1 (tm 38) (tm 39)) (P 40)::
.gd (P 37) false (.load1 (tm 40)) (P 41)::
.gd (P 37) false (.fieldAddr 1 (tm 3)) (P 42)::
.gd (P 37) false (.load1 (tm 42)) (P 43)::
.gd (P 37) false (.bin .gtr 3 (tm 41) (tm 43)) (P 44)::
.go (.pick (tm 37) (.con (.bool true)) (tm 44)) (P 45)::
.go (.move (tm 45)) (P 46)::
.gd (P 46) false (.move (tm 9)) (P 47)::
.gd (P 46) false (.un .not (tm 47)) (P 48)::
.gd (P 46) false (.move (tm 48)) (P 49)::
.gd (P 49) true (.move (tm 2)) (P 50)::
.gd (P 49) true (.move (tm 8)) (P 51)::
.gd (P 49) true (.indexAddr none 1 (tm 50) (tm 51)) (P 52)::
.gd (P 49) true (.load1 (tm 52)) (P 53)::
.gd (P 49) true (.bin .gtr 3 (tm 53) (.con (.int .i64 (.ofNat 0)))) (P 54)::
.gd (P 46) false (.pick (tm 49) (tm 54) (.con (.bool false))) (P 55)::
.go (.pick (tm 46) (.con (.bool true)) (tm 55)) (P 56)::
[]) [.ok,.ok,.ok,.ok,.ok,.ok,.ok,.ok,.ok,.ok,.ok,.ok,.ok,.ok,.ok,.ok,.ok,.ok,.ok,.ok,.ok,.ok,.ok,.ok,.ok]) (.cond (tm 56) (.seq (.run (.go (.move (.con (.bool false))) (P 6)::
[])) .ret) .skip)) (.seq (.run (.go (.move (.con (.int .i64 (.ofNat 0)))) (P 10)::
[])) (.block 2 (.loop (.seq (.seq (.run (.go (.move (tm 10)) (P 57)::
.go (.move (tm 1)) (P 58)::
.go (.len 0 (tm 58)) (P 59)::
.go (.bin .lss 3 (tm 57) (tm 59)) (P 60)::
.go (.move (tm 60)) (P 61)::
.gd (P 61) true (.move (tm 9)) (P 62)::
.go (.pick (tm 61) (tm 62) (.con (.bool false))) (P 63)::
[])) (.cond (tm 63) .skip (.exit 2))) (.seq (.block 3 (.seq (.draw 44 (.go (.move (tm 10)) (P 66)::
.go (.move (tm 8)) (P 67)::
.go (.bin .neq 3 (tm 66) (tm 67)) (P 68)::
.go (.move (tm 68)) (P 69)::
.gd (P 69) true (.move (tm 2)) (P 70)::
.gd (P 69) true (.move (tm 10)) (P 71)::
.gd (P 69) true (.indexAddr none 1 (tm 70) (tm 71)) (P 72)::
.gd (P 69) true (.load1 (tm 72)) (P 73)::
.gd (P 69) true (.bin .gtr 3 (tm 73) (.con (.int .i64 (.ofNat 0)))) (P 74)::
.go (.pick (tm 69) (tm 74) (.con (.bool false))) (P 75)::
.go (.move (tm 75)) (P 76)::
.gd (P 76) true (.loadN 3 (tm 3)) (P 77)::
.gd (P 76) true (.move (tm 1)) (P 78)::
.gd (P 76) true (.move (tm 10)) (P 79)::
.gd (P 76) true (.indexAddr none 1 (tm 78) (tm 79)) (P 80)::
.gd (P 76) true (.load1 (tm 80)) (P 81)::
.gd (P 76) true (.call (.con (.func (.func 37) ⟨[]⟩ ⟨[]⟩)) [(tm 77),(tm 81)]) (P 82)::
.go (.pick (tm 76) (tm 82) (.con (.bool false))) (P 83)::
.go (.move (tm 83)) (P 84)::
.gd (P 84) true (.fieldAddr 0 (tm 3)) (P 85)::
.gd (P 84) true (.load1 (tm 85)) (P 86)::
.gd (P 84) true (.move (tm 1)) (P 87)::
.gd (P 84) true (.move (tm 8)) (P 88)::
.gd (P 84) true (.indexAddr none 1 (tm 87) (tm 88)) (P 89)::
.gd (P 84) true (.load1 (tm 89)) (P 90)::
.gd (P 84) true (.move (tm 2)) (P 91)::
.gd (P 84) true (.move (tm 8)) (P 92)::
.gd (P 84) true (.indexAddr none 1 (tm 91) (tm 92)) (P 93)::
.gd (P 84) true (.load1 (tm 93)) (P 94)::
.gd (P 84) true (.call (.con (.func (.func 70) ⟨[]⟩ ⟨[]⟩)) [(tm 86),(tm 90),(tm 94)]) (P 95)::
.gd (P 84) true (.fieldAddr 0 (tm 3)) (P 96)::
.gd (P 84) true (.load1 (tm 96)) (P 97)::
.gd (P 84) true (.move (tm 1)) (P 98)::
.gd (P 84) true (.move (tm 10)) (P 99)::
.gd (P 84) true (.indexAddr none 1 (tm 98) (tm 99)) (P 100)::
.gd (P 84) true (.load1 (tm 100)) (P 101)::
.gd (P 84) true (.move (tm 2)) (P 102)::
.gd (P 84) true (.move (tm 10)) (P 103)::
.gd (P 84) true (.indexAddr none 1 (tm 102) (tm 103)) (P 104)::
.gd (P 84) true (.load1 (tm 104)) (P 105)::
.gd (P 84) true (.bin .sub 3 (tm 105) (.con (.int .i64 (.ofNat 1)))) (P 106)::
.gd (P 84) true (.call (.con (.func (.func 70) ⟨[]⟩ ⟨[]⟩)) [(tm 97),(tm 101),(tm 106)]) (P 107)::
.gd (P 84) true (.call (.con (.func (.func 71) ⟨[]⟩ ⟨[]⟩)) [(tm 95),(tm 107)]) (P 108)::
.go (.pick (tm 84) (tm 108) (.con (.bool false))) (P 109)::
[]) [.ok,.ok,.ok,.ok,.ok,.ok,.ok,.ok,.ok,.ok,.ok,.ok,.ok,.ok,.ok,.ok,.ok,.ok,.ok,.ok,.ok,.ok,.ok,.ok,.ok,.ok,.ok,.ok,.ok,.ok,.ok,.rd (some ((P 84),true)) (.load1 (tm 96)) (some (P 97)) [17],.ok,.ok,.ok,.rd (some ((P 84),true)) (.load1 (tm 100)) (some (P 101)) [17],.ok,.ok,.ok,.rd (some ((P 84),true)) (.load1 (tm 104)) (some (P 105)) [17],.ok,.ok,.ok,.ok]) (.cond (tm 109) (.seq (.run (.go (.move (.con (.bool false))) (P 6)::
[])) .ret) .skip))) (.run (.go (.move (tm 10)) (P 64)::
.go (.bin .add 3 (tm 64) (.con (.int .i64 (.ofNat 1)))) (P 65)::
.go (.move (tm 65)) (P 10)::
[]))))))))))) (.run (.go (.move (tm 8)) (P 20)::
.go (.bin .add 3 (tm 20) (.con (.int .i64 (.ofNat 1)))) (P 21)::
.go (.move (tm 21)) (P 8)::
[]))))))) (.seq (.draw 15 (.go (.move (tm 2)) (P 110)::
.go (.call (.con (.func (.func 49) ⟨[]⟩ ⟨[]⟩)) [tm 110]) (P 111)::
.go (.fieldAddr 1 (tm 3)) (P 112)::
.go (.load1 (tm 112)) (P 113)::
.go (.bin .eql 3 (tm 111) (tm 113)) (P 114)::
.go (.move (tm 114)) (P 115)::
.gd (P 115) false (.move (tm 7)) (P 116)::
.gd (P 115) false (.un .not (tm 116)) (P 117)::
.gd (P 115) false (.move (tm 117)) (P 118)::
.gd (P 118) true (.move (tm 2)) (P 119)::
.gd (P 118) true (.call (.con (.func (.func 49) ⟨[]⟩ ⟨[]⟩)) [tm 119]) (P 120)::
.gd (P 118) true (.bin .eql 3 (tm 120) (.con (.int .i64 (.ofNat 0)))) (P 121)::
.gd (P 115) false (.pick (tm 118) (tm 121) (.con (.bool false))) (P 122)::
.go (.pick (tm 115) (.con (.bool true)) (tm 122)) (P 123)::
.go (.move (tm 123)) (P 6)::
[]) [.ok,.ok,.ok,.rd none (.load1 (tm 112)) (some (P 113)) [0],.ok,.ok,.ok,.ok,.ok,.ok,.ok,.ok,.ok,.ok,.ok]) .ret)))))
theorem de50 : @compF Try.prog (Gl.none Try.prog) Try.f50 3=.mk d50 (mkTT 124) [(P 0),(P 1),(P 2)] [.tmp (P 6)]:=by kernel_rfl
theorem dg50 : Try.prog.funcs[50]?=some Try.f50:=Try.func50
theorem do50 : okF Try.prog Try.f50=true:=by kernel_rfl
def clp (m S L : Int) (l : List Int) (s : Nat→Int) (p : Nat) : Prop:=(0≤s p∧s p≤S)∧¬ (¬ adm L (gl0 l p)∧0<s p)∧(adm L (gl0 l p)→∀ o,o<l.length→o≠p→0<s o→adm L (gl0 l o)→¬ qlt (ofq m (gl0 l o) (s o-1)) (ofq m (gl0 l p) (s p)))
def CLM (m S L : Int) (l st : List Int) : Prop:=st.length=l.length∧(∀ p,p<l.length→clp m S L l (gl0 st) p)∧(sl st=S∨(¬ 0<sm (vl L l) 8∧sl st=0))
open Classical in
theorem f50_ok {H : Heap} {m S L : Int} {x y : Value} {l st : List Int} (h : LS H x l) (hst : LS H y st) (h0 : flt m S L l=0) (hm4 : 1≤m∧m≤4) : Gives Try.prog 50 [.agg ⟨A3 m S L⟩,x,y] H (.bool (decide (CLM m S L l st))):=by
 have hl:=h.len
 have hsl:=hst.len
 obtain⟨px,nx',cx,rfl⟩:=h.s.isS
 obtain⟨py,ny',cy,rfl⟩:=hst.s.isS
 obtain⟨hr,hl8,hb⟩:=flt_0.1 h0
 have hvk:=vl_ok (L:=L) hb
 have hS : 0≤S∧S≤60:=⟨hr.2.2.1,hr.2.2.2.1⟩
 have hgb:=gl0_bd hb
 refine F.entryL rfl dg50 do50 de50 rfl (by kernel_rfl) ?_
 simp only[sets]
 refine V.re [(0,.agg ⟨A3 m S L⟩),(1,.slice px nx' cx),(2,.slice py ny' cy)] (N:=124) zE zY ?_
 intro t hF hA
 simp only[Kn,and_true] at hA
 refine zS ?_
 refine V.l0 ?_
 refine V.heap (fun X=>Grow H X∧Bx X H.next (A3 m S L) 23) ⟨?_,?_⟩ ?_
 ·exact zW
 ·exact zB
 rintro H1 ⟨g1,b1⟩
 refine zS ?_
 have zf:=And.intro @hl<|@hsl
 refine V.lz ?_
 refine zS ?_
 refine V.condP zP (fun hne=>?_) (fun hne=>?_)
 ·refine zS ?_
  refine V.l0 ?_
  refine zS ?_
  refine V.ret (V.rets rfl (Lv.retG (by simp +contextual (disch:=first|omega|simp only[nx];omega) only[D1,cells_alloc_at,cells_alloc_ne,cells_set_at,cells_set_ne,yres,yres1,yresL,qA,qB,qC,D5,hF,hA,↓reduceIte,qD,qE];rfl) ?_ ?_))
  ·exact g1
  ·congr 1
   exact (decide_eq_false (fun k=>hne (by have:=k.1;omega))).symm
 have hll : st.length=l.length:=by omega
 refine zS ?_
 refine V.l0 ?_
 refine zS ?_
 refine V.l0 ?_
 refine zS ?_
 refine V.loop (fun z t mm X=>∃ (p : Nat),p≤l.length∧z=l.length-p∧mm=[]∧Grow H1 X∧(∀ i,i<p→(0≤gl0 st i∧gl0 st i≤S)∧((∀ o,o<l.length→0≤gl0 st o∧gl0 st o≤S)→clp m S L l (gl0 st) i))∧Full 124 t∧Kn [(1,.slice px nx' cx),(2,.slice py ny' cy),(3,PT H.next),(7,.bool (decide (0<sm (vl L l) p))),(8,I p)] t) l.length ?_ ?_
 ·refine⟨0,by omega,by omega,rfl,.refl _,fun i hi=>by omega,?_⟩
  have e : decide (0<sm (vl L l) 0)=false:=rfl
  rw[e]
  exact⟨zF,zK⟩
 clear hF hA
 rintro z t mm X ⟨p,hp,rfl,rfl,hg,hinv,hF,hA⟩
 simp only[Kn,and_true] at hA
 have bx:=b1.grow hg
 refine zS ?_
 have zf:=@hl
 refine V.lz ?_
 refine zS ?_
 refine V.condP zP (fun hlt=>?_) (fun hlt=>?_)
 ·have hlt' : p<l.length:=by omega
  obtain⟨lp,lp1,lp2⟩:=h.at hlt'
  have lp3:=lp2 X (g1.trans hg)
  obtain⟨sp,sp1,sp2⟩:=hst.at (k:=p) (by omega)
  have hbp:=hb _ (List.getElem_mem hlt')
  have egl:=gl0_at hlt'
  have egs:=gl0_at (l:=st) (i:=p) (by omega)
  have ev : vl L l p=if adm L l[p] then l[p] else 0:=by unfold vl vts;rw[egl]
  have es : sm (vl L l) (p+1)=sm (vl L l) p+vl L l p:=rfl
  have hs0 : 0≤sm (vl L l) p:=(sm_ub (s:=vl L l) (b:=10000) (n:=p) (fun i hi=>hvk i (by omega))).1
  refine zS ?_
  refine V.draw ?_
  have zf:=And.intro bx.2<|And.intro @lp1<|@lp3
  refine VD.nz 5 ?_
  simp only[ds]
  refine VD.callA zA (f37_ok m S L l[p] X) zA (fun X2 g2'=>?_)
  have bx2:=bx.grow g2'
  have hg2:=hg.trans g2'
  have sp3:=sp2 X2 (g1.trans hg2)
  have m2:=g2'.1
  refine VD.d0 ?_ ?_ rfl ?_
  ·exact zM
  ·simp only[dcAll,dcOk,wantD,List.cons_append,List.nil_append,true_and,and_true]
  have hsome : (0<sm (vl L l) p∨adm L l[p])=(0<sm (vl L l) (p+1)):=by
   rw[es,ev]
   by_cases ha : adm L l[p]
   ·rw[if_pos ha]
    exact propext ⟨fun _=>by have:=ha.1;omega,fun _=>.inr ha⟩
   ·rw[if_neg ha]
    exact propext ⟨fun k=>by rcases k with k|k;omega;exact absurd k ha,fun k=>.inl (by omega)⟩
  rw[← egs] at sp3
  refine zS ?_
  have zf:=@hsome
  refine V.lz ?_
  refine zS ?_
  by_cases hout : gl0 st p<0∨S<gl0 st p
  ·have ho2 : (gl0 st p<0∨S<gl0 st p)=True:=eq_true hout
   refine V.lineD' (by simp +contextual (disch:=first|omega|simp only[nx];omega) only[D4,qF,qG,qA,qB,qC,D5,hF,hA,↓reduceIte,qD,qE,sp1,sp3,bx2.2,ho2,not_true_eq_false,not_false_eq_true];with_reducible rfl) ?_ ?_ rfl ?_
   ·exact zM
   ·simp only[dcAll,dcOk,wantD,List.cons_append,List.nil_append,true_and,and_true]
   refine zS ?_
   refine V.condT zA ?_
   refine zS ?_
   refine V.l0 ?_
   refine zS ?_
   refine V.ret (V.rets rfl (Or.inr ⟨by simp,V.rets rfl (Lv.retG (by simp +contextual (disch:=first|omega|simp only[nx];omega) only[D1,cells_alloc_at,cells_alloc_ne,cells_set_at,cells_set_ne,yres,yres1,yresL,qA,qB,qC,D5,hF,hA,↓reduceIte,qD,qE];rfl) ?_ ?_)⟩))
   ·exact g1.trans hg2
   ·congr 1
    refine (decide_eq_false (fun k=>?_)).symm
    obtain⟨c1,_⟩:=k.2.1 p hlt'
    omega
  have ho2 : (gl0 st p<0∨S<gl0 st p)=False:=eq_false hout
  have hrange : 0≤gl0 st p∧gl0 st p≤S:=by omega
  refine V.lineD' (by simp +contextual (disch:=first|omega|simp only[nx];omega) only[D4,qF,qG,qA,qB,qC,D5,hF,hA,↓reduceIte,qD,qE,sp1,sp3,bx2.2,ho2,not_true_eq_false,not_false_eq_true];with_reducible rfl) ?_ ?_ rfl ?_
  ·exact zM
  ·simp only[dcAll,dcOk,wantD,List.cons_append,List.nil_append,true_and,and_true]
  refine zS ?_
  refine V.condP zP (fun hbad=>?_) (fun hbad=>?_)
  ·refine zS ?_
   refine V.l0 ?_
   refine zS ?_
   refine V.ret (V.rets rfl (Or.inr ⟨by simp,V.rets rfl (Lv.retG (by simp +contextual (disch:=first|omega|simp only[nx];omega) only[D1,cells_alloc_at,cells_alloc_ne,cells_set_at,cells_set_ne,yres,yres1,yresL,qA,qB,qC,D5,hF,hA,↓reduceIte,qD,qE];rfl) ?_ ?_)⟩))
   ·exact g1.trans hg2
   ·congr 1
    refine (decide_eq_false (fun k=>?_)).symm
    obtain⟨_,c2,_⟩:=k.2.1 p hlt'
    rw[egl] at c2
    exact c2 hbad
  have hnadm : ¬ (¬ adm L l[p]∧0<gl0 st p):=hbad
  clear hbad
  refine zS ?_
  refine V.l0 ?_
  refine zS ?_
  refine V.loop (fun z t mm Y=>∃ (o : Nat),o≤l.length∧z=l.length-o∧mm=[]∧Grow H1 Y∧((∀ o,o<l.length→0≤gl0 st o∧gl0 st o≤S)→adm L l[p]→∀ i,i<o→i≠p→0<gl0 st i→adm L (gl0 l i)→¬ qlt (ofq m (gl0 l i) (gl0 st i-1)) (ofq m l[p] (gl0 st p)))∧Full 124 t∧Kn [(1,.slice px nx' cx),(2,.slice py ny' cy),(3,PT H.next),(7,.bool (decide (0<sm (vl L l) (p+1)))),(8,I p),(9,.bool (decide (adm L l[p]))),(10,I o)] t) l.length ?_ ?_
  ·exact⟨0,by omega,by omega,rfl,hg2,fun _ _ i hi=>by omega,zF,zK⟩
  clear hF hA
  rintro z t mm Y ⟨o,ho,rfl,rfl,gY,hin,hF,hA⟩
  simp only[Kn,and_true] at hA
  have bY:=b1.grow gY
  refine zS ?_
  have zf:=@hl
  refine V.lz ?_
  refine zS ?_
  refine V.condP zP (fun hlo=>?_) (fun hlo=>?_)
  ·have hlo' : o<l.length:=by have:=hlo.1;omega
   have hap:=hlo.2
   obtain⟨lo,lo1,lo2⟩:=h.at hlo'
   obtain⟨so,so1,so2⟩:=hst.at (k:=o) (by omega)
   have lo3:=lo2 Y (g1.trans gY)
   have so3:=so2 Y (g1.trans gY)
   have lp4:=lp2 Y (g1.trans gY)
   have sp4:=sp2 Y (g1.trans gY)
   have hbo:=hb _ (List.getElem_mem hlo')
   have eglo:=gl0_at hlo'
   have egso:=gl0_at (l:=st) (i:=o) (by omega)
   rw[← egso] at so3
   rw[← egs] at sp4
   refine zS ?_
   by_cases hskip : o=p∨¬ 0<gl0 st o
   ·have hnn : ¬ ((¬ (o : Int)=p)∧0<gl0 st o):=fun k=>hskip.elim (fun e=>k.1 (by omega)) (fun e=>e k.2)
    have hdec : ((¬ (o : Int)=p)∧0<gl0 st o)=False:=eq_false hnn
    refine V.draw ?_
    have zf:=And.intro @so1<|And.intro @so3<|@hdec
    refine VD.nz 9 ?_
    simp only[ds]
    have zf:=And.intro @so1<|And.intro @so3<|@hdec
    refine VD.nz 7 ?_
    simp only[ds]
    refine VD.gdF zG ?_
    have zf:=@hdec
    refine VD.nz 9 ?_
    simp only[ds]
    have zf:=@hdec
    refine VD.nz 3 ?_
    simp only[ds]
    refine VD.gdF zG ?_
    have zf:=@hdec
    refine VD.nz 9 ?_
    simp only[ds]
    have zf:=@hdec
    refine VD.nz 2 ?_
    simp only[ds]
    refine VD.gdF zG ?_
    refine VD.gdF zG ?_
    have zf:=@hdec
    refine VD.dz ?_ ?_ rfl ?_
    ·exact zM
    ·simp only[dcAll,dcOk,wantD,List.cons_append,List.nil_append,true_and,and_true]
     refine⟨?_,?_,?_⟩
     ·exact fun hw q hq=>by simp only[wantD,D5,hF,hA,↓reduceIte,qD,qE,beq_iff_eq,decide_eq_false_iff_not,decide_eq_true_eq] at hw
     ·exact fun hw q hq=>by simp only[wantD,D5,hF,hA,↓reduceIte,qD,qE,beq_iff_eq,decide_eq_false_iff_not,decide_eq_true_eq] at hw
     ·exact fun hw q hq=>by simp only[wantD,D5,hF,hA,↓reduceIte,qD,qE,beq_iff_eq,decide_eq_false_iff_not,decide_eq_true_eq] at hw
    refine zS ?_
    refine V.condF zA ?_
    refine zS ?_
    refine V.l0 ?_
    refine V.nil (Or.inl ⟨rfl,l.length-(o+1),by omega,?_⟩)
    refine⟨o+1,hlo',rfl,rfl,gY,fun hall ha i hi=>?_,zF,zK⟩
    rcases Nat.lt_succ_iff_lt_or_eq.1 hi with hi'|rfl
    ·exact hin hall ha i hi'
    ·intro k1 k2
     exact absurd hskip (fun k=>k.elim k1 (fun k=>k k2))
   have hyes : (¬ (o : Int)=p)∧0<gl0 st o:=⟨fun e=>hskip (.inl (by omega)),Decidable.by_contra fun k=>hskip (.inr k)⟩
   have hdec : ((¬ (o : Int)=p)∧0<gl0 st o)=True:=eq_true hyes
   refine V.draw ?_
   have zf:=And.intro @so1<|And.intro @so3<|@hdec
   refine VD.nz 9 ?_
   simp only[ds]
   have zf:=And.intro @so1<|And.intro @so3<|@hdec
   refine VD.nz 2 ?_
   simp only[ds]
   have zf:=And.intro bY.2<|And.intro @lo1<|And.intro @lo3<|@hdec
   refine VD.nz 5 ?_
   simp only[ds]
   refine VD.callAT zG zA (f37_ok m S L l[o] Y) zA (fun Y2 k2=>?_)
   have bY2:=bY.grow k2
   have gY2:=gY.trans k2
   have lo4:=lo2 Y2 (g1.trans gY2)
   have so4:=so2 Y2 (g1.trans gY2)
   have lp5:=lp2 Y2 (g1.trans gY2)
   have sp5:=sp2 Y2 (g1.trans gY2)
   rw[← egso] at so4
   rw[← egs] at sp5
   have n2:=k2.1
   by_cases hao : adm L l[o]
   ·have hao2 : adm L l[o]=True:=eq_true hao
    have zf:=@hao2
    refine VD.nz 2 ?_
    simp only[ds]
    have zf:=And.intro bY2.2<|And.intro @lp1<|And.intro @lp5<|And.intro @sp1<|@sp5
    refine VD.nz 9 ?_
    simp only[ds]
    have zf:=And.intro bY2.2<|And.intro @lp1<|And.intro @lp5<|And.intro @sp1<|@sp5
    refine VD.nz 1 ?_
    simp only[ds]
    refine VD.callRT zG zA (f70_ok (m:=m) (c:=l[p]) (s:=gl0 st p) hbp) zA (fun w3 Y3 ⟨g3,a1,hw3,ha1⟩=>?_)
    subst hw3
    have bY3:=bY2.grow g3
    have gY3:=gY2.trans g3
    have lo5:=lo2 Y3 (g1.trans gY3)
    have so5:=so2 Y3 (g1.trans gY3)
    rw[← egso] at so5
    have zf:=And.intro bY3.2<|And.intro @lo1<|And.intro @lo5<|And.intro @so1<|@so5
    refine VD.nz 9 ?_
    simp only[ds]
    have zf:=And.intro bY3.2<|And.intro @lo1<|And.intro @lo5<|And.intro @so1<|@so5
    refine VD.nz 2 ?_
    simp only[ds]
    refine VD.callRT zG zA (f70_ok (m:=m) (c:=l[o]) (s:=IntKind.i64.wrap (gl0 st o-1)) hbo) zA (fun w4 Y4 ⟨g4,a2,hw4,ha2⟩=>?_)
    subst hw4
    have bY4:=bY3.grow g4
    have gY4:=gY3.trans g4
    have lo6:=lo2 Y4 (g1.trans gY4)
    have so6:=so2 Y4 (g1.trans gY4)
    rw[← egso] at so6
    refine VD.callRT zG zA (f71_ok (a:=a1) (b:=a2)) zA (fun w5 Y5 ⟨g5,rr,hw5,hrr⟩=>?_)
    subst hw5
    have bY5:=bY4.grow g5
    have gY5:=gY4.trans g5
    have lo7:=lo2 Y5 (g1.trans gY5)
    have so7:=so2 Y5 (g1.trans gY5)
    rw[← egso] at so7
    have n3:=g3.1
    have n4:=g4.1
    have n5:=g5.1
    refine VD.d0 ?_ ?_ rfl ?_
    ·exact zM
    ·simp only[dcAll,dcOk,wantD,List.cons_append,List.nil_append,true_and,and_true]
     exact⟨fun hw q hq=>by simp only[wantD,D5,hF,hA,↓reduceIte,qD,qE,beq_iff_eq,decide_eq_false_iff_not,decide_eq_true_eq] at hw;simp only[List.mem_cons,List.not_mem_nil,or_false] at hq;(repeat (rcases hq with rfl|hq;exact⟨_,_,_,rfl,(by simp +contextual (disch:=first|omega|simp only[nx];omega) only[D4,qF,qG,qA,qB,qC,D5,hF,hA,↓reduceIte,qD,qE,if_true,not_false_eq_true,not_true_eq_false,hw,bY2.2,bY3.2,bY4.2,bY5.2,lo1,lo4,lo5,lo6,lo7,so1,so4,so5,so6,so7];with_reducible rfl),fun p hp=>by cases hp;simp only[D5,hF,hA,↓reduceIte,qD,qE,hw,if_true,not_false_eq_true];first|exact vEq_An|(simp[vEq,vEq0,all2];done)|assumption⟩));(try (subst hq;exact⟨_,_,_,rfl,(by simp +contextual (disch:=first|omega|simp only[nx];omega) only[D4,qF,qG,qA,qB,qC,D5,hF,hA,↓reduceIte,qD,qE,if_true,not_false_eq_true,not_true_eq_false,hw,bY2.2,bY3.2,bY4.2,bY5.2,lo1,lo4,lo5,lo6,lo7,so1,so4,so5,so6,so7];with_reducible rfl),fun p hp=>by cases hp;simp only[D5,hF,hA,↓reduceIte,qD,qE,hw,if_true,not_false_eq_true];first|exact vEq_An|(simp[vEq,vEq0,all2];done)|assumption⟩)),fun hw q hq=>by simp only[wantD,D5,hF,hA,↓reduceIte,qD,qE,beq_iff_eq,decide_eq_false_iff_not,decide_eq_true_eq] at hw;simp only[List.mem_cons,List.not_mem_nil,or_false] at hq;(repeat (rcases hq with rfl|hq;exact⟨_,_,_,rfl,(by simp +contextual (disch:=first|omega|simp only[nx];omega) only[D4,qF,qG,qA,qB,qC,D5,hF,hA,↓reduceIte,qD,qE,if_true,not_false_eq_true,not_true_eq_false,hw,bY2.2,bY3.2,bY4.2,bY5.2,lo1,lo4,lo5,lo6,lo7,so1,so4,so5,so6,so7];with_reducible rfl),fun p hp=>by cases hp;simp only[D5,hF,hA,↓reduceIte,qD,qE,hw,if_true,not_false_eq_true];first|exact vEq_An|(simp[vEq,vEq0,all2];done)|assumption⟩));(try (subst hq;exact⟨_,_,_,rfl,(by simp +contextual (disch:=first|omega|simp only[nx];omega) only[D4,qF,qG,qA,qB,qC,D5,hF,hA,↓reduceIte,qD,qE,if_true,not_false_eq_true,not_true_eq_false,hw,bY2.2,bY3.2,bY4.2,bY5.2,lo1,lo4,lo5,lo6,lo7,so1,so4,so5,so6,so7];with_reducible rfl),fun p hp=>by cases hp;simp only[D5,hF,hA,↓reduceIte,qD,qE,hw,if_true,not_false_eq_true];first|exact vEq_An|(simp[vEq,vEq0,all2];done)|assumption⟩)),fun hw q hq=>by simp only[wantD,D5,hF,hA,↓reduceIte,qD,qE,beq_iff_eq,decide_eq_false_iff_not,decide_eq_true_eq] at hw;simp only[List.mem_cons,List.not_mem_nil,or_false] at hq;(repeat (rcases hq with rfl|hq;exact⟨_,_,_,rfl,(by simp +contextual (disch:=first|omega|simp only[nx];omega) only[D4,qF,qG,qA,qB,qC,D5,hF,hA,↓reduceIte,qD,qE,if_true,not_false_eq_true,not_true_eq_false,hw,bY2.2,bY3.2,bY4.2,bY5.2,lo1,lo4,lo5,lo6,lo7,so1,so4,so5,so6,so7];with_reducible rfl),fun p hp=>by cases hp;simp only[D5,hF,hA,↓reduceIte,qD,qE,hw,if_true,not_false_eq_true];first|exact vEq_An|(simp[vEq,vEq0,all2];done)|assumption⟩));(try (subst hq;exact⟨_,_,_,rfl,(by simp +contextual (disch:=first|omega|simp only[nx];omega) only[D4,qF,qG,qA,qB,qC,D5,hF,hA,↓reduceIte,qD,qE,if_true,not_false_eq_true,not_true_eq_false,hw,bY2.2,bY3.2,bY4.2,bY5.2,lo1,lo4,lo5,lo6,lo7,so1,so4,so5,so6,so7];with_reducible rfl),fun p hp=>by cases hp;simp only[D5,hF,hA,↓reduceIte,qD,qE,hw,if_true,not_false_eq_true];first|exact vEq_An|(simp[vEq,vEq0,all2];done)|assumption⟩))⟩
    have hrv : (∀ o,o<l.length→0≤gl0 st o∧gl0 st o≤S)→rr=decide (qlt (ofq m l[o] (gl0 st o-1)) (ofq m l[p] (gl0 st p))):=by
     intro hall
     have r1:=hall o hlo'
     have r2:=hall p hlt'
     have hw : IntKind.i64.wrap (gl0 st o-1)=gl0 st o-1:=wrap_i64 (by omega) (by omega)
     have q0:=hyes.2
     rw[hw] at ha2
     have e1:=ha1 (by omega)
     have e2:=ha2 (by omega)
     rw[e1,e2] at hrr
     have c1:=hap.1
     have c2:=hao.1
     exact hrr (ofq_ok (by omega) (by omega)) (ofq_ok (by omega) (by omega)) (ofq_qb hbp (by omega)) (ofq_qb hbo (by omega))
    refine zS ?_
    refine V.condB zP (fun hbb=>?_) (fun hbb=>?_)
    ·subst hbb
     refine zS ?_
     refine V.l0 ?_
     refine zS ?_
     refine V.ret (V.rets rfl (Or.inr ⟨by simp,V.rets rfl (Or.inr ⟨by simp,V.rets rfl (Lv.retG (by simp +contextual (disch:=first|omega|simp only[nx];omega) only[D1,cells_alloc_at,cells_alloc_ne,cells_set_at,cells_set_ne,yres,yres1,yresL,qA,qB,qC,D5,hF,hA,↓reduceIte,qD,qE];rfl) ?_ ?_)⟩)⟩))
     ·exact g1.trans gY5
     ·congr 1
      refine (decide_eq_false (fun k=>?_)).symm
      have hall : ∀ o,o<l.length→0≤gl0 st o∧gl0 st o≤S:=fun o ho=>(k.2.1 o ho).1
      have h3:=(k.2.1 p hlt').2.2
      rw[egl] at h3
      have h4:=h3 hap o hlo' (fun e=>hyes.1 (by omega)) hyes.2 (by rw[eglo];exact hao)
      rw[eglo] at h4
      have:=hrv hall
      rw[decide_eq_false h4] at this
      cases this
    ·subst hbb
     refine zS ?_
     refine V.l0 ?_
     refine V.nil (Or.inl ⟨rfl,l.length-(o+1),by omega,?_⟩)
     refine⟨o+1,hlo',rfl,rfl,gY5,fun hall ha i hi=>?_,zF,zK⟩
     rcases Nat.lt_succ_iff_lt_or_eq.1 hi with hi'|rfl
     ·exact hin hall ha i hi'
     ·intro _ _ _
      rw[eglo]
      have:=hrv hall
      exact of_decide_eq_false this.symm
   ·have hao2 : adm L l[o]=False:=eq_false hao
    have zf:=@hao2
    refine VD.nz 9 ?_
    simp only[ds]
    have zf:=@hao2
    refine VD.nz 3 ?_
    simp only[ds]
    refine VD.gdF zG ?_
    have zf:=@hao2
    refine VD.nz 9 ?_
    simp only[ds]
    have zf:=@hao2
    refine VD.nz 2 ?_
    simp only[ds]
    refine VD.gdF zG ?_
    refine VD.gdF zG ?_
    have zf:=@hao2
    refine VD.dz ?_ ?_ rfl ?_
    ·exact zM
    ·simp only[dcAll,dcOk,wantD,List.cons_append,List.nil_append,true_and,and_true]
     refine⟨?_,?_,?_⟩
     ·exact fun hw q hq=>by simp only[wantD,D5,hF,hA,↓reduceIte,qD,qE,beq_iff_eq,decide_eq_false_iff_not,decide_eq_true_eq] at hw
     ·exact fun hw q hq=>by simp only[wantD,D5,hF,hA,↓reduceIte,qD,qE,beq_iff_eq,decide_eq_false_iff_not,decide_eq_true_eq] at hw
     ·exact fun hw q hq=>by simp only[wantD,D5,hF,hA,↓reduceIte,qD,qE,beq_iff_eq,decide_eq_false_iff_not,decide_eq_true_eq] at hw
    refine zS ?_
    refine V.condF zA ?_
    refine zS ?_
    refine V.l0 ?_
    refine V.nil (Or.inl ⟨rfl,l.length-(o+1),by omega,?_⟩)
    refine⟨o+1,hlo',rfl,rfl,gY2,fun hall ha i hi=>?_,zF,zK⟩
    rcases Nat.lt_succ_iff_lt_or_eq.1 hi with hi'|rfl
    ·exact hin hall ha i hi'
    ·intro _ _ k3
     rw[eglo] at k3
     exact absurd k3 hao
  ·refine V.exit ?_
   refine zX ?_
   refine V.nil (Or.inr ⟨by simp,?_⟩)
   refine zX ?_
   refine zS ?_
   refine V.l0 ?_
   refine V.nil (Or.inl ⟨rfl,l.length-(p+1),by omega,?_⟩)
   refine⟨p+1,hlt',rfl,rfl,gY,fun i hi=>?_,zF,zK⟩
   rcases Nat.lt_succ_iff_lt_or_eq.1 hi with hi'|rfl
   ·exact hinv i hi'
   ·refine⟨hrange,fun hall=>⟨hrange,by rw[egl];exact hnadm,fun ha o' ho'=>?_⟩⟩
    rw[egl] at ha ⊢
    have : o=l.length:=by
     apply Decidable.by_contra
     intro k
     exact hlo ⟨by omega,ha⟩
    subst this
    exact hin hall ha o' ho'
 ·obtain rfl : p=l.length:=by omega
  have hall : ∀ o,o<l.length→0≤gl0 st o∧gl0 st o≤S:=fun o ho=>(hinv o ho).1
  have hcl : ∀ o,o<l.length→clp m S L l (gl0 st) o:=fun o ho=>(hinv o ho).2 hall
  have hlst : ∀ v∈st,-10000000≤v∧v≤10000000:=by
   intro v hv
   obtain⟨i,hi,rfl⟩:=List.mem_iff_getElem.1 hv
   have:=hall i (by omega)
   rw[gl0_at hi] at this
   omega
  have gX:=g1.trans hg
  have hd : decide (CLM m S L l st)=decide (sl st=S∨(¬ 0<sm (vl L l) 8∧sl st=0)):=by
   rw[decide_eq_decide]
   exact⟨fun k=>k.2.2,fun k=>⟨hll,hcl,k⟩⟩
  rw[hd]
  rw[← vl_sum hl8] at hA
  have f49':=fun X (g : Grow H X)=>f49_ok (hst.grow g) (by omega) hlst
  refine V.exit ?_
  refine zX ?_
  refine V.nil (Or.inr ⟨by simp,?_⟩)
  refine zX ?_
  refine zS ?_
  refine V.draw ?_
  refine VD.n0 1 ?_
  simp only[ds]
  refine VD.callA zA (f49' X gX) zA (fun Y1 k1=>?_)
  have bY1:=bx.grow k1
  have n1:=k1.1
  by_cases c1 : sl st=S
  ·have c1' : (sl st=S)=True:=eq_true c1
   refine VD.dins 8 (by simp +contextual (disch:=first|omega|simp only[nx];omega) only[D4,qF,qG,qA,qB,qC,D5,hF,hA,↓reduceIte,qD,qE,bY1.2,c1',not_true_eq_false,not_false_eq_true];with_reducible rfl) ?_
   simp only[ds]
   refine VD.gdN zG ?_
   refine VD.lineD' (by simp +contextual (disch:=first|omega|simp only[nx];omega) only[D4,qF,qG,qA,qB,qC,D5,hF,hA,↓reduceIte,qD,qE,c1',not_true_eq_false,not_false_eq_true];with_reducible rfl) ?_ ?_ rfl ?_
   ·exact zM
   ·simp only[dcAll,dcOk,wantD,List.cons_append,List.nil_append,true_and,and_true]
    have zf:=And.intro bx.2<|bY1.2
    exact zR
   refine zS ?_
   refine V.ret (V.rets rfl (Lv.retG (by simp +contextual (disch:=first|omega|simp only[nx];omega) only[D1,cells_alloc_at,cells_alloc_ne,cells_set_at,cells_set_ne,yres,yres1,yresL,qA,qB,qC,D5,hF,hA,↓reduceIte,qD,qE];rfl) ?_ ?_))
   ·exact gX.trans k1
   ·congr 1
    exact (decide_eq_true (.inl c1)).symm
  ·have c1' : (sl st=S)=False:=eq_false c1
   by_cases c2 : 0<sm (vl L l) 8
   ·have c2' : (0<sm (vl L l) 8)=True:=eq_true c2
    refine VD.dins 8 (by simp +contextual (disch:=first|omega|simp only[nx];omega) only[D4,qF,qG,qA,qB,qC,D5,hF,hA,↓reduceIte,qD,qE,bY1.2,c1',c2',not_true_eq_false,not_false_eq_true];with_reducible rfl) ?_
    simp only[ds]
    refine VD.gdF zG ?_
    refine VD.lineD' (by simp +contextual (disch:=first|omega|simp only[nx];omega) only[D4,qF,qG,qA,qB,qC,D5,hF,hA,↓reduceIte,qD,qE,c1',c2',not_true_eq_false,not_false_eq_true];with_reducible rfl) ?_ ?_ rfl ?_
    ·exact zM
    ·simp only[dcAll,dcOk,wantD,List.cons_append,List.nil_append,true_and,and_true]
     have zf:=And.intro bx.2<|bY1.2
     exact zR
    refine zS ?_
    refine V.ret (V.rets rfl (Lv.retG (by simp +contextual (disch:=first|omega|simp only[nx];omega) only[D1,cells_alloc_at,cells_alloc_ne,cells_set_at,cells_set_ne,yres,yres1,yresL,qA,qB,qC,D5,hF,hA,↓reduceIte,qD,qE];rfl) ?_ ?_))
    ·exact gX.trans k1
    ·congr 1
     refine (decide_eq_false (fun k=>?_)).symm
     rcases k with k|k
     ·exact c1 k
     ·exact k.1 c2
   ·have c2' : (0<sm (vl L l) 8)=False:=eq_false c2
    refine VD.dins 8 (by simp +contextual (disch:=first|omega|simp only[nx];omega) only[D4,qF,qG,qA,qB,qC,D5,hF,hA,↓reduceIte,qD,qE,bY1.2,c1',c2',not_true_eq_false,not_false_eq_true];with_reducible rfl) ?_
    simp only[ds]
    refine VD.callAT zG zA (f49' Y1 (gX.trans k1)) zA (fun Y2 k2=>?_)
    have bY2:=bY1.grow k2
    have n2:=k2.1
    refine VD.lineD' (by simp +contextual (disch:=first|omega|simp only[nx];omega) only[D4,qF,qG,qA,qB,qC,D5,hF,hA,↓reduceIte,qD,qE,c1',c2',not_true_eq_false,not_false_eq_true];with_reducible rfl) ?_ ?_ rfl ?_
    ·exact zM
    ·simp only[dcAll,dcOk,wantD,List.cons_append,List.nil_append,true_and,and_true]
     have zf:=And.intro bx.2<|And.intro bY1.2<|bY2.2
     exact zR
    refine zS ?_
    refine V.ret (V.rets rfl (Lv.retG (by simp +contextual (disch:=first|omega|simp only[nx];omega) only[D1,cells_alloc_at,cells_alloc_ne,cells_set_at,cells_set_ne,yres,yres1,yresL,qA,qB,qC,D5,hF,hA,↓reduceIte,qD,qE];rfl) ?_ ?_))
    ·exact (gX.trans k1).trans k2
    ·congr 1
     rw[decide_eq_decide]
     exact⟨fun k=>.inr ⟨c2,k⟩,fun k=>k.elim (fun k=>absurd k c1) (fun k=>k.2)⟩
end Go.Xe.TVX
