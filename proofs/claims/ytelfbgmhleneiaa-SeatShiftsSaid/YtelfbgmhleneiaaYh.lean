/- What the functions of the layer seat come to: SeatShifts. Conditions: none. -/
import Derived.Test.YtelfbgmhleneiaaTUW
import Derived.Test.YtelfbgmhleneiaaZm
import Derived.WideShapes
import Derived.ChangeSame
import Derived.Below
-- MOD TV
namespace Go.Xe.TVX
open Go Go.Xe Go.Proofs
open Nat renaming reduceLeDiff → qA, reduceSub → qB, reduceAdd → qC, reduceEqDiff → qD, reduceLT → qE
open Int renaming reduceNegSucc → qF, reduceEq → qG
open Go.Xe.V renaming seq → sA, block → sB, scope → sC, skip → sD, close → sE
open Go.Xe renaming pth → P
open Go.Xe.Sea
set_option maxRecDepth 100000
set_option maxHeartbeats 3200000
set_option linter.unusedSimpArgs false
noncomputable def d8 : FCode:=(.seq (.run (.go (.box 23 (tm 0)) (P 2)::
.go (.move (.con (.bool false))) (P 4)::
[])) (.seq (.seq (.run (.go (.move (tm 1)) (P 15)::
.go (.len 0 (tm 15)) (P 16)::
.go (.bin .gtr 3 (tm 16) (.con (.int .i64 (.ofNat 11)))) (P 17)::
[])) (.cond (tm 17) (.seq (.run (.go (.call (.con (.func (.func 20) ⟨[]⟩ ⟨[]⟩)) []) (P 18)::
.go (.move (tm 18)) (P 4)::
[])) .ret) .skip)) (.seq (.run (.go (.loadN 3 (tm 2)) (P 19)::
.go (.move (tm 1)) (P 20)::
.go (.call (.con (.func (.func 25) ⟨[]⟩ ⟨[]⟩)) [(tm 19),(tm 20)]) (P 21)::
.go (.move (tm 21)) (P 5)::
[])) (.seq (.seq (.run (.go (.move (tm 5)) (P 22)::
.go (.bin .eql 26 (tm 22) (.con (.int .i64 (.ofNat 0)))) (P 23)::
.go (.move (tm 23)) (P 24)::
.gd (P 24) true (.fieldAddr 1 (tm 2)) (P 25)::
.gd (P 24) true (.load1 (tm 25)) (P 26)::
.gd (P 24) true (.bin .gtr 3 (tm 26) (.con (.int .i64 (.ofNat 8)))) (P 27)::
.gd (P 24) true (.move (tm 27)) (P 28)::
.gd (P 28) false (.move (tm 1)) (P 29)::
.gd (P 28) false (.len 0 (tm 29)) (P 30)::
.gd (P 28) false (.bin .gtr 3 (tm 30) (.con (.int .i64 (.ofNat 4)))) (P 31)::
.gd (P 24) true (.pick (tm 28) (.con (.bool true)) (tm 31)) (P 32)::
.go (.pick (tm 24) (tm 32) (.con (.bool false))) (P 33)::
[])) (.cond (tm 33) (.seq (.run (.go (.call (.con (.func (.func 20) ⟨[]⟩ ⟨[]⟩)) []) (P 34)::
.go (.move (tm 34)) (P 4)::
[])) .ret) .skip)) (.seq (.run (.go (.loadN 3 (tm 2)) (P 36)::
.go (.call (.con (.func (.func 22) ⟨[]⟩ ⟨[]⟩)) [tm 36]) (P 37)::
.go (.move (tm 1)) (P 38)::
.go (.call (.con (.func (.func 24) ⟨[]⟩ ⟨[]⟩)) [tm 38]) (P 39)::
.go (.call (.con (.func (.func 43) ⟨[]⟩ ⟨[]⟩)) [(tm 37),(tm 39)]) (P 40)::
.go (.move (tm 40)) (P 35)::
.go (.extract (tm 35) 0) (P 41)::
.go (.extract (tm 35) 1) (P 42)::
.go (.extract (tm 35) 2) (P 43)::
.go (.move (tm 41)) (P 6)::
.go (.move (tm 42)) (P 7)::
.go (.move (tm 43)) (P 8)::
[])) (.seq (.seq (.run (.go (.move (tm 5)) (P 44)::
.go (.bin .eql 26 (tm 44) (.con (.int .i64 (.ofNat 0)))) (P 45)::
[])) (.cond (tm 45) (.seq (.run (.go (.loadN 3 (tm 2)) (P 47)::
.go (.move (tm 1)) (P 48)::
.go (.call (.con (.func (.func 27) ⟨[]⟩ ⟨[]⟩)) [(tm 47),(tm 48)]) (P 49)::
.go (.move (tm 49)) (P 46)::
.go (.extract (tm 46) 0) (P 50)::
.go (.extract (tm 46) 1) (P 51)::
.go (.move (tm 50)) (P 9)::
.go (.move (tm 51)) (P 10)::
[])) (.seq (.run (.go (.move (tm 10)) (P 52)::
.go (.un .not (tm 52)) (P 53)::
[])) (.cond (tm 53) (.run (.go (.move (.con (.int .i64 (.ofNat 10)))) (P 5)::
[])) .skip))) .skip)) (.seq (.seq (.run (.go (.move (tm 5)) (P 54)::
.go (.bin .neq 26 (tm 54) (.con (.int .i64 (.ofNat 0)))) (P 55)::
[])) (.cond (tm 55) (.seq (.run (.go (.move (tm 8)) (P 56)::
.go (.move (tm 5)) (P 57)::
.go (.bin .eql 26 (tm 56) (tm 57)) (P 58)::
.go (.move (tm 58)) (P 59)::
.gd (P 59) true (.move (tm 6)) (P 60)::
.gd (P 59) true (.bin .eql 3 (tm 60) (.con (.int .i64 (.ofNat 0)))) (P 61)::
.go (.pick (tm 59) (tm 61) (.con (.bool false))) (P 62)::
.go (.move (tm 62)) (P 63)::
.gd (P 63) true (.move (tm 7)) (P 64)::
.gd (P 63) true (.bin .eql 3 (tm 64) (.con (.int .i64 (.ofNat 0)))) (P 65)::
.go (.pick (tm 63) (tm 65) (.con (.bool false))) (P 66)::
.go (.move (tm 66)) (P 67)::
.gd (P 67) true (.call (.con (.func (.func 20) ⟨[]⟩ ⟨[]⟩)) []) (P 68)::
.go (.pick (tm 67) (tm 68) (.con (.bool false))) (P 69)::
.go (.move (tm 69)) (P 4)::
[])) .ret) .skip)) (.seq (.seq (.run (.go (.move (.con (.int .i64 (.ofNat 1)))) (P 11)::
[])) (.block 0 (.loop (.seq (.seq (.run (.go (.move (tm 11)) (P 70)::
.go (.bin .leq 3 (tm 70) (.con (.int .i64 (.ofNat 60)))) (P 71)::
[])) (.cond (tm 71) .skip (.exit 0))) (.seq (.block 1 (.seq (.run (.go (.move (.con (.int .i64 (.ofNat 0)))) (P 12)::
[])) (.block 2 (.loop (.seq (.seq (.run (.go (.move (tm 12)) (P 74)::
.go (.move (tm 1)) (P 75)::
.go (.len 0 (tm 75)) (P 76)::
.go (.bin .lss 3 (tm 74) (tm 76)) (P 77)::
[])) (.cond (tm 77) .skip (.exit 2))) (.seq (.block 3 (.seq (.run (.go (.move (.con (.int .i64 (.ofNat 0)))) (P 13)::
[])) (.block 4 (.loop (.seq (.seq (.run (.go (.move (tm 13)) (P 80)::
.go (.bin .lss 3 (tm 80) (.con (.int .i64 (.ofNat 2)))) (P 81)::
[])) (.cond (tm 81) .skip (.exit 4))) (.seq (.block 5 (.seq (.run (.go (.move (tm 11)) (P 84)::
.go (.move (tm 13)) (P 85)::
.go (.bin .mul 3 (.con (.int .i64 (.ofNat 2))) (tm 85)) (P 86)::
.go (.move (tm 11)) (P 87)::
.go (.bin .mul 3 (tm 86) (tm 87)) (P 88)::
.go (.bin .sub 3 (tm 84) (tm 88)) (P 89)::
.go (.move (tm 89)) (P 14)::
[])) (.seq (.run (.go (.move (tm 1)) (P 90)::
.go (.move (tm 12)) (P 91)::
.go (.indexAddr none 1 (tm 90) (tm 91)) (P 92)::
.go (.load1 (tm 92)) (P 93)::
.go (.move (tm 14)) (P 94)::
.go (.bin .add 3 (tm 93) (tm 94)) (P 95)::
.go (.call (.con (.func (.func 38) ⟨[]⟩ ⟨[]⟩)) [(tm 95),(.con (.int .i64 (.ofNat 0))),(.con (.int .i64 (.ofNat 10000)))]) (P 96)::
.go (.move (tm 96)) (P 97)::
.gd (P 97) true (.loadN 3 (tm 2)) (P 98)::
.gd (P 97) true (.move (tm 1)) (P 99)::
.gd (P 97) true (.move (tm 12)) (P 100)::
.gd (P 97) true (.move (tm 14)) (P 101)::
.gd (P 97) true (.call (.con (.func (.func 44) ⟨[]⟩ ⟨[]⟩)) [(tm 98),(tm 99),(tm 100),(tm 101)]) (P 102)::
.go (.pick (tm 97) (tm 102) (.con (.bool false))) (P 103)::
[])) (.cond (tm 103) (.seq (.run (.go (.move (tm 8)) (P 104)::
.go (.bin .eql 26 (tm 104) (.con (.int .i64 (.ofNat 0)))) (P 105)::
.go (.move (tm 105)) (P 106)::
.gd (P 106) true (.move (tm 6)) (P 107)::
.gd (P 106) true (.move (tm 12)) (P 108)::
.gd (P 106) true (.bin .eql 3 (tm 107) (tm 108)) (P 109)::
.go (.pick (tm 106) (tm 109) (.con (.bool false))) (P 110)::
.go (.move (tm 110)) (P 111)::
.gd (P 111) true (.move (tm 7)) (P 112)::
.gd (P 111) true (.move (tm 14)) (P 113)::
.gd (P 111) true (.bin .eql 3 (tm 112) (tm 113)) (P 114)::
.go (.pick (tm 111) (tm 114) (.con (.bool false))) (P 115)::
.go (.move (tm 115)) (P 116)::
.gd (P 116) true (.call (.con (.func (.func 20) ⟨[]⟩ ⟨[]⟩)) []) (P 117)::
.go (.pick (tm 116) (tm 117) (.con (.bool false))) (P 118)::
.go (.move (tm 118)) (P 4)::
[])) .ret) .skip)))) (.run (.go (.move (tm 13)) (P 82)::
.go (.bin .add 3 (tm 82) (.con (.int .i64 (.ofNat 1)))) (P 83)::
.go (.move (tm 83)) (P 13)::
[])))))))) (.run (.go (.move (tm 12)) (P 78)::
.go (.bin .add 3 (tm 78) (.con (.int .i64 (.ofNat 1)))) (P 79)::
.go (.move (tm 79)) (P 12)::
[])))))))) (.run (.go (.move (tm 11)) (P 72)::
.go (.bin .add 3 (tm 72) (.con (.int .i64 (.ofNat 1)))) (P 73)::
.go (.move (tm 73)) (P 11)::
[]))))))) (.seq (.seq (.run (.go (.move (tm 8)) (P 119)::
.go (.bin .eql 26 (tm 119) (.con (.int .i64 (.ofNat 0)))) (P 120)::
[])) (.cond (tm 120) (.seq (.run (.go (.move (tm 7)) (P 121)::
.go (.bin .gtr 3 (tm 121) (.con (.int .i64 (.ofNat 60)))) (P 122)::
.go (.move (tm 122)) (P 123)::
.gd (P 123) false (.move (tm 7)) (P 124)::
.gd (P 123) false (.bin .lss 3 (tm 124) (.con (.int .i64 (.negSucc 59)))) (P 125)::
.go (.pick (tm 123) (.con (.bool true)) (tm 125)) (P 126)::
.go (.move (tm 126)) (P 127)::
.gd (P 127) true (.move (tm 6)) (P 128)::
.gd (P 127) true (.move (tm 1)) (P 129)::
.gd (P 127) true (.len 0 (tm 129)) (P 130)::
.gd (P 127) true (.bin .sub 3 (tm 130) (.con (.int .i64 (.ofNat 1)))) (P 131)::
.gd (P 127) true (.call (.con (.func (.func 38) ⟨[]⟩ ⟨[]⟩)) [(tm 128),(.con (.int .i64 (.ofNat 0))),(tm 131)]) (P 132)::
.go (.pick (tm 127) (tm 132) (.con (.bool false))) (P 133)::
.go (.move (tm 133)) (P 134)::
.gd (P 134) true (.move (tm 1)) (P 135)::
.gd (P 134) true (.move (tm 6)) (P 136)::
.gd (P 134) true (.indexAddr none 1 (tm 135) (tm 136)) (P 137)::
.gd (P 134) true (.load1 (tm 137)) (P 138)::
.gd (P 134) true (.move (tm 7)) (P 139)::
.gd (P 134) true (.bin .add 3 (tm 138) (tm 139)) (P 140)::
.gd (P 134) true (.call (.con (.func (.func 38) ⟨[]⟩ ⟨[]⟩)) [(tm 140),(.con (.int .i64 (.ofNat 0))),(.con (.int .i64 (.ofNat 10000)))]) (P 141)::
.go (.pick (tm 134) (tm 141) (.con (.bool false))) (P 142)::
.go (.move (tm 142)) (P 143)::
.gd (P 143) true (.loadN 3 (tm 2)) (P 144)::
.gd (P 143) true (.move (tm 1)) (P 145)::
.gd (P 143) true (.move (tm 6)) (P 146)::
.gd (P 143) true (.move (tm 7)) (P 147)::
.gd (P 143) true (.call (.con (.func (.func 44) ⟨[]⟩ ⟨[]⟩)) [(tm 144),(tm 145),(tm 146),(tm 147)]) (P 148)::
.go (.pick (tm 143) (tm 148) (.con (.bool false))) (P 149)::
.go (.move (tm 149)) (P 150)::
.gd (P 150) true (.call (.con (.func (.func 20) ⟨[]⟩ ⟨[]⟩)) []) (P 151)::
.go (.pick (tm 150) (tm 151) (.con (.bool false))) (P 152)::
.go (.move (tm 152)) (P 4)::
[])) .ret) .skip)) (.seq (.run (.go (.move (tm 8)) (P 153)::
.go (.bin .eql 26 (tm 153) (.con (.int .i64 (.ofNat 9)))) (P 154)::
.go (.move (tm 154)) (P 155)::
.gd (P 155) true (.move (tm 6)) (P 156)::
.gd (P 155) true (.bin .eql 3 (tm 156) (.con (.int .i64 (.ofNat 0)))) (P 157)::
.go (.pick (tm 155) (tm 157) (.con (.bool false))) (P 158)::
.go (.move (tm 158)) (P 159)::
.gd (P 159) true (.move (tm 7)) (P 160)::
.gd (P 159) true (.bin .eql 3 (tm 160) (.con (.int .i64 (.ofNat 0)))) (P 161)::
.go (.pick (tm 159) (tm 161) (.con (.bool false))) (P 162)::
.go (.move (tm 162)) (P 163)::
.gd (P 163) true (.call (.con (.func (.func 20) ⟨[]⟩ ⟨[]⟩)) []) (P 164)::
.go (.pick (tm 163) (tm 164) (.con (.bool false))) (P 165)::
.go (.move (tm 165)) (P 4)::
[])) .ret))))))))))
theorem de8 : @compF Try.prog (Gl.none Try.prog) Try.f8 2=.mk d8 (mkTT 166) [(P 0),(P 1)] [.tmp (P 4)]:=by kernel_rfl
theorem dg8 : Try.prog.funcs[8]?=some Try.f8:=Try.func8
theorem do8 : okF Try.prog Try.f8=true:=by kernel_rfl
theorem f8_all {H : Heap} {m S L : Int} {x : Value} {l : List Int} (hx : Sl H x (l.map I)) : F Try.prog 8 ⟨[.agg ⟨A3 m S L⟩,x]⟩ H (fun w _=>w=.bool true):=by
 have h : LS H x l:=⟨hx⟩
 have hl:=h.len
 obtain⟨px,nx',cx,rfl⟩:=h.s.isS
 refine F.entryL rfl dg8 do8 de8 rfl (by kernel_rfl) ?_
 simp only[sets]
 refine V.re [(0,.agg ⟨A3 m S L⟩),(1,.slice px nx' cx)] (N:=166) zE zY ?_
 intro t hF hA
 simp only[Kn,and_true] at hA
 refine zS ?_
 refine V.l0 ?_
 refine V.heap (fun X=>Grow H X∧Bx X H.next (A3 m S L) 23) ⟨?_,?_⟩ ?_
 ·exact zW
 ·exact zB
 rintro H1 ⟨g1,b1⟩
 refine zS ?_
 have zf:=@hl
 refine V.lz ?_
 refine zS ?_
 refine V.condP zP (fun hbig=>?_) (fun hbig=>?_)
 ·refine zS ?_
  refine V.run ?_
  refine VI.callA rfl (f20_ok _) zA (fun H3 g3=>?_)
  refine VI.l0 ?_
  refine zS ?_
  refine V.ret (V.rets rfl (Lv.retF (by simp +contextual (disch:=first|omega|simp only[nx];omega) only[D1,cells_alloc_at,cells_alloc_ne,cells_set_at,cells_set_ne,yres,yres1,yresL,qA,qB,qC,D5,hF,hA,↓reduceIte,qD,qE];rfl) ?_))
  rfl
 refine zS ?_
 refine V.run ?_
 have zf:=b1.2
 refine VI.sz 2 ?_
 simp only[ds]
 refine VI.callA rfl (f25_ok (m:=m) (S:=S) (L:=L) (h.grow g1)) zA (fun H2 g2=>?_)
 have b2:=b1.grow g2
 have g12:=g1.trans g2
 obtain⟨f,hf⟩ : ∃ f,f=flt m S L l:=⟨_,rfl⟩
 rw[← hf]
 refine VI.l0 ?_
 refine zS ?_
 by_cases h0 : f=0
 ·subst h0
  have hz : ((0 : Int)=0)=True:=eq_self _
  have zf:=And.intro b2.2<|And.intro @hl<|@hz
  refine V.lz ?_
  refine zS ?_
  refine V.condP zP (fun hbg=>?_) (fun hbg=>?_)
  ·refine zS ?_
   refine V.run ?_
   refine VI.callA rfl (f20_ok _) zA (fun H3 g3=>?_)
   refine VI.l0 ?_
   refine zS ?_
   refine V.ret (V.rets rfl (Lv.retF (by simp +contextual (disch:=first|omega|simp only[nx];omega) only[D1,cells_alloc_at,cells_alloc_ne,cells_set_at,cells_set_ne,yres,yres1,yresL,qA,qB,qC,D5,hF,hA,↓reduceIte,qD,qE];rfl) ?_))
   rfl
  refine zS ?_
  refine V.run ?_
  have zf:=b2.2
  refine VI.sz 1 ?_
  simp only[ds]
  refine VI.callA rfl (f22_ok m S L _) zA (fun H3 g3=>?_)
  refine VI.s0 1 ?_
  simp only[ds]
  refine VI.callR zA (f24_ok (h.grow (g12.trans g3)) (by omega)) zA (fun w4 H4 ⟨g4,o4⟩=>?_)
  refine VI.callR zA (f43_ok (m:=m) (S:=S) (L:=L) (ow_ls o4)) zA (fun w5 H5 ⟨g5,i,ch,e,hw5,k5⟩=>?_)
  subst hw5
  have b5:=((b2.grow g3).grow g4).grow g5
  have gH5:=((g12.trans g3).trans g4).trans g5
  refine VI.l0 ?_
  refine zS ?_
  refine V.l0 ?_
  refine zS ?_
  refine V.condT zA ?_
  have h0' : flt m S L l=0:=hf.symm
  rcases k5 with⟨k,_⟩|⟨_,hns,rfl,rfl,rfl⟩|⟨_,hsu,hsc⟩
  ·exact absurd h0' k
  ·refine zS ?_
   refine V.run ?_
   have zf:=b5.2
   refine VI.sz 2 ?_
   simp only[ds]
   refine VI.callR zA (f27_ok (m:=m) (S:=S) (L:=L) (h.grow gH5) h0') zA (fun w6 H6 ⟨g6,k6⟩=>?_)
   rcases k6 with⟨k,_⟩|⟨_,rfl⟩
   ·exact absurd k hns
   refine VI.l0 ?_
   refine zS ?_
   refine V.l0 ?_
   refine zS ?_
   refine V.condT zA ?_
   refine zS ?_
   refine V.l0 ?_
   refine zS ?_
   refine V.l0 ?_
   refine zS ?_
   refine V.condT zA ?_
   refine zS ?_
   refine V.run ?_
   refine VI.s0 9 ?_
   simp only[ds]
   refine VI.s0 3 ?_
   simp only[ds]
   refine VI.callAT zG rfl (f20_ok _) zA (fun Ha ga=>?_)
   refine VI.l0 ?_
   refine zS ?_
   refine V.ret (V.rets rfl (Lv.retF (by simp +contextual (disch:=first|omega|simp only[nx];omega) only[D1,cells_alloc_at,cells_alloc_ne,cells_set_at,cells_set_ne,yres,yres1,yresL,qA,qB,qC,D5,hF,hA,↓reduceIte,qD,qE];rfl) ?_))
   rfl
  ·obtain⟨hr,hl8,hb⟩:=flt_0.1 h0'
   have hgb:=gl0_bd hb
   refine zS ?_
   refine V.run ?_
   have zf:=b5.2
   refine VI.sz 2 ?_
   simp only[ds]
   refine VI.callR zA (f27_ok (m:=m) (S:=S) (L:=L) (h.grow gH5) h0') zA (fun w6 H6 ⟨g6,k6⟩=>?_)
   rcases k6 with⟨_,y6,rfl,_⟩|⟨k,_⟩
   rotate_left
   ·exact absurd hsu k
   have b6:=b5.grow g6
   have gH6:=gH5.trans g6
   refine VI.l0 ?_
   refine zS ?_
   refine V.l0 ?_
   refine zS ?_
   refine V.condF zA ?_
   refine zS ?_
   refine V.l0 ?_
   refine zS ?_
   refine V.condP zP (fun hc=>?_) (fun hc=>?_)
   ·exact absurd trivial hc
   clear hc
   refine zS ?_
   refine V.l0 ?_
   refine zS ?_
   refine V.loop (fun z t mm X=>∃ (a : Nat),1≤a∧a≤61∧z=61-a∧mm=[]∧Grow H6 X∧(∀ o (d : Int),o<l.length→1≤d→d<a→¬ (Mov m S L (gl0 l) (otc m S (vl L l)).1) o d∧¬ (Mov m S L (gl0 l) (otc m S (vl L l)).1) o (-d))∧Full 166 t∧Kn [(1,.slice px nx' cx),(2,PT H.next),(6,I i),(7,I ch),(8,I e),(11,I a)] t) 60 ?_ ?_
   ·exact⟨1,by omega,by omega,by omega,rfl,.refl _,fun o d _ h1 h2=>by omega,zF,zK⟩
   clear hF hA
   rintro z t mm X ⟨a,ha1,ha2,rfl,rfl,gX,hall,hF,hA⟩
   simp only[Kn,and_true] at hA
   refine zS ?_
   refine V.l0 ?_
   refine zS ?_
   refine V.condP zP (fun hle=>?_) (fun hle=>?_)
   ·have hle' : a≤60:=by omega
    refine zS ?_
    refine V.l0 ?_
    refine zS ?_
    refine V.loop (fun z t mm X=>∃ (q : Nat),q≤l.length∧z=l.length-q∧mm=[]∧Grow H6 X∧(∀ o,o<q→¬ (Mov m S L (gl0 l) (otc m S (vl L l)).1) o a∧¬ (Mov m S L (gl0 l) (otc m S (vl L l)).1) o (-(a : Int)))∧Full 166 t∧Kn [(1,.slice px nx' cx),(2,PT H.next),(6,I i),(7,I ch),(8,I e),(11,I a),(12,I q)] t) l.length ?_ ?_
    ·exact⟨0,by omega,by omega,rfl,gX,fun o ho=>by omega,zF,zK⟩
    clear hF hA gX
    rintro z t mm X ⟨q,hq,rfl,rfl,gX,hrow,hF,hA⟩
    simp only[Kn,and_true] at hA
    refine zS ?_
    have zf:=@hl
    refine V.lz ?_
    refine zS ?_
    refine V.condP zP (fun hlt=>?_) (fun hlt=>?_)
    ·have hq' : q<l.length:=by omega
     refine zS ?_
     refine V.l0 ?_
     refine zS ?_
     refine V.loop (fun z t mm X=>∃ (b : Nat),b≤2∧z=2-b∧mm=[]∧Grow H6 X∧(0<b→¬ (Mov m S L (gl0 l) (otc m S (vl L l)).1) q a)∧(1<b→¬ (Mov m S L (gl0 l) (otc m S (vl L l)).1) q (-(a : Int)))∧Full 166 t∧Kn [(1,.slice px nx' cx),(2,PT H.next),(6,I i),(7,I ch),(8,I e),(11,I a),(12,I q),(13,I b)] t) 2 ?_ ?_
     ·exact⟨0,by omega,by omega,rfl,gX,fun h=>by omega,fun h=>by omega,zF,zK⟩
     clear hF hA gX
     rintro z t mm X ⟨b,hb',rfl,rfl,gX,h1,h2,hF,hA⟩
     simp only[Kn,and_true] at hA
     refine zS ?_
     refine V.l0 ?_
     refine zS ?_
     refine V.condP zP (fun hbl=>?_) (fun hbl=>?_)
     ·have bX:=b6.grow gX
      have gHX:=gH6.trans gX
      have hb2 : b=0∨b=1:=by omega
      have hprod : 0≤2*(b : Int)*a∧2*(b : Int)*a≤120:=by
       rcases hb2 with rfl|rfl<;>omega
      obtain⟨n,hn,hnb,hna⟩ : ∃ n,(a : Int)-2*(b : Int)*a=n∧(-60≤n∧n≤60)∧((b=0∧n=a)∨(b=1∧n=-(a : Int))):=by
       rcases hb2 with rfl|rfl
       ·exact⟨_,rfl,by omega,.inl ⟨rfl,by omega⟩⟩
       ·exact⟨_,rfl,by omega,.inr ⟨rfl,by omega⟩⟩
      obtain⟨lp,lp1,lp2⟩:=h.at hq'
      have lp3:=lp2 X gHX
      rw[← gl0_at hq'] at lp3
      have hgq:=hgb q
      have f44':=fun (hc : 0≤gl0 l q+n∧gl0 l q+n≤10000) X g=>f44_ok (H:=X) (m:=m) (S:=S) (L:=L) (n:=n) (h.grow g) h0' hsu hq' hc
      refine zS ?_
      refine V.l0 ?_
      rw[hn]
      refine zS ?_
      refine V.run ?_
      have zf:=And.intro @lp1<|@lp3
      refine VI.sz 6 ?_
      simp only[ds]
      refine VI.callA rfl (f38_ok (gl0 l q+n) 0 10000 X) zA (fun X2 g2'=>?_)
      have bX2:=bX.grow g2'
      have zf:=bX2.2
      refine VI.sz 5 ?_
      simp only[ds]
      first|refine VI.callGt zG (fun hc=>zI) (fun hc=>f44' hc X2 (gHX.trans g2')) (fun hc=>zI) (fun X3 g3'=>?_)|refine VI.callGf zG (fun hc=>zI) (fun hc=>f44' hc X2 (gHX.trans g2')) (fun hc=>zI) (fun X3 g3'=>?_)
      have gX3:=(gX.trans g2').trans g3'
      refine VI.l0 ?_
      refine zS ?_
      refine V.condP zP (fun hmv=>?_) (fun hmv=>?_)
      ·have hmv : (Mov m S L (gl0 l) (otc m S (vl L l)).1) q n:=hmv.2
       obtain⟨rfl,rfl,rfl⟩:=SC_first hsc (a:=a) (q:=q) (n:=n) (by omega) hq' (by
        rcases hna with⟨_,rfl⟩|⟨rfl,rfl⟩
        ·exact .inl rfl
        ·exact .inr ⟨rfl,h1 (by omega)⟩) hmv hall hrow
       have hee : ∀ a : Int,(a=a)=True:=fun a=>eq_self a
       refine zS ?_
       refine V.run ?_
       have zf:=@hee
       refine VI.sz 9 ?_
       simp only[ds]
       have zf:=@hee
       refine VI.sz 4 ?_
       simp only[ds]
       refine VI.callAT zG rfl (f20_ok _) zA (fun Ha ga=>?_)
       refine VI.l0 ?_
       refine zS ?_
       refine V.ret (V.rets rfl (Or.inr ⟨by simp,V.rets rfl (Or.inr ⟨by simp,V.rets rfl (Or.inr ⟨by simp,V.rets rfl (Lv.retF (by simp +contextual (disch:=first|omega|simp only[nx];omega) only[D1,cells_alloc_at,cells_alloc_ne,cells_set_at,cells_set_ne,yres,yres1,yresL,qA,qB,qC,D5,hF,hA,↓reduceIte,qD,qE];rfl) ?_)⟩)⟩)⟩))
       rfl
      ·have hmv' : ¬ (Mov m S L (gl0 l) (otc m S (vl L l)).1) q n:=fun k=>hmv ⟨k.1,k⟩
       refine zS ?_
       refine V.l0 ?_
       refine V.nil (Or.inl ⟨rfl,2-(b+1),by omega,?_⟩)
       refine⟨b+1,by omega,rfl,rfl,gX3,fun _=>?_,fun hb1=>?_,zF,zK⟩
       ·rcases hna with⟨_,rfl⟩|⟨rfl,rfl⟩
        ·exact hmv'
        ·exact h1 (by omega)
       ·rcases hna with⟨rfl,rfl⟩|⟨rfl,rfl⟩
        ·omega
        ·exact hmv'
     ·refine V.exit ?_
      refine zX ?_
      refine V.nil (Or.inr ⟨by simp,?_⟩)
      refine zX ?_
      refine zS ?_
      refine V.l0 ?_
      refine V.nil (Or.inl ⟨rfl,l.length-(q+1),by omega,?_⟩)
      refine⟨q+1,by omega,rfl,rfl,gX,fun o ho=>?_,zF,zK⟩
      rcases Nat.lt_succ_iff_lt_or_eq.1 ho with h|rfl
      ·exact hrow o h
      ·exact⟨h1 (by omega),h2 (by omega)⟩
    ·refine V.exit ?_
     refine zX ?_
     refine V.nil (Or.inr ⟨by simp,?_⟩)
     refine zX ?_
     refine zS ?_
     refine V.l0 ?_
     refine V.nil (Or.inl ⟨rfl,61-(a+1),by omega,?_⟩)
     refine⟨a+1,by omega,by omega,rfl,rfl,gX,fun o d ho h1 h2=>?_,zF,zK⟩
     by_cases e : d=a
     ·subst e
      exact hrow o (by omega)
     ·exact hall o d ho h1 (by omega)
   ·have bX:=b6.grow gX
    have gHX:=gH6.trans gX
    refine V.exit ?_
    refine zX ?_
    refine V.nil (Or.inr ⟨by simp,?_⟩)
    refine zX ?_
    refine zS ?_
    rcases hsc with⟨rfl,rfl,rfl,_⟩|⟨rfl,j,z,rfl,hj,hz1,hz2,hch,hmv,_,_⟩
    ·refine V.l0 ?_
     refine zS ?_
     refine V.condF zA ?_
     refine zS ?_
     refine V.run ?_
     refine VI.s0 9 ?_
     simp only[ds]
     refine VI.s0 2 ?_
     simp only[ds]
     refine VI.callAT zG rfl (f20_ok _) zA (fun Ha ga=>?_)
     refine VI.l0 ?_
     refine zS ?_
     refine V.ret (V.rets rfl (Lv.retF (by simp +contextual (disch:=first|omega|simp only[nx];omega) only[D1,cells_alloc_at,cells_alloc_ne,cells_set_at,cells_set_ne,yres,yres1,yresL,qA,qB,qC,D5,hF,hA,↓reduceIte,qD,qE];rfl) ?_))
     rfl
    ·have hz60 : 60<z:=by
      apply Decidable.by_contra
      intro hh
      have:=hall j z hj hz1 (by omega)
      rcases hch with rfl|⟨rfl,_⟩
      ·exact this.1 hmv
      ·exact this.2 hmv
     have hrg:=hmv.1
     have hgj:=hgb j
     have hchb : -10000≤ch∧ch≤10000:=by omega
     obtain⟨lp,lp1,lp2⟩:=h.at hj
     have lp3:=lp2 X gHX
     rw[← gl0_at hj] at lp3
     have hjl : 0≤(j : Int)∧(j : Int)≤(l.length : Int)-1:=by omega
     have f38a:=f38_ok j 0 ((l.length : Int)-1)
     rw[decide_eq_true hjl] at f38a
     have f38b:=f38_ok (gl0 l j+ch) 0 10000
     rw[decide_eq_true hrg] at f38b
     have f44':=fun X g=>f44_ok (H:=X) (m:=m) (S:=S) (L:=L) (n:=ch) (h.grow g) h0' hsu hj hrg
     rw[decide_eq_true hmv] at f44'
     refine V.l0 ?_
     refine zS ?_
     refine V.condT zA ?_
     refine zS ?_
     rcases hch with rfl|⟨rfl,_⟩
     ·have hgt : (ch > 60)=True:=eq_true (by omega)
      refine V.run ?_
      have zf:=And.intro @hgt<|@hl
      refine VI.sz 9 ?_
      simp only[ds]
      have zf:=And.intro @hgt<|@hl
      refine VI.sz 2 ?_
      simp only[ds]
      refine VI.callAT zG rfl (f38a _) zA (fun Xa ga=>?_)
      have lp3a:=lp2 Xa (gHX.trans ga)
      rw[← gl0_at hj] at lp3a
      have zf:=And.intro @lp1<|@lp3a
      refine VI.sz 8 ?_
      simp only[ds]
      refine VI.callAT zG rfl (f38b _) zA (fun Xb gb=>?_)
      have bb:=(bX.grow ga).grow gb
      have zf:=bb.2
      refine VI.sz 6 ?_
      simp only[ds]
      refine VI.callAT zG rfl (f44' Xb ((gHX.trans ga).trans gb)) zA (fun Xc gc=>?_)
      refine VI.s0 2 ?_
      simp only[ds]
      refine VI.callAT zG rfl (f20_ok _) zA (fun Xd gd=>?_)
      refine VI.l0 ?_
      refine zS ?_
      refine V.ret (V.rets rfl (Lv.retF (by simp +contextual (disch:=first|omega|simp only[nx];omega) only[D1,cells_alloc_at,cells_alloc_ne,cells_set_at,cells_set_ne,yres,yres1,yresL,qA,qB,qC,D5,hF,hA,↓reduceIte,qD,qE];rfl) ?_))
      rfl
     ·have hgt : (-z > 60)=False:=eq_false (by omega)
      have hlt : (-z < -60)=True:=eq_true (by omega)
      refine V.run ?_
      have zf:=And.intro @hgt<|And.intro @hlt<|@hl
      refine VI.sz 9 ?_
      simp only[ds]
      have zf:=And.intro @hgt<|And.intro @hlt<|@hl
      refine VI.sz 2 ?_
      simp only[ds]
      refine VI.callAT zG rfl (f38a _) zA (fun Xa ga=>?_)
      have lp3a:=lp2 Xa (gHX.trans ga)
      rw[← gl0_at hj] at lp3a
      have zf:=And.intro @lp1<|@lp3a
      refine VI.sz 8 ?_
      simp only[ds]
      refine VI.callAT zG rfl (f38b _) zA (fun Xb gb=>?_)
      have bb:=(bX.grow ga).grow gb
      have zf:=bb.2
      refine VI.sz 6 ?_
      simp only[ds]
      refine VI.callAT zG rfl (f44' Xb ((gHX.trans ga).trans gb)) zA (fun Xc gc=>?_)
      refine VI.s0 2 ?_
      simp only[ds]
      refine VI.callAT zG rfl (f20_ok _) zA (fun Xd gd=>?_)
      refine VI.l0 ?_
      refine zS ?_
      refine V.ret (V.rets rfl (Lv.retF (by simp +contextual (disch:=first|omega|simp only[nx];omega) only[D1,cells_alloc_at,cells_alloc_ne,cells_set_at,cells_set_ne,yres,yres1,yresL,qA,qB,qC,D5,hF,hA,↓reduceIte,qD,qE];rfl) ?_))
      rfl
 ·have hz : (f=0)=False:=eq_false h0
  have zf:=And.intro b2.2<|And.intro @hl<|@hz
  refine V.lz ?_
  refine zS ?_
  refine V.condF zA ?_
  refine zS ?_
  refine V.run ?_
  have zf:=b2.2
  refine VI.sz 1 ?_
  simp only[ds]
  refine VI.callA rfl (f22_ok m S L _) zA (fun H3 g3=>?_)
  refine VI.s0 1 ?_
  simp only[ds]
  refine VI.callR zA (f24_ok (h.grow (g12.trans g3)) (by omega)) zA (fun w4 H4 ⟨g4,o4⟩=>?_)
  refine VI.callR zA (f43_ok (m:=m) (S:=S) (L:=L) (ow_ls o4)) zA (fun w5 H5 ⟨g5,i,ch,e,hw5,k5⟩=>?_)
  subst hw5
  have b5:=((b2.grow g3).grow g4).grow g5
  have gH5:=((g12.trans g3).trans g4).trans g5
  refine VI.l0 ?_
  refine zS ?_
  refine V.l0 ?_
  refine zS ?_
  refine V.condP zP (fun hcc=>?_) (fun hcc=>?_)
  ·exact absurd hcc h0
  rcases k5 with⟨_,rfl,rfl,rfl⟩|⟨k,_⟩|⟨k,_⟩
  ·rw[← hf]
   have hee : (f=f)=True:=eq_self _
   refine zS ?_
   refine V.l0 ?_
   refine zS ?_
   refine V.condP zP (fun hc=>?_) (fun hc=>?_)
   ·refine zS ?_
    refine V.run ?_
    have zf:=@hee
    refine VI.sz 9 ?_
    simp only[ds]
    have zf:=@hee
    refine VI.sz 3 ?_
    simp only[ds]
    refine VI.callAT zG rfl (f20_ok _) zA (fun Ha ga=>?_)
    refine VI.l0 ?_
    refine zS ?_
    refine V.ret (V.rets rfl (Lv.retF (by simp +contextual (disch:=first|omega|simp only[nx];omega) only[D1,cells_alloc_at,cells_alloc_ne,cells_set_at,cells_set_ne,yres,yres1,yresL,qA,qB,qC,D5,hF,hA,↓reduceIte,qD,qE];rfl) ?_))
    rfl
   ·exact absurd h0 hc
  ·exact absurd (hf.trans k) h0
  ·exact absurd (hf.trans k) h0
end Go.Xe.TVX
/- Rules of reasoning over the executable reading of the model's code (part Z16): arguments, by what their types allow. Conditions: none; for every program. -/
namespace Go.Xe
open Go Go.RowKit Go.ChangeShapes Go.WideShapes
theorem okWide_agg {P : Program} {w : World} {r : Reach} {base : Nat} {t : TypeId} {v : Value} {fs : Array Field} (ht : P.underlying t=some (.struct fs)) (h : Value.okWide P w r base t v) : ∃ cs,v=.agg cs:=by
 unfold Value.okWide at h
 rw[ht] at h
 obtain⟨cs,h,_⟩:=h
 exact⟨cs,h⟩
end Go.Xe
/- The end of a call that has changed nothing of what was there: what a statement asks of the memory behind it. Conditions: as post_of_same's, but that new memory may be frozen. -/
namespace Go.Xe
open Go Go.RowKit Go.ChangeShapes Go.WideShapes
variable {H : Type} {enc : TypeId×Value→H} {P : Program}
theorem post_of_old {f : Func} {s : ChangeSpec} {apart fresh handsOn again : Bool} {W W' : World} {args : Array Value} {v : Value} {ds gs : List (DataW H)} {before pa pv : List MemPlace}
  (hW : DataW.Whole enc P f.params.toList s.vars apart W args.toList ds gs before)
  (hres : ∀ (b : Nat) (sp : Nat→Bool) (hd : Bool),DataW.TrodAll enc P W' b sp hd f.resultTypes.toList (v.resultList f.resultTypes.size) (s.fn H (ds++gs)).results [])
  (hargs : ∀ sp : Nat→Bool,(∀ p∈before,sp p.block=true)→DataW.TrodAll enc P W' 0 sp true f.params.toList args.toList (s.fn H (ds++gs)).args pa)
  (hvars : ∀ sp : Nat→Bool,(∀ p∈before,sp p.block=true)→DataW.TrodVars enc P W' sp s.vars (s.fn H (ds++gs)).vars pv)
  (hps : before=pa++pv) (hk : W.keptBut W' (·∈before)) (hfz : ∀ a : Addr,a.block<W.heap.size→W'.frozen? a=W.frozen? a)
  (hok : ∀ (j : Nat) (t : TypeId) (r : Value),f.resultTypes[j]?=some t→(v.resultList f.resultTypes.size)[j]?=some r→Value.okWide P W' .any 0 t r) :
  s.post enc P f apart fresh handsOn again W args v W':=by
 have old : ∀ p∈before,p.block<W.heap.size:=fun p hp=>hW.lt p hp
 have hold : ∀ p∈before,(fun b=>decide (b<W.heap.size)) p.block=true:=fun p hp=>by simpa using old p hp
 subst hps
 refine⟨ds,gs,_,[],pa,pv,hW,hres _ _ _,hargs _ hold,hvars _ hold,World.keptBut_mono (fun p hp=>⟨hp,.inr (List.mem_append.1 hp)⟩) hk,fun _=>?_⟩
 obtain⟨_,_,_,_,_,hz,hn⟩:=hW
 refine⟨hok,_,_,([]++pa)++pv,⟨[]++pa,pv,trodAll_append (hargs _ (fun _ _=>rfl)) (hres _ _ _),hvars _ (fun _ _=>rfl),rfl,?_,?_⟩,?_⟩
 ·intro b off hp
  have hp' : MemPlace.cell b off∈pa++pv:=by simpa using hp
  rw[hfz _ (old _ hp')]
  exact hz b off hp'
 ·intro ha
  simpa using hn ha
 ·intro p hp _
  simpa using hp
end Go.Xe
