/- What the functions of the layer seat come to: SeatNext. Conditions: none. -/
import Derived.Test.YtlfikodljmdekaaTUS
import Derived.Test.YtlfikodljmdekaaTUE
-- MOD TV
namespace Go.Xe.TVX
open Go Go.Xe Go.Proofs
open Nat renaming reduceLeDiff → qA, reduceSub → qB, reduceAdd → qC, reduceEqDiff → qD, reduceLT → qE
open Int renaming reduceNegSucc → qF, reduceEq → qG
open Go.Xe.V renaming seq → sA, block → sB, scope → sC, skip → sD, close → sE
open Go.Xe renaming pth → P
open Go.Xe.Sea
set_option maxRecDepth 100000
set_option maxHeartbeats 3200000
set_option linter.unusedSimpArgs false
noncomputable def d5 : FCode:=(.seq (.run (.go (.box 23 (tm 0)) (P 2)::
.go (.move (.con (.bool false))) (P 4)::
[])) (.seq (.seq (.run (.go (.move (tm 1)) (P 17)::
.go (.len 0 (tm 17)) (P 18)::
.go (.bin .gtr 3 (tm 18) (.con (.int .i64 (.ofNat 11)))) (P 19)::
[])) (.cond (tm 19) (.seq (.run (.go (.call (.con (.func (.func 20) ⟨[]⟩ ⟨[]⟩)) []) (P 20)::
.go (.move (tm 20)) (P 4)::
[])) .ret) .skip)) (.seq (.run (.go (.loadN 3 (tm 2)) (P 22)::
.go (.call (.con (.func (.func 22) ⟨[]⟩ ⟨[]⟩)) [tm 22]) (P 23)::
.go (.move (tm 1)) (P 24)::
.go (.call (.con (.func (.func 24) ⟨[]⟩ ⟨[]⟩)) [tm 24]) (P 25)::
.go (.call (.con (.func (.func 31) ⟨[]⟩ ⟨[]⟩)) [(tm 23),(tm 25)]) (P 26)::
.go (.move (tm 26)) (P 21)::
.go (.extract (tm 21) 0) (P 27)::
.go (.extract (tm 21) 1) (P 28)::
.go (.move (tm 27)) (P 5)::
.go (.move (tm 28)) (P 6)::
[])) (.seq (.run (.go (.loadN 3 (tm 2)) (P 30)::
.go (.call (.con (.func (.func 22) ⟨[]⟩ ⟨[]⟩)) [tm 30]) (P 31)::
.go (.move (tm 1)) (P 32)::
.go (.call (.con (.func (.func 24) ⟨[]⟩ ⟨[]⟩)) [tm 32]) (P 33)::
.go (.call (.con (.func (.func 32) ⟨[]⟩ ⟨[]⟩)) [(tm 31),(tm 33)]) (P 34)::
.go (.move (tm 34)) (P 29)::
.go (.extract (tm 29) 0) (P 35)::
.go (.extract (tm 29) 1) (P 36)::
.go (.move (tm 35)) (P 7)::
.go (.move (tm 36)) (P 8)::
[])) (.seq (.run (.go (.loadN 3 (tm 2)) (P 37)::
.go (.move (tm 1)) (P 38)::
.go (.call (.con (.func (.func 25) ⟨[]⟩ ⟨[]⟩)) [(tm 37),(tm 38)]) (P 39)::
.go (.move (tm 39)) (P 9)::
[])) (.seq (.seq (.run (.go (.move (tm 9)) (P 40)::
.go (.bin .neq 26 (tm 40) (.con (.int .i64 (.ofNat 0)))) (P 41)::
[])) (.cond (tm 41) (.seq (.run (.go (.move (tm 6)) (P 42)::
.go (.move (tm 9)) (P 43)::
.go (.bin .eql 26 (tm 42) (tm 43)) (P 44)::
.go (.move (tm 44)) (P 45)::
.gd (P 45) true (.move (tm 8)) (P 46)::
.gd (P 45) true (.move (tm 9)) (P 47)::
.gd (P 45) true (.bin .eql 26 (tm 46) (tm 47)) (P 48)::
.go (.pick (tm 45) (tm 48) (.con (.bool false))) (P 49)::
.go (.move (tm 49)) (P 50)::
.gd (P 50) true (.move (tm 5)) (P 51)::
.gd (P 50) true (.bin .eql 3 (tm 51) (.con (.int .i64 (.ofNat 0)))) (P 52)::
.go (.pick (tm 50) (tm 52) (.con (.bool false))) (P 53)::
.go (.move (tm 53)) (P 54)::
.gd (P 54) true (.move (tm 7)) (P 55)::
.gd (P 54) true (.bin .eql 3 (tm 55) (.con (.int .i64 (.ofNat 0)))) (P 56)::
.go (.pick (tm 54) (tm 56) (.con (.bool false))) (P 57)::
.go (.move (tm 57)) (P 58)::
.gd (P 58) true (.call (.con (.func (.func 20) ⟨[]⟩ ⟨[]⟩)) []) (P 59)::
.go (.pick (tm 58) (tm 59) (.con (.bool false))) (P 60)::
.go (.move (tm 60)) (P 4)::
[])) .ret) .skip)) (.seq (.run (.go (.loadN 3 (tm 2)) (P 62)::
.go (.move (tm 1)) (P 63)::
.go (.call (.con (.func (.func 27) ⟨[]⟩ ⟨[]⟩)) [(tm 62),(tm 63)]) (P 64)::
.go (.move (tm 64)) (P 61)::
.go (.extract (tm 61) 0) (P 65)::
.go (.extract (tm 61) 1) (P 66)::
.go (.move (tm 65)) (P 10)::
.go (.move (tm 66)) (P 11)::
[])) (.seq (.run (.go (.loadN 3 (tm 2)) (P 68)::
.go (.call (.con (.func (.func 33) ⟨[]⟩ ⟨[]⟩)) [tm 68]) (P 69)::
.go (.move (tm 1)) (P 70)::
.go (.call (.con (.func (.func 27) ⟨[]⟩ ⟨[]⟩)) [(tm 69),(tm 70)]) (P 71)::
.go (.move (tm 71)) (P 67)::
.go (.extract (tm 67) 0) (P 72)::
.go (.extract (tm 67) 1) (P 73)::
.go (.move (tm 72)) (P 12)::
.go (.move (tm 73)) (P 13)::
[])) (.seq (.run (.go (.move (.con (.int .i64 (.negSucc 0)))) (P 14)::
.go (.move (.con (.int .i64 (.negSucc 0)))) (P 15)::
[])) (.seq (.seq (.run (.go (.move (tm 1)) (P 74)::
.go (.len 0 (tm 74)) (P 75)::
.go (.bin .sub 3 (tm 75) (.con (.int .i64 (.ofNat 1)))) (P 76)::
.go (.move (tm 76)) (P 16)::
[])) (.block 0 (.loop (.seq (.seq (.run (.go (.move (tm 16)) (P 77)::
.go (.bin .geq 3 (tm 77) (.con (.int .i64 (.ofNat 0)))) (P 78)::
.go (.move (tm 78)) (P 79)::
.gd (P 79) true (.move (tm 11)) (P 80)::
.go (.pick (tm 79) (tm 80) (.con (.bool false))) (P 81)::
.go (.move (tm 81)) (P 82)::
.gd (P 82) true (.move (tm 13)) (P 83)::
.go (.pick (tm 82) (tm 83) (.con (.bool false))) (P 84)::
[])) (.cond (tm 84) .skip (.exit 0))) (.seq (.block 1 (.seq (.seq (.draw 9 (.go (.move (tm 12)) (P 87)::
.go (.move (tm 16)) (P 88)::
.go (.indexAddr none 1 (tm 87) (tm 88)) (P 89)::
.go (.load1 (tm 89)) (P 90)::
.go (.move (tm 10)) (P 91)::
.go (.move (tm 16)) (P 92)::
.go (.indexAddr none 1 (tm 91) (tm 92)) (P 93)::
.go (.load1 (tm 93)) (P 94)::
.go (.bin .gtr 3 (tm 90) (tm 94)) (P 95)::
[]) [.ok,.ok,.ok,.ok,.ok,.ok,.ok,.ok,.ok]) (.cond (tm 95) (.run (.go (.move (tm 16)) (P 96)::
.go (.move (tm 96)) (P 14)::
[])) .skip)) (.seq (.draw 9 (.go (.move (tm 12)) (P 97)::
.go (.move (tm 16)) (P 98)::
.go (.indexAddr none 1 (tm 97) (tm 98)) (P 99)::
.go (.load1 (tm 99)) (P 100)::
.go (.move (tm 10)) (P 101)::
.go (.move (tm 16)) (P 102)::
.go (.indexAddr none 1 (tm 101) (tm 102)) (P 103)::
.go (.load1 (tm 103)) (P 104)::
.go (.bin .lss 3 (tm 100) (tm 104)) (P 105)::
[]) [.ok,.ok,.ok,.ok,.ok,.ok,.ok,.ok,.ok]) (.cond (tm 105) (.run (.go (.move (tm 16)) (P 106)::
.go (.move (tm 106)) (P 15)::
[])) .skip)))) (.run (.go (.move (tm 16)) (P 85)::
.go (.bin .sub 3 (tm 85) (.con (.int .i64 (.ofNat 1)))) (P 86)::
.go (.move (tm 86)) (P 16)::
[]))))))) (.seq (.block 2 (.seq (.run (.go (.move (tm 11)) (P 115)::
.go (.un .not (tm 115)) (P 116)::
.go (.move (tm 116)) (P 117)::
.gd (P 117) false (.move (tm 13)) (P 118)::
.gd (P 117) false (.un .not (tm 118)) (P 119)::
.go (.pick (tm 117) (.con (.bool true)) (tm 119)) (P 120)::
.go (.move (tm 120)) (P 114)::
[])) (.cond (tm 114) (.seq (.run (.go (.move (tm 8)) (P 121)::
.go (.bin .neq 26 (tm 121) (.con (.int .i64 (.ofNat 10)))) (P 122)::
.go (.move (tm 122)) (P 123)::
.gd (P 123) false (.move (tm 7)) (P 124)::
.gd (P 123) false (.bin .neq 3 (tm 124) (.con (.int .i64 (.ofNat 0)))) (P 125)::
.go (.pick (tm 123) (.con (.bool true)) (tm 125)) (P 126)::
[])) (.cond (tm 126) (.seq (.run (.go (.move (.con (.bool false))) (P 4)::
[])) .ret) .skip)) (.seq (.run (.go (.move (tm 15)) (P 128)::
.go (.bin .lss 3 (tm 128) (.con (.int .i64 (.ofNat 0)))) (P 129)::
.go (.move (tm 129)) (P 127)::
[])) (.cond (tm 127) (.seq (.run (.go (.move (tm 8)) (P 130)::
.go (.bin .neq 26 (tm 130) (.con (.int .i64 (.ofNat 7)))) (P 131)::
.go (.move (tm 131)) (P 132)::
.gd (P 132) false (.move (tm 7)) (P 133)::
.gd (P 132) false (.bin .neq 3 (tm 133) (.con (.int .i64 (.ofNat 0)))) (P 134)::
.go (.pick (tm 132) (.con (.bool true)) (tm 134)) (P 135)::
[])) (.cond (tm 135) (.seq (.run (.go (.move (.con (.bool false))) (P 4)::
[])) .ret) .skip)) (.seq (.run (.go (.move (tm 8)) (P 107)::
.go (.bin .neq 26 (tm 107) (.con (.int .i64 (.ofNat 0)))) (P 108)::
.go (.move (tm 108)) (P 109)::
.gd (P 109) false (.move (tm 7)) (P 110)::
.gd (P 109) false (.move (tm 15)) (P 111)::
.gd (P 109) false (.bin .neq 3 (tm 110) (tm 111)) (P 112)::
.go (.pick (tm 109) (.con (.bool true)) (tm 112)) (P 113)::
[])) (.cond (tm 113) (.seq (.run (.go (.move (.con (.bool false))) (P 4)::
[])) .ret) .skip))))))) (.seq (.block 3 (.seq (.run (.go (.fieldAddr 0 (tm 2)) (P 137)::
.go (.load1 (tm 137)) (P 138)::
.go (.bin .eql 5 (tm 138) (.con (.int .u8 (.ofNat 5)))) (P 139)::
.go (.move (tm 139)) (P 136)::
[])) (.cond (tm 136) (.seq (.run (.go (.move (tm 6)) (P 140)::
.go (.bin .eql 26 (tm 140) (.con (.int .i64 (.ofNat 8)))) (P 141)::
.go (.move (tm 141)) (P 142)::
.gd (P 142) true (.move (tm 5)) (P 143)::
.gd (P 142) true (.bin .eql 3 (tm 143) (.con (.int .i64 (.ofNat 0)))) (P 144)::
.go (.pick (tm 142) (tm 144) (.con (.bool false))) (P 145)::
.go (.move (tm 145)) (P 146)::
.gd (P 146) true (.call (.con (.func (.func 20) ⟨[]⟩ ⟨[]⟩)) []) (P 147)::
.go (.pick (tm 146) (tm 147) (.con (.bool false))) (P 148)::
.go (.move (tm 148)) (P 4)::
[])) .ret) (.seq (.run (.go (.loadN 3 (tm 2)) (P 150)::
.go (.move (tm 1)) (P 151)::
.go (.call (.con (.func (.func 34) ⟨[]⟩ ⟨[]⟩)) [(tm 150),(tm 151)]) (P 152)::
.go (.un .not (tm 152)) (P 153)::
.go (.move (tm 153)) (P 149)::
[])) (.cond (tm 149) (.seq (.run (.go (.move (tm 6)) (P 154)::
.go (.bin .eql 26 (tm 154) (.con (.int .i64 (.ofNat 7)))) (P 155)::
.go (.move (tm 155)) (P 156)::
.gd (P 156) true (.move (tm 5)) (P 157)::
.gd (P 156) true (.bin .eql 3 (tm 157) (.con (.int .i64 (.ofNat 0)))) (P 158)::
.go (.pick (tm 156) (tm 158) (.con (.bool false))) (P 159)::
.go (.move (tm 159)) (P 160)::
.gd (P 160) true (.call (.con (.func (.func 20) ⟨[]⟩ ⟨[]⟩)) []) (P 161)::
.go (.pick (tm 160) (tm 161) (.con (.bool false))) (P 162)::
.go (.move (tm 162)) (P 4)::
[])) .ret) (.seq (.run (.go (.move (tm 11)) (P 164)::
.go (.un .not (tm 164)) (P 165)::
.go (.move (tm 165)) (P 166)::
.gd (P 166) false (.move (tm 13)) (P 167)::
.gd (P 166) false (.un .not (tm 167)) (P 168)::
.go (.pick (tm 166) (.con (.bool true)) (tm 168)) (P 169)::
.go (.move (tm 169)) (P 163)::
[])) (.cond (tm 163) (.seq (.run (.go (.move (tm 6)) (P 170)::
.go (.bin .eql 26 (tm 170) (.con (.int .i64 (.ofNat 10)))) (P 171)::
.go (.move (tm 171)) (P 172)::
.gd (P 172) true (.move (tm 5)) (P 173)::
.gd (P 172) true (.bin .eql 3 (tm 173) (.con (.int .i64 (.ofNat 0)))) (P 174)::
.go (.pick (tm 172) (tm 174) (.con (.bool false))) (P 175)::
.go (.move (tm 175)) (P 176)::
.gd (P 176) true (.call (.con (.func (.func 20) ⟨[]⟩ ⟨[]⟩)) []) (P 177)::
.go (.pick (tm 176) (tm 177) (.con (.bool false))) (P 178)::
.go (.move (tm 178)) (P 4)::
[])) .ret) .skip))))))) (.seq (.run (.go (.move (tm 6)) (P 179)::
.go (.bin .eql 26 (tm 179) (.con (.int .i64 (.ofNat 0)))) (P 180)::
.go (.move (tm 180)) (P 181)::
.gd (P 181) true (.move (tm 5)) (P 182)::
.gd (P 181) true (.move (tm 14)) (P 183)::
.gd (P 181) true (.bin .eql 3 (tm 182) (tm 183)) (P 184)::
.go (.pick (tm 181) (tm 184) (.con (.bool false))) (P 185)::
.go (.move (tm 185)) (P 186)::
.gd (P 186) true (.call (.con (.func (.func 20) ⟨[]⟩ ⟨[]⟩)) []) (P 187)::
.go (.pick (tm 186) (tm 187) (.con (.bool false))) (P 188)::
.go (.move (tm 188)) (P 4)::
[])) .ret)))))))))))))
theorem de5 : @compF Try.prog (Gl.none Try.prog) Try.f5 2=.mk d5 (mkTT 189) [(P 0),(P 1)] [.tmp (P 4)]:=by kernel_rfl
theorem dg5 : Try.prog.funcs[5]?=some Try.f5:=Try.func5
theorem do5 : okF Try.prog Try.f5=true:=by kernel_rfl
def LP (a b : Nat→Int) (n k : Nat) (g : Int) : Prop:=(g=-1∧∀ i,k≤i→i<n→¬ a i<b i)∨∃ j : Nat,k≤j∧j<n∧a j<b j∧g=j∧∀ i,k≤i→i<j→¬ a i<b i
theorem LP_t {a b : Nat→Int} {n k : Nat} (hk : k<n) (h : a k<b k) : LP a b n k k:=.inr ⟨k,Nat.le_refl _,hk,h,rfl,fun i h1 h2=>by omega⟩
theorem LP_f {a b : Nat→Int} {n k : Nat} {g : Int} (h : ¬ a k<b k) (hl : LP a b n (k+1) g) : LP a b n k g:=by
 rcases hl with⟨e,h1⟩|⟨j,h1,h2,h3,h4,h5⟩
 ·refine .inl ⟨e,fun i hi hn=>?_⟩
  by_cases hik : i=k
  ·rw[hik];exact h
  ·exact h1 i (by omega) hn
 ·refine .inr ⟨j,by omega,h2,h3,h4,fun i hi hn=>?_⟩
  by_cases hik : i=k
  ·rw[hik];exact h
  ·exact h5 i (by omega) hn
theorem LP_FB {a b : Nat→Int} {n : Nat} {g p e : Int} (hn : n≤8) (hz : ∀ i,n≤i→¬ a i<b i) (h : LP a b n 0 g) (f : FB a b p e) : (g=-1∧p=0∧e=7∧∀ i,i<8→¬ a i<b i)∨(0≤g∧p=g∧e=0):=by
 rcases h with⟨e1,h1⟩|⟨j,h1,h2,h3,h4,h5⟩
 ·rcases f with⟨k,f1,f2,_⟩|⟨f1,f2,f3⟩
  ·by_cases hk : k<n
   ·exact absurd f2 (h1 k (by omega) hk)
   ·exact absurd f2 (hz k (by omega))
  ·exact .inl ⟨e1,f2,f3,f1⟩
 ·rcases f with⟨k,f1,f2,f3,f4,f5⟩|⟨f1,_⟩
  ·have : k=j:=by
    rcases Nat.lt_trichotomy k j with k1|k1|k1
    ·exact absurd f2 (h5 k (by omega) k1)
    ·exact k1
    ·exact absurd h3 (f3 j k1)
   subst this
   exact .inr ⟨by omega,by omega,f5⟩
  ·exact absurd h3 (f1 j (by omega))
theorem RSL.b {m S L : Int} {l : List Int} {X : Heap} {w : Value} (h : RSL m S L l X w) : ∃ (y : Value) (c : Bool),w=.tuple ⟨[y,.bool c]⟩∧(c=true↔sure m S (vl L l))∧(c=true→LS X y (fl l.length (otc m S (vl L l)).1)):=by
 rcases h with⟨hs,y,e,q⟩|⟨hs,e⟩
 ·exact⟨y,true,e,iff_of_true rfl hs,fun _=>q⟩
 ·exact⟨_,false,e,iff_of_false (by simp) hs,fun k=>by cases k⟩
theorem none_sure {m S : Int} {v : Nat→Int} (hv : vok v) (hS : 0≤S∧S≤61) (hv8 : ∀ p,¬ p<8→v p=0) (hN : ¬ 0<sm v 8) : sure m S v∧(otc m S v).1=fun _=>0:=by
 have F0:=otc_fin (m:=m) hv hS hv8
 have hno : ∀ p,p<8→¬ 0<v p:=fun p hp hh=>hN ((sm_pos' hv).2 ⟨p,hp,hh⟩)
 refine⟨?_,sure_none hno F0⟩
 rcases F0.2 with⟨_,_,e⟩|⟨⟨p,h1,h2⟩,_⟩|⟨⟨p,h1,h2⟩,_⟩
 ·intro i _;rw[e]
 ·exact absurd h2 (hno p h1)
 ·exact absurd h2 (hno p h1)
theorem f5_all {H : Heap} {m S L : Int} {x : Value} {l : List Int} (hx : Sl H x (l.map I)) : F Try.prog 5 ⟨[.agg ⟨A3 m S L⟩,x]⟩ H (fun w _=>w=.bool true):=by
 have h : LS H x l:=⟨hx⟩
 have hl:=h.len
 obtain⟨px,nx',cx,rfl⟩:=h.s.isS
 refine F.entryL rfl dg5 do5 de5 rfl (by kernel_rfl) ?_
 simp only[sets]
 refine V.re [(0,.agg ⟨A3 m S L⟩),(1,.slice px nx' cx)] (N:=189) zE zY ?_
 intro t hF hA
 simp only[Kn,and_true] at hA
 refine zS ?_
 refine V.l0 ?_
 refine V.heap (fun X=>Grow H X∧Bx X H.next (A3 m S L) 23) ⟨?_,?_⟩ ?_
 ·exact zW
 ·exact zB
 rintro H1 ⟨g1,b1⟩
 refine zS ?_
 have zf:=@hl
 refine V.lz ?_
 refine zS ?_
 refine V.condP zP (fun hbig=>?_) (fun hbig=>?_)
 ·refine zS ?_
  refine V.run ?_
  refine VI.callA rfl (f20_ok _) zA (fun H3 g3=>?_)
  refine VI.l0 ?_
  refine zS ?_
  refine V.ret (V.rets rfl (Lv.retF (by simp +contextual (disch:=first|omega|simp only[nx];omega) only[D1,cells_alloc_at,cells_alloc_ne,cells_set_at,cells_set_ne,yres,yres1,yresL,qA,qB,qC,D5,hF,hA,↓reduceIte,qD,qE];rfl) ?_))
  rfl
 refine zS ?_
 refine V.run ?_
 have zf:=b1.2
 refine VI.sz 1 ?_
 simp only[ds]
 refine VI.callA rfl (f22_ok m S L _) zA (fun H2 g2=>?_)
 refine VI.s0 1 ?_
 simp only[ds]
 refine VI.callR zA (f24_ok (h.grow (g1.trans g2)) (by omega)) zA (fun w3 H3 ⟨g3,o3⟩=>?_)
 refine VI.callR zA (f31_ok (m:=m) (S:=S) (L:=L) (ow_ls o3)) zA (fun w4 H4 ⟨g4,p1,e1,hw4,k1⟩=>?_)
 subst hw4
 have g14:=(g2.trans g3).trans g4
 have b4:=b1.grow g14
 have gH4:=g1.trans g14
 refine VI.l0 ?_
 refine zS ?_
 refine V.run ?_
 have zf:=b4.2
 refine VI.sz 1 ?_
 simp only[ds]
 refine VI.callA rfl (f22_ok m S L _) zA (fun H5 g5=>?_)
 refine VI.s0 1 ?_
 simp only[ds]
 refine VI.callR zA (f24_ok (h.grow (gH4.trans g5)) (by omega)) zA (fun w6 H6 ⟨g6,o6⟩=>?_)
 refine VI.callR zA (f32_ok (m:=m) (S:=S) (L:=L) (ow_ls o6)) zA (fun w7 H7 ⟨g7,p2,e2,hw7,k2⟩=>?_)
 subst hw7
 have g47:=(g5.trans g6).trans g7
 have b7:=b4.grow g47
 have gH7:=gH4.trans g47
 refine VI.l0 ?_
 refine zS ?_
 refine V.run ?_
 have zf:=b7.2
 refine VI.sz 2 ?_
 simp only[ds]
 refine VI.callA rfl (f25_ok (m:=m) (S:=S) (L:=L) (h.grow gH7)) zA (fun H8 g8=>?_)
 have b8:=b7.grow g8
 have gH8:=gH7.trans g8
 refine VI.l0 ?_
 refine zS ?_
 refine V.l0 ?_
 refine zS ?_
 refine V.condP zP (fun h0=>?_) (fun h0=>?_)
 ·have a1 : p1=0∧e1=flt m S L l:=by
   rcases k1 with⟨_,a,b⟩|⟨k,_⟩|⟨k,_⟩|⟨k,_⟩
   ·exact⟨a,b⟩
   ·exact absurd k h0
   ·exact absurd k h0
   ·exact absurd k h0
  have a2 : p2=0∧e2=flt m S L l:=by
   rcases k2 with⟨_,a,b⟩|⟨k,_⟩|⟨k,_⟩
   ·exact⟨a,b⟩
   ·exact absurd k h0
   ·exact absurd k h0
  obtain⟨rfl,rfl⟩:=a1
  obtain⟨rfl,rfl⟩:=a2
  have hee : (flt m S L l=flt m S L l)=True:=eq_self _
  refine zS ?_
  refine V.run ?_
  have zf:=@hee
  refine VI.sz 9 ?_
  simp only[ds]
  have zf:=@hee
  refine VI.sz 8 ?_
  simp only[ds]
  refine VI.callAT zG rfl (f20_ok _) zA (fun Ha ga=>?_)
  refine VI.l0 ?_
  refine zS ?_
  refine V.ret (V.rets rfl (Lv.retF (by simp +contextual (disch:=first|omega|simp only[nx];omega) only[D1,cells_alloc_at,cells_alloc_ne,cells_set_at,cells_set_ne,yres,yres1,yresL,qA,qB,qC,D5,hF,hA,↓reduceIte,qD,qE];rfl) ?_))
  rfl
 have h0 : flt m S L l=0:=Decidable.not_not.1 h0
 obtain⟨hr,hl8,hb⟩:=flt_0.1 h0
 have hvk:=vl_ok (L:=L) hb
 have hv8:=vl_8 (L:=L) hl8
 have hS : 0≤S∧S≤60:=⟨hr.2.2.1,hr.2.2.2.1⟩
 refine zS ?_
 refine V.run ?_
 have zf:=b8.2
 refine VI.sz 2 ?_
 simp only[ds]
 refine VI.callR zA (f27_ok (m:=m) (S:=S) (L:=L) (h.grow gH8) h0) zA (fun w9 H9 ⟨g9,k9⟩=>?_)
 have b9:=b8.grow g9
 have gH9:=gH8.trans g9
 obtain⟨y1,c1,rfl,hc1,hq1⟩:=k9.b
 refine VI.l0 ?_
 refine zS ?_
 refine V.run ?_
 have zf:=b9.2
 refine VI.sz 1 ?_
 simp only[ds]
 refine VI.callA rfl (f33_ok m S L hS H9) zA (fun Ha ga=>?_)
 refine VI.s0 1 ?_
 simp only[ds]
 refine VI.callR zA (f27_any (m:=m) (S:=S+1) (L:=L) (h.grow (gH9.trans ga)) (okS_of h0).2) zA (fun wb Hb ⟨gb,kb⟩=>?_)
 have g9b:=ga.trans gb
 have gHb:=gH9.trans g9b
 have bb:=b9.grow g9b
 obtain⟨y2,c2,rfl,hc2,hq2⟩:=kb.b
 clear k9 kb
 obtain⟨A,hA0⟩ : ∃ A,A=(otc m S (vl L l)).1:=⟨_,rfl⟩
 obtain⟨A',hA1⟩ : ∃ A,A=(otc m (S+1) (vl L l)).1:=⟨_,rfl⟩
 rw[← hA0] at hq1
 rw[← hA1] at hq2
 have k1 : (m=5∧p1=0∧e1=8)∨(m≠5∧¬ (c1=true∧c2=true)∧p1=0∧e1=10)∨(m≠5∧(c1=true∧c2=true)∧FB A A' p1 e1):=by
  rcases k1 with⟨k,_⟩|⟨_,a,b,c⟩|⟨_,a,b,c,d⟩|⟨_,a,b,c,d⟩
  ·exact absurd h0 k
  ·exact .inl ⟨a,b,c⟩
  ·exact .inr (.inl ⟨a,fun k=>b ⟨hc1.1 k.1,hc2.1 k.2⟩,c,d⟩)
  ·exact .inr (.inr ⟨a,⟨hc1.2 b,hc2.2 c⟩,by rw[hA0,hA1];exact d⟩)
 have k2 : (¬ (c1=true∧c2=true)∧p2=0∧e2=10)∨((c1=true∧c2=true)∧FB A' A p2 e2):=by
  rcases k2 with⟨k,_⟩|⟨_,a,b,c⟩|⟨_,a,b,c⟩
  ·exact absurd h0 k
  ·exact .inl ⟨fun k=>a ⟨hc1.1 k.1,hc2.1 k.2⟩,b,c⟩
  ·exact .inr ⟨⟨hc1.2 a,hc2.2 b⟩,by rw[hA0,hA1];exact c⟩
 refine VI.l0 ?_
 refine zS ?_
 refine V.l0 ?_
 refine zS ?_
 have zf:=@hl
 refine V.lz ?_
 refine zS ?_
 by_cases hboth : c1=true∧c2=true
 ·obtain⟨rfl,rfl⟩:=hboth
  have q1:=(hq1 rfl).grow g9b
  have q2:=hq2 rfl
  have su1:=hc1.1 rfl
  have su2:=hc2.1 rfl
  have k2 : FB A' A p2 e2:=by
   rcases k2 with⟨k,_⟩|⟨_,k⟩
   ·exact absurd ⟨rfl,rfl⟩ k
   ·exact k
  have hz : ∀ i,l.length≤i→A i=0∧A' i=0:=fun i hi=>by
   have hn : ¬ 0<vl L l i:=by rw[vl_out hi];omega
   rw[hA0,hA1]
   exact⟨(otc_fin (m:=m) (S:=S) hvk ⟨hS.1,by omega⟩ hv8).1.adm i (fun k=>hn k.2),(otc_fin (m:=m) (S:=S+1) hvk ⟨by omega,by omega⟩ hv8).1.adm i (fun k=>hn k.2)⟩
  refine V.loop (fun z t mm X=>∃ (k : Nat) (g q : Int),k≤l.length∧z=k∧mm=[]∧X=Hb∧LP A A' l.length k g∧LP A' A l.length k q∧Full 189 t∧Kn [(1,.slice px nx' cx),(2,PT H.next),(5,I p1),(6,I e1),(7,I p2),(8,I e2),(10,y1),(11,.bool true),(12,y2),(13,.bool true),(14,I g),(15,I q),(16,I ((k : Int)-1))] t) l.length ?_ ?_
  ·exact⟨l.length,-1,-1,by omega,rfl,rfl,rfl,.inl ⟨rfl,fun i _ _=>by omega⟩,.inl ⟨rfl,fun i _ _=>by omega⟩,zF,zK⟩
  clear hF hA
  rintro z t mm X ⟨k,g,q,hk,hzk,rfl,hX,hg,hq,hF,hA⟩
  obtain rfl:=hzk.symm
  obtain rfl : Hb=X:=hX.symm
  simp only[Kn,and_true] at hA
  refine zS ?_
  rcases k with _|j
  ·have hn : ((0 : Int)≤((0 : Nat) : Int)-1)=False:=eq_false (by omega)
   have zf:=@hn
   refine V.lz ?_
   refine zS ?_
   refine V.condF zA ?_
   refine V.exit ?_
   refine zX ?_
   refine V.nil (Or.inr ⟨by simp,?_⟩)
   refine zX ?_
   have hz2 : ∀ i,l.length≤i→¬ A' i<A i:=fun i hi=>by have:=hz i hi;omega
   refine zS ?_
   refine V.l0 ?_
   refine zS ?_
   refine V.condF zA ?_
   refine zS ?_
   rcases LP_FB hl8 hz2 hq k2 with⟨rfl,rfl,rfl,_⟩|⟨hq0,hpq,rfl⟩
   ·have hm1 : ((-1 : Int)<0)=True:=eq_true (by omega)
    have zf:=@hm1
    refine V.lz ?_
    refine zS ?_
    refine V.condT zA ?_
    refine zS ?_
    refine V.line' (by simp +contextual (disch:=first|omega|simp only[nx];omega) only[D4,qF,qG,qA,qB,qC,D5,hF,hA,↓reduceIte,qD,qE,not_true_eq_false,not_false_eq_true];with_reducible rfl) ?_
    refine zS ?_
    refine V.condF zA ?_
    refine zS ?_
    have zf:=bb.2
    refine V.lz ?_
    refine zS ?_
    refine V.condP zP (fun h5=>?_) (fun h5=>?_)
    ·rcases k1 with⟨_,rfl,rfl⟩|⟨k,_⟩|⟨k,_⟩
     ·refine zS ?_
      refine V.run ?_
      refine VI.s0 7 ?_
      simp only[ds]
      refine VI.callAT zG rfl (f20_ok _) zA (fun Hd gd=>?_)
      refine VI.l0 ?_
      refine zS ?_
      refine V.ret (V.rets rfl (Lv.retF (by simp +contextual (disch:=first|omega|simp only[nx];omega) only[D1,cells_alloc_at,cells_alloc_ne,cells_set_at,cells_set_ne,yres,yres1,yresL,qA,qB,qC,D5,hF,hA,↓reduceIte,qD,qE];rfl) ?_))
      rfl
     ·exact absurd h5 k
     ·exact absurd h5 k
    refine zS ?_
    refine V.run ?_
    have zf:=bb.2
    refine VI.sz 2 ?_
    simp only[ds]
    refine VI.callA rfl (f34_ok (m:=m) (S:=S) (L:=L) (h.grow gHb) hl8 hb) zA (fun Hc gc=>?_)
    refine VI.l0 ?_
    refine zS ?_
    refine V.condP zP (fun hN=>?_) (fun hN=>?_)
    ·have k1 : FB A A' p1 e1:=by
      rcases k1 with⟨k,_⟩|⟨_,k,_⟩|⟨_,_,k⟩
      ·exact absurd k h5
      ·exact absurd ⟨rfl,rfl⟩ k
      ·exact k
     have z1:=(none_sure (m:=m) hvk ⟨hS.1,by omega⟩ hv8 hN).2
     have z2:=(none_sure (m:=m) (S:=S+1) hvk ⟨by omega,by omega⟩ hv8 hN).2
     rw[← hA0] at z1
     rw[← hA1] at z2
     rw[z1,z2] at k1
     obtain⟨rfl,rfl⟩ : p1=0∧e1=7:=by
      rcases k1 with⟨k,_,k2,_⟩|⟨_,a,b⟩
      ·exact absurd k2 (by omega)
      ·exact⟨a,b⟩
     refine zS ?_
     refine V.run ?_
     refine VI.s0 7 ?_
     simp only[ds]
     refine VI.callAT zG rfl (f20_ok _) zA (fun Hd gd=>?_)
     refine VI.l0 ?_
     refine zS ?_
     refine V.ret (V.rets rfl (Lv.retF (by simp +contextual (disch:=first|omega|simp only[nx];omega) only[D1,cells_alloc_at,cells_alloc_ne,cells_set_at,cells_set_ne,yres,yres1,yresL,qA,qB,qC,D5,hF,hA,↓reduceIte,qD,qE];rfl) ?_))
     rfl
    refine zS ?_
    refine V.l0 ?_
    refine zS ?_
    refine V.condF zA ?_
    have k1 : FB A A' p1 e1:=by
     rcases k1 with⟨k,_⟩|⟨_,k,_⟩|⟨_,_,k⟩
     ·exact absurd k h5
     ·exact absurd ⟨rfl,rfl⟩ k
     ·exact k
    have hN:=Decidable.not_not.1 hN
    rcases LP_FB hl8 (fun i hi=>by have:=hz i hi;omega) hg k1 with⟨_,_,_,hall⟩|⟨_,rfl,rfl⟩
    ·exfalso
     have s1 : sm A 8=S:=by
      rcases sure_sum hvk ⟨hS.1,by omega⟩ hv8 su1 with⟨_,k⟩|⟨k,_⟩
      ·rw[hA0];exact k
      ·obtain⟨p,hp,hv⟩:=(sm_pos' hvk).1 hN;exact absurd hv (k p hp)
     have s2 : sm A' 8=S+1:=by
      rcases sure_sum hvk ⟨by omega,by omega⟩ hv8 su2 with⟨_,k⟩|⟨k,_⟩
      ·rw[hA1];exact k
      ·obtain⟨p,hp,hv⟩:=(sm_pos' hvk).1 hN;exact absurd hv (k p hp)
     have:=sm_le (s:=A') (t:=A) (n:=8) (fun i hi=>by have:=hall i hi;omega)
     omega
    have hee : ∀ a : Int,(a=a)=True:=fun a=>eq_self a
    refine zS ?_
    refine V.run ?_
    have zf:=@hee
    refine VI.sz 8 ?_
    simp only[ds]
    refine VI.callAT zG rfl (f20_ok _) zA (fun Hd gd=>?_)
    refine VI.l0 ?_
    refine zS ?_
    refine V.ret (V.rets rfl (Lv.retF (by simp +contextual (disch:=first|omega|simp only[nx];omega) only[D1,cells_alloc_at,cells_alloc_ne,cells_set_at,cells_set_ne,yres,yres1,yresL,qA,qB,qC,D5,hF,hA,↓reduceIte,qD,qE];rfl) ?_))
    rfl
   ·have hm1 : (q<0)=False:=eq_false (by omega)
    have hpe : (p2=q)=True:=eq_true hpq
    have zf:=@hm1
    refine V.lz ?_
    refine zS ?_
    refine V.condF zA ?_
    refine zS ?_
    refine V.line' (by simp +contextual (disch:=first|omega|simp only[nx];omega) only[D4,qF,qG,qA,qB,qC,D5,hF,hA,↓reduceIte,qD,qE,hpe,not_true_eq_false,not_false_eq_true];with_reducible rfl) ?_
    refine zS ?_
    refine V.condF zA ?_
    refine zS ?_
    have zf:=bb.2
    refine V.lz ?_
    refine zS ?_
    refine V.condP zP (fun h5=>?_) (fun h5=>?_)
    ·rcases k1 with⟨_,rfl,rfl⟩|⟨k,_⟩|⟨k,_⟩
     ·refine zS ?_
      refine V.run ?_
      refine VI.s0 7 ?_
      simp only[ds]
      refine VI.callAT zG rfl (f20_ok _) zA (fun Hd gd=>?_)
      refine VI.l0 ?_
      refine zS ?_
      refine V.ret (V.rets rfl (Lv.retF (by simp +contextual (disch:=first|omega|simp only[nx];omega) only[D1,cells_alloc_at,cells_alloc_ne,cells_set_at,cells_set_ne,yres,yres1,yresL,qA,qB,qC,D5,hF,hA,↓reduceIte,qD,qE];rfl) ?_))
      rfl
     ·exact absurd h5 k
     ·exact absurd h5 k
    refine zS ?_
    refine V.run ?_
    have zf:=bb.2
    refine VI.sz 2 ?_
    simp only[ds]
    refine VI.callA rfl (f34_ok (m:=m) (S:=S) (L:=L) (h.grow gHb) hl8 hb) zA (fun Hc gc=>?_)
    refine VI.l0 ?_
    refine zS ?_
    refine V.condP zP (fun hN=>?_) (fun hN=>?_)
    ·have k1 : FB A A' p1 e1:=by
      rcases k1 with⟨k,_⟩|⟨_,k,_⟩|⟨_,_,k⟩
      ·exact absurd k h5
      ·exact absurd ⟨rfl,rfl⟩ k
      ·exact k
     have z1:=(none_sure (m:=m) hvk ⟨hS.1,by omega⟩ hv8 hN).2
     have z2:=(none_sure (m:=m) (S:=S+1) hvk ⟨by omega,by omega⟩ hv8 hN).2
     rw[← hA0] at z1
     rw[← hA1] at z2
     rw[z1,z2] at k1
     obtain⟨rfl,rfl⟩ : p1=0∧e1=7:=by
      rcases k1 with⟨k,_,k2,_⟩|⟨_,a,b⟩
      ·exact absurd k2 (by omega)
      ·exact⟨a,b⟩
     refine zS ?_
     refine V.run ?_
     refine VI.s0 7 ?_
     simp only[ds]
     refine VI.callAT zG rfl (f20_ok _) zA (fun Hd gd=>?_)
     refine VI.l0 ?_
     refine zS ?_
     refine V.ret (V.rets rfl (Lv.retF (by simp +contextual (disch:=first|omega|simp only[nx];omega) only[D1,cells_alloc_at,cells_alloc_ne,cells_set_at,cells_set_ne,yres,yres1,yresL,qA,qB,qC,D5,hF,hA,↓reduceIte,qD,qE];rfl) ?_))
     rfl
    refine zS ?_
    refine V.l0 ?_
    refine zS ?_
    refine V.condF zA ?_
    have k1 : FB A A' p1 e1:=by
     rcases k1 with⟨k,_⟩|⟨_,k,_⟩|⟨_,_,k⟩
     ·exact absurd k h5
     ·exact absurd ⟨rfl,rfl⟩ k
     ·exact k
    have hN:=Decidable.not_not.1 hN
    rcases LP_FB hl8 (fun i hi=>by have:=hz i hi;omega) hg k1 with⟨_,_,_,hall⟩|⟨_,rfl,rfl⟩
    ·exfalso
     have s1 : sm A 8=S:=by
      rcases sure_sum hvk ⟨hS.1,by omega⟩ hv8 su1 with⟨_,k⟩|⟨k,_⟩
      ·rw[hA0];exact k
      ·obtain⟨p,hp,hv⟩:=(sm_pos' hvk).1 hN;exact absurd hv (k p hp)
     have s2 : sm A' 8=S+1:=by
      rcases sure_sum hvk ⟨by omega,by omega⟩ hv8 su2 with⟨_,k⟩|⟨k,_⟩
      ·rw[hA1];exact k
      ·obtain⟨p,hp,hv⟩:=(sm_pos' hvk).1 hN;exact absurd hv (k p hp)
     have:=sm_le (s:=A') (t:=A) (n:=8) (fun i hi=>by have:=hall i hi;omega)
     omega
    have hee : ∀ a : Int,(a=a)=True:=fun a=>eq_self a
    refine zS ?_
    refine V.run ?_
    have zf:=@hee
    refine VI.sz 8 ?_
    simp only[ds]
    refine VI.callAT zG rfl (f20_ok _) zA (fun Hd gd=>?_)
    refine VI.l0 ?_
    refine zS ?_
    refine V.ret (V.rets rfl (Lv.retF (by simp +contextual (disch:=first|omega|simp only[nx];omega) only[D1,cells_alloc_at,cells_alloc_ne,cells_set_at,cells_set_ne,yres,yres1,yresL,qA,qB,qC,D5,hF,hA,↓reduceIte,qD,qE];rfl) ?_))
    rfl
  ·have hn : ((0 : Int)≤((j+1 : Nat) : Int)-1)=True:=eq_true (by omega)
   have ej : ((j+1 : Nat) : Int)-1=(j : Nat):=by omega
   rw[ej] at hA hn
   have zf:=@hn
   refine V.lz ?_
   refine zS ?_
   refine V.condT zA ?_
   obtain⟨pa,pa1,pa2⟩:=q1.at (k:=j) (by rw[fl_len];omega)
   obtain⟨pb,pb1,pb2⟩:=q2.at (k:=j) (by rw[fl_len];omega)
   have pa3:=pa2 Hb (.refl _)
   have pb3:=pb2 Hb (.refl _)
   rw[fl_at] at pa3 pb3
   refine zS ?_
   have zf:=And.intro @pa1<|And.intro @pa3<|And.intro @pb1<|@pb3
   refine V.dz ?_ ?_ rfl ?_
   ·exact zM
   ·simp only[dcAll,dcOk,wantD,List.cons_append,List.nil_append,true_and,and_true]
   refine zS ?_
   refine V.condP zP (fun d1=>?_) (fun d1=>?_)
   ·refine zS ?_
    refine V.l0 ?_
    refine zS ?_
    have zf:=And.intro @pa1<|And.intro @pa3<|And.intro @pb1<|@pb3
    refine V.dz ?_ ?_ rfl ?_
    ·exact zM
    ·simp only[dcAll,dcOk,wantD,List.cons_append,List.nil_append,true_and,and_true]
    refine zS ?_
    refine V.condP zP (fun d2=>?_) (fun d2=>?_)
    ·omega
    refine zS ?_
    refine V.l0 ?_
    refine V.nil (Or.inl ⟨rfl,j,by omega,?_⟩)
    exact⟨j,_,_,by omega,rfl,rfl,rfl,LP_t (by omega) d1,LP_f d2 hq,zF,zK⟩
   ·refine zS ?_
    have zf:=And.intro @pa1<|And.intro @pa3<|And.intro @pb1<|@pb3
    refine V.dz ?_ ?_ rfl ?_
    ·exact zM
    ·simp only[dcAll,dcOk,wantD,List.cons_append,List.nil_append,true_and,and_true]
    refine zS ?_
    refine V.condP zP (fun d2=>?_) (fun d2=>?_)
    ·refine zS ?_
     refine V.l0 ?_
     refine zS ?_
     refine V.l0 ?_
     refine V.nil (Or.inl ⟨rfl,j,by omega,?_⟩)
     exact⟨j,_,_,by omega,rfl,rfl,rfl,LP_f d1 hg,LP_t (by omega) d2,zF,zK⟩
    ·refine zS ?_
     refine V.l0 ?_
     refine V.nil (Or.inl ⟨rfl,j,by omega,?_⟩)
     exact⟨j,_,_,by omega,rfl,rfl,rfl,LP_f d1 hg,LP_f d2 hq,zF,zK⟩
 ·skip
  obtain⟨rfl,rfl⟩ : p2=0∧e2=10:=by
   rcases k2 with⟨_,a,b⟩|⟨k,_⟩
   ·exact⟨a,b⟩
   ·exact absurd k hboth
  refine V.loop (fun z t mm X=>z=0∧mm=[]∧X=Hb∧Full 189 t∧Kn [(1,.slice px nx' cx),(2,PT H.next),(5,I p1),(6,I e1),(7,I 0),(8,I 10),(11,.bool c1),(13,.bool c2),(16,I ((l.length : Int)-1))] t) 0 ?_ ?_
  ·exact⟨rfl,rfl,rfl,zF,zK⟩
  clear hF hA
  rintro z t mm X ⟨_,rfl,hX,hF,hA⟩
  obtain rfl : Hb=X:=hX.symm
  simp only[Kn,and_true] at hA
  refine zS ?_
  by_cases hn0 : (0 : Int)≤(l.length : Int)-1
  ·have hn : ((0 : Int)≤(l.length : Int)-1)=True:=eq_true hn0
   cases c1
   ·skip
    have zf:=@hn
    refine V.lz ?_
    refine zS ?_
    refine V.condF zA ?_
    refine V.exit ?_
    refine zX ?_
    refine V.nil (Or.inr ⟨by simp,?_⟩)
    refine zX ?_
    refine zS ?_
    refine V.l0 ?_
    refine zS ?_
    refine V.condT zA ?_
    refine zS ?_
    refine V.line' (by simp +contextual (disch:=first|omega|simp only[nx];omega) only[D4,qF,qG,qA,qB,qC,D5,hF,hA,↓reduceIte,qD,qE,not_true_eq_false,not_false_eq_true];with_reducible rfl) ?_
    refine zS ?_
    refine V.condF zA ?_
    refine zS ?_
    have zf:=bb.2
    refine V.lz ?_
    refine zS ?_
    refine V.condP zP (fun h5=>?_) (fun h5=>?_)
    ·rcases k1 with⟨_,rfl,rfl⟩|⟨k,_⟩|⟨k,_⟩
     ·refine zS ?_
      refine V.run ?_
      refine VI.s0 7 ?_
      simp only[ds]
      refine VI.callAT zG rfl (f20_ok _) zA (fun Hd gd=>?_)
      refine VI.l0 ?_
      refine zS ?_
      refine V.ret (V.rets rfl (Lv.retF (by simp +contextual (disch:=first|omega|simp only[nx];omega) only[D1,cells_alloc_at,cells_alloc_ne,cells_set_at,cells_set_ne,yres,yres1,yresL,qA,qB,qC,D5,hF,hA,↓reduceIte,qD,qE];rfl) ?_))
      rfl
     ·exact absurd h5 k
     ·exact absurd h5 k
    refine zS ?_
    refine V.run ?_
    have zf:=bb.2
    refine VI.sz 2 ?_
    simp only[ds]
    refine VI.callA rfl (f34_ok (m:=m) (S:=S) (L:=L) (h.grow gHb) hl8 hb) zA (fun Hc gc=>?_)
    refine VI.l0 ?_
    refine zS ?_
    refine V.condP zP (fun hN=>?_) (fun hN=>?_)
    ·exact absurd ⟨hc1.2 (none_sure (m:=m) hvk ⟨hS.1,by omega⟩ hv8 hN).1,hc2.2 (none_sure (m:=m) (S:=S+1) hvk ⟨by omega,by omega⟩ hv8 hN).1⟩ hboth
    refine zS ?_
    refine V.l0 ?_
    refine zS ?_
    refine V.condT zA ?_
    obtain⟨rfl,rfl⟩ : p1=0∧e1=10:=by
     rcases k1 with⟨k,_⟩|⟨_,_,a,b⟩|⟨_,k,_⟩
     ·exact absurd k h5
     ·exact⟨a,b⟩
     ·exact absurd k hboth
    refine zS ?_
    refine V.run ?_
    refine VI.s0 7 ?_
    simp only[ds]
    refine VI.callAT zG rfl (f20_ok _) zA (fun Hd gd=>?_)
    refine VI.l0 ?_
    refine zS ?_
    refine V.ret (V.rets rfl (Lv.retF (by simp +contextual (disch:=first|omega|simp only[nx];omega) only[D1,cells_alloc_at,cells_alloc_ne,cells_set_at,cells_set_ne,yres,yres1,yresL,qA,qB,qC,D5,hF,hA,↓reduceIte,qD,qE];rfl) ?_))
    rfl
   ·cases c2
    ·skip
     have zf:=@hn
     refine V.lz ?_
     refine zS ?_
     refine V.condF zA ?_
     refine V.exit ?_
     refine zX ?_
     refine V.nil (Or.inr ⟨by simp,?_⟩)
     refine zX ?_
     refine zS ?_
     refine V.l0 ?_
     refine zS ?_
     refine V.condT zA ?_
     refine zS ?_
     refine V.line' (by simp +contextual (disch:=first|omega|simp only[nx];omega) only[D4,qF,qG,qA,qB,qC,D5,hF,hA,↓reduceIte,qD,qE,not_true_eq_false,not_false_eq_true];with_reducible rfl) ?_
     refine zS ?_
     refine V.condF zA ?_
     refine zS ?_
     have zf:=bb.2
     refine V.lz ?_
     refine zS ?_
     refine V.condP zP (fun h5=>?_) (fun h5=>?_)
     ·rcases k1 with⟨_,rfl,rfl⟩|⟨k,_⟩|⟨k,_⟩
      ·refine zS ?_
       refine V.run ?_
       refine VI.s0 7 ?_
       simp only[ds]
       refine VI.callAT zG rfl (f20_ok _) zA (fun Hd gd=>?_)
       refine VI.l0 ?_
       refine zS ?_
       refine V.ret (V.rets rfl (Lv.retF (by simp +contextual (disch:=first|omega|simp only[nx];omega) only[D1,cells_alloc_at,cells_alloc_ne,cells_set_at,cells_set_ne,yres,yres1,yresL,qA,qB,qC,D5,hF,hA,↓reduceIte,qD,qE];rfl) ?_))
       rfl
      ·exact absurd h5 k
      ·exact absurd h5 k
     refine zS ?_
     refine V.run ?_
     have zf:=bb.2
     refine VI.sz 2 ?_
     simp only[ds]
     refine VI.callA rfl (f34_ok (m:=m) (S:=S) (L:=L) (h.grow gHb) hl8 hb) zA (fun Hc gc=>?_)
     refine VI.l0 ?_
     refine zS ?_
     refine V.condP zP (fun hN=>?_) (fun hN=>?_)
     ·exact absurd ⟨hc1.2 (none_sure (m:=m) hvk ⟨hS.1,by omega⟩ hv8 hN).1,hc2.2 (none_sure (m:=m) (S:=S+1) hvk ⟨by omega,by omega⟩ hv8 hN).1⟩ hboth
     refine zS ?_
     refine V.l0 ?_
     refine zS ?_
     refine V.condT zA ?_
     obtain⟨rfl,rfl⟩ : p1=0∧e1=10:=by
      rcases k1 with⟨k,_⟩|⟨_,_,a,b⟩|⟨_,k,_⟩
      ·exact absurd k h5
      ·exact⟨a,b⟩
      ·exact absurd k hboth
     refine zS ?_
     refine V.run ?_
     refine VI.s0 7 ?_
     simp only[ds]
     refine VI.callAT zG rfl (f20_ok _) zA (fun Hd gd=>?_)
     refine VI.l0 ?_
     refine zS ?_
     refine V.ret (V.rets rfl (Lv.retF (by simp +contextual (disch:=first|omega|simp only[nx];omega) only[D1,cells_alloc_at,cells_alloc_ne,cells_set_at,cells_set_ne,yres,yres1,yresL,qA,qB,qC,D5,hF,hA,↓reduceIte,qD,qE];rfl) ?_))
     rfl
    ·exact absurd ⟨rfl,rfl⟩ hboth
  ·have hn : ((0 : Int)≤(l.length : Int)-1)=False:=eq_false hn0
   cases c1
   ·skip
    have zf:=@hn
    refine V.lz ?_
    refine zS ?_
    refine V.condF zA ?_
    refine V.exit ?_
    refine zX ?_
    refine V.nil (Or.inr ⟨by simp,?_⟩)
    refine zX ?_
    refine zS ?_
    refine V.l0 ?_
    refine zS ?_
    refine V.condT zA ?_
    refine zS ?_
    refine V.line' (by simp +contextual (disch:=first|omega|simp only[nx];omega) only[D4,qF,qG,qA,qB,qC,D5,hF,hA,↓reduceIte,qD,qE,not_true_eq_false,not_false_eq_true];with_reducible rfl) ?_
    refine zS ?_
    refine V.condF zA ?_
    refine zS ?_
    have zf:=bb.2
    refine V.lz ?_
    refine zS ?_
    refine V.condP zP (fun h5=>?_) (fun h5=>?_)
    ·rcases k1 with⟨_,rfl,rfl⟩|⟨k,_⟩|⟨k,_⟩
     ·refine zS ?_
      refine V.run ?_
      refine VI.s0 7 ?_
      simp only[ds]
      refine VI.callAT zG rfl (f20_ok _) zA (fun Hd gd=>?_)
      refine VI.l0 ?_
      refine zS ?_
      refine V.ret (V.rets rfl (Lv.retF (by simp +contextual (disch:=first|omega|simp only[nx];omega) only[D1,cells_alloc_at,cells_alloc_ne,cells_set_at,cells_set_ne,yres,yres1,yresL,qA,qB,qC,D5,hF,hA,↓reduceIte,qD,qE];rfl) ?_))
      rfl
     ·exact absurd h5 k
     ·exact absurd h5 k
    refine zS ?_
    refine V.run ?_
    have zf:=bb.2
    refine VI.sz 2 ?_
    simp only[ds]
    refine VI.callA rfl (f34_ok (m:=m) (S:=S) (L:=L) (h.grow gHb) hl8 hb) zA (fun Hc gc=>?_)
    refine VI.l0 ?_
    refine zS ?_
    refine V.condP zP (fun hN=>?_) (fun hN=>?_)
    ·exact absurd ⟨hc1.2 (none_sure (m:=m) hvk ⟨hS.1,by omega⟩ hv8 hN).1,hc2.2 (none_sure (m:=m) (S:=S+1) hvk ⟨by omega,by omega⟩ hv8 hN).1⟩ hboth
    refine zS ?_
    refine V.l0 ?_
    refine zS ?_
    refine V.condT zA ?_
    obtain⟨rfl,rfl⟩ : p1=0∧e1=10:=by
     rcases k1 with⟨k,_⟩|⟨_,_,a,b⟩|⟨_,k,_⟩
     ·exact absurd k h5
     ·exact⟨a,b⟩
     ·exact absurd k hboth
    refine zS ?_
    refine V.run ?_
    refine VI.s0 7 ?_
    simp only[ds]
    refine VI.callAT zG rfl (f20_ok _) zA (fun Hd gd=>?_)
    refine VI.l0 ?_
    refine zS ?_
    refine V.ret (V.rets rfl (Lv.retF (by simp +contextual (disch:=first|omega|simp only[nx];omega) only[D1,cells_alloc_at,cells_alloc_ne,cells_set_at,cells_set_ne,yres,yres1,yresL,qA,qB,qC,D5,hF,hA,↓reduceIte,qD,qE];rfl) ?_))
    rfl
   ·cases c2
    ·skip
     have zf:=@hn
     refine V.lz ?_
     refine zS ?_
     refine V.condF zA ?_
     refine V.exit ?_
     refine zX ?_
     refine V.nil (Or.inr ⟨by simp,?_⟩)
     refine zX ?_
     refine zS ?_
     refine V.l0 ?_
     refine zS ?_
     refine V.condT zA ?_
     refine zS ?_
     refine V.line' (by simp +contextual (disch:=first|omega|simp only[nx];omega) only[D4,qF,qG,qA,qB,qC,D5,hF,hA,↓reduceIte,qD,qE,not_true_eq_false,not_false_eq_true];with_reducible rfl) ?_
     refine zS ?_
     refine V.condF zA ?_
     refine zS ?_
     have zf:=bb.2
     refine V.lz ?_
     refine zS ?_
     refine V.condP zP (fun h5=>?_) (fun h5=>?_)
     ·rcases k1 with⟨_,rfl,rfl⟩|⟨k,_⟩|⟨k,_⟩
      ·refine zS ?_
       refine V.run ?_
       refine VI.s0 7 ?_
       simp only[ds]
       refine VI.callAT zG rfl (f20_ok _) zA (fun Hd gd=>?_)
       refine VI.l0 ?_
       refine zS ?_
       refine V.ret (V.rets rfl (Lv.retF (by simp +contextual (disch:=first|omega|simp only[nx];omega) only[D1,cells_alloc_at,cells_alloc_ne,cells_set_at,cells_set_ne,yres,yres1,yresL,qA,qB,qC,D5,hF,hA,↓reduceIte,qD,qE];rfl) ?_))
       rfl
      ·exact absurd h5 k
      ·exact absurd h5 k
     refine zS ?_
     refine V.run ?_
     have zf:=bb.2
     refine VI.sz 2 ?_
     simp only[ds]
     refine VI.callA rfl (f34_ok (m:=m) (S:=S) (L:=L) (h.grow gHb) hl8 hb) zA (fun Hc gc=>?_)
     refine VI.l0 ?_
     refine zS ?_
     refine V.condP zP (fun hN=>?_) (fun hN=>?_)
     ·exact absurd ⟨hc1.2 (none_sure (m:=m) hvk ⟨hS.1,by omega⟩ hv8 hN).1,hc2.2 (none_sure (m:=m) (S:=S+1) hvk ⟨by omega,by omega⟩ hv8 hN).1⟩ hboth
     refine zS ?_
     refine V.l0 ?_
     refine zS ?_
     refine V.condT zA ?_
     obtain⟨rfl,rfl⟩ : p1=0∧e1=10:=by
      rcases k1 with⟨k,_⟩|⟨_,_,a,b⟩|⟨_,k,_⟩
      ·exact absurd k h5
      ·exact⟨a,b⟩
      ·exact absurd k hboth
     refine zS ?_
     refine V.run ?_
     refine VI.s0 7 ?_
     simp only[ds]
     refine VI.callAT zG rfl (f20_ok _) zA (fun Hd gd=>?_)
     refine VI.l0 ?_
     refine zS ?_
     refine V.ret (V.rets rfl (Lv.retF (by simp +contextual (disch:=first|omega|simp only[nx];omega) only[D1,cells_alloc_at,cells_alloc_ne,cells_set_at,cells_set_ne,yres,yres1,yresL,qA,qB,qC,D5,hF,hA,↓reduceIte,qD,qE];rfl) ?_))
     rfl
    ·exact absurd ⟨rfl,rfl⟩ hboth
end Go.Xe.TVX
