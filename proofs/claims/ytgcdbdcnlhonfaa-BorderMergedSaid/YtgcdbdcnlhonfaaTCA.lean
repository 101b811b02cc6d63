/- What the functions of the layer border come to: the error of a map, as the reference has it. Conditions: none. -/
import Derived.Test.YtgcdbdcnlhonfaaTBZ
-- MOD TB
namespace Go.Xe.TBX
open Go Go.Xe Go.Proofs
open Nat renaming reduceLeDiff → qA, reduceSub → qB, reduceAdd → qC, reduceEqDiff → qD, reduceLT → qE
open Int renaming reduceNegSucc → qF, reduceEq → qG
open Go.Xe.V renaming seq → sA, block → sB, scope → sC, skip → sD, close → sE
open Go.Xe renaming pth → P
open Go.Xe.Rnd
set_option maxRecDepth 100000
set_option maxHeartbeats 3200000
set_option linter.unusedSimpArgs false
noncomputable def d59 : FCode:=(.seq (.run (.go (.box 26 (tm 0)) (P 1)::
.go (.move (.con (.int .i64 (.ofNat 0)))) (P 2)::
[])) (.seq (.seq (.run (.go (.fieldAddr 0 (tm 1)) (P 10)::
.go (.load1 (tm 10)) (P 11)::
.go (.len 0 (tm 11)) (P 12)::
.go (.bin .gtr 3 (tm 12) (.con (.int .i64 (.ofNat 4)))) (P 13)::
.go (.move (tm 13)) (P 14)::
.gd (P 14) false (.fieldAddr 2 (tm 1)) (P 15)::
.gd (P 14) false (.load1 (tm 15)) (P 16)::
.gd (P 14) false (.len 0 (tm 16)) (P 17)::
.gd (P 14) false (.bin .gtr 3 (tm 17) (.con (.int .i64 (.ofNat 8)))) (P 18)::
.go (.pick (tm 14) (.con (.bool true)) (tm 18)) (P 19)::
.go (.move (tm 19)) (P 20)::
.gd (P 20) false (.fieldAddr 3 (tm 1)) (P 21)::
.gd (P 20) false (.load1 (tm 21)) (P 22)::
.gd (P 20) false (.len 0 (tm 22)) (P 23)::
.gd (P 20) false (.bin .gtr 3 (tm 23) (.con (.int .i64 (.ofNat 20)))) (P 24)::
.go (.pick (tm 20) (.con (.bool true)) (tm 24)) (P 25)::
[])) (.cond (tm 25) (.seq (.run (.go (.move (.con (.int .i64 (.ofNat 3)))) (P 2)::
[])) .ret) .skip)) (.seq (.seq (.run (.go (.fieldAddr 0 (tm 1)) (P 26)::
.go (.load1 (tm 26)) (P 27)::
.go (.len 0 (tm 27)) (P 28)::
.go (.bin .eql 3 (tm 28) (.con (.int .i64 (.ofNat 0)))) (P 29)::
.go (.move (tm 29)) (P 30)::
.gd (P 30) false (.fieldAddr 1 (tm 1)) (P 31)::
.gd (P 30) false (.load1 (tm 31)) (P 32)::
.gd (P 30) false (.call (.con (.func (.func 42) ⟨[]⟩ ⟨[]⟩)) [(tm 32),(.con (.int .i64 (.ofNat 1))),(.con (.int .i64 (.ofNat 4)))]) (P 33)::
.gd (P 30) false (.un .not (tm 33)) (P 34)::
.go (.pick (tm 30) (.con (.bool true)) (tm 34)) (P 35)::
.go (.move (tm 35)) (P 36)::
.gd (P 36) false (.fieldAddr 2 (tm 1)) (P 37)::
.gd (P 36) false (.load1 (tm 37)) (P 38)::
.gd (P 36) false (.len 0 (tm 38)) (P 39)::
.gd (P 36) false (.bin .eql 3 (tm 39) (.con (.int .i64 (.ofNat 0)))) (P 40)::
.go (.pick (tm 36) (.con (.bool true)) (tm 40)) (P 41)::
[])) (.cond (tm 41) (.seq (.run (.go (.move (.con (.int .i64 (.ofNat 1)))) (P 2)::
[])) .ret) .skip)) (.seq (.seq (.run (.go (.move (.con (.int .i64 (.ofNat 0)))) (P 3)::
[])) (.block 0 (.loop (.seq (.seq (.run (.go (.move (tm 3)) (P 42)::
.go (.fieldAddr 2 (tm 1)) (P 43)::
.go (.load1 (tm 43)) (P 44)::
.go (.len 0 (tm 44)) (P 45)::
.go (.bin .lss 3 (tm 42) (tm 45)) (P 46)::
[])) (.cond (tm 46) .skip (.exit 0))) (.seq (.block 1 (.seq (.run (.go (.fieldAddr 2 (tm 1)) (P 49)::
.go (.load1 (tm 49)) (P 50)::
.go (.move (tm 3)) (P 51)::
.go (.indexAddr none 5 (tm 50) (tm 51)) (P 52)::
.go (.loadN 5 (tm 52)) (P 53)::
.go (.alloc 54 [(.int .i64 (.ofNat 0)),(.int .i64 (.ofNat 0)),(.int .i64 (.ofNat 0)),(.int .i64 (.ofNat 0)),(.int .i64 (.ofNat 0))]) (P 4)::
.un (.store 5 (tm 4) (tm 53))::
[])) (.seq (.run (.go (.fieldAddr 0 (tm 4)) (P 54)::
.go (.load1 (tm 54)) (P 55)::
.go (.fieldAddr 0 (tm 1)) (P 56)::
.go (.load1 (tm 56)) (P 57)::
.go (.len 0 (tm 57)) (P 58)::
.go (.bin .sub 3 (tm 58) (.con (.int .i64 (.ofNat 1)))) (P 59)::
.go (.call (.con (.func (.func 42) ⟨[]⟩ ⟨[]⟩)) [(tm 55),(.con (.int .i64 (.ofNat 0))),(tm 59)]) (P 60)::
.go (.un .not (tm 60)) (P 61)::
.go (.move (tm 61)) (P 62)::
.gd (P 62) false (.fieldAddr 1 (tm 4)) (P 63)::
.gd (P 62) false (.load1 (tm 63)) (P 64)::
.gd (P 62) false (.fieldAddr 1 (tm 1)) (P 65)::
.gd (P 62) false (.load1 (tm 65)) (P 66)::
.gd (P 62) false (.bin .sub 3 (tm 66) (.con (.int .i64 (.ofNat 1)))) (P 67)::
.gd (P 62) false (.call (.con (.func (.func 42) ⟨[]⟩ ⟨[]⟩)) [(tm 64),(.con (.int .i64 (.ofNat 0))),(tm 67)]) (P 68)::
.gd (P 62) false (.un .not (tm 68)) (P 69)::
.go (.pick (tm 62) (.con (.bool true)) (tm 69)) (P 70)::
.go (.move (tm 70)) (P 71)::
.gd (P 71) false (.fieldAddr 2 (tm 4)) (P 72)::
.gd (P 71) false (.load1 (tm 72)) (P 73)::
.gd (P 71) false (.call (.con (.func (.func 42) ⟨[]⟩ ⟨[]⟩)) [(tm 73),(.con (.int .i64 (.ofNat 0))),(.con (.int .i64 (.ofNat 1000)))]) (P 74)::
.gd (P 71) false (.un .not (tm 74)) (P 75)::
.go (.pick (tm 71) (.con (.bool true)) (tm 75)) (P 76)::
.go (.move (tm 76)) (P 77)::
.gd (P 77) false (.fieldAddr 3 (tm 4)) (P 78)::
.gd (P 77) false (.fieldAddr 0 (tm 78)) (P 79)::
.gd (P 77) false (.load1 (tm 79)) (P 80)::
.gd (P 77) false (.fieldAddr 3 (tm 4)) (P 81)::
.gd (P 77) false (.fieldAddr 1 (tm 81)) (P 82)::
.gd (P 77) false (.load1 (tm 82)) (P 83)::
.gd (P 77) false (.call (.con (.func (.func 42) ⟨[]⟩ ⟨[]⟩)) [(tm 80),(.con (.int .i64 (.ofNat 0))),(tm 83)]) (P 84)::
.gd (P 77) false (.un .not (tm 84)) (P 85)::
.go (.pick (tm 77) (.con (.bool true)) (tm 85)) (P 86)::
.go (.move (tm 86)) (P 87)::
.gd (P 87) false (.fieldAddr 3 (tm 4)) (P 88)::
.gd (P 87) false (.fieldAddr 1 (tm 88)) (P 89)::
.gd (P 87) false (.load1 (tm 89)) (P 90)::
.gd (P 87) false (.bin .gtr 3 (tm 90) (.con (.int .i64 (.ofNat 10000)))) (P 91)::
.go (.pick (tm 87) (.con (.bool true)) (tm 91)) (P 92)::
[])) (.cond (tm 92) (.seq (.run (.go (.move (.con (.int .i64 (.ofNat 1)))) (P 2)::
[])) .ret) .skip)))) (.run (.go (.move (tm 3)) (P 47)::
.go (.bin .add 3 (tm 47) (.con (.int .i64 (.ofNat 1)))) (P 48)::
.go (.move (tm 48)) (P 3)::
[]))))))) (.seq (.seq (.run (.go (.move (.con (.int .i64 (.ofNat 0)))) (P 5)::
[])) (.block 2 (.loop (.seq (.seq (.run (.go (.move (tm 5)) (P 93)::
.go (.fieldAddr 0 (tm 1)) (P 94)::
.go (.load1 (tm 94)) (P 95)::
.go (.len 0 (tm 95)) (P 96)::
.go (.bin .lss 3 (tm 93) (tm 96)) (P 97)::
[])) (.cond (tm 97) .skip (.exit 2))) (.seq (.block 3 (.seq (.run (.go (.move (.con (.int .i64 (.ofNat 0)))) (P 6)::
[])) (.seq (.seq (.run (.go (.move (.con (.int .i64 (.ofNat 0)))) (P 7)::
[])) (.block 4 (.loop (.seq (.seq (.run (.go (.move (tm 7)) (P 100)::
.go (.fieldAddr 2 (tm 1)) (P 101)::
.go (.load1 (tm 101)) (P 102)::
.go (.len 0 (tm 102)) (P 103)::
.go (.bin .lss 3 (tm 100) (tm 103)) (P 104)::
[])) (.cond (tm 104) .skip (.exit 4))) (.seq (.block 5 (.seq (.run (.go (.fieldAddr 2 (tm 1)) (P 107)::
.go (.load1 (tm 107)) (P 108)::
.go (.move (tm 7)) (P 109)::
.go (.indexAddr none 5 (tm 108) (tm 109)) (P 110)::
.go (.fieldAddr 0 (tm 110)) (P 111)::
.go (.load1 (tm 111)) (P 112)::
.go (.move (tm 5)) (P 113)::
.go (.bin .eql 3 (tm 112) (tm 113)) (P 114)::
[])) (.cond (tm 114) (.run (.go (.move (tm 6)) (P 115)::
.go (.fieldAddr 2 (tm 1)) (P 116)::
.go (.load1 (tm 116)) (P 117)::
.go (.move (tm 7)) (P 118)::
.go (.indexAddr none 5 (tm 117) (tm 118)) (P 119)::
.go (.fieldAddr 2 (tm 119)) (P 120)::
.go (.load1 (tm 120)) (P 121)::
.go (.bin .add 3 (tm 115) (tm 121)) (P 122)::
.go (.move (tm 122)) (P 6)::
[])) .skip))) (.run (.go (.move (tm 7)) (P 105)::
.go (.bin .add 3 (tm 105) (.con (.int .i64 (.ofNat 1)))) (P 106)::
.go (.move (tm 106)) (P 7)::
[]))))))) (.seq (.run (.go (.fieldAddr 0 (tm 1)) (P 123)::
.go (.load1 (tm 123)) (P 124)::
.go (.move (tm 5)) (P 125)::
.go (.indexAddr none 1 (tm 124) (tm 125)) (P 126)::
.go (.load1 (tm 126)) (P 127)::
.go (.call (.con (.func (.func 42) ⟨[]⟩ ⟨[]⟩)) [(tm 127),(.con (.int .i64 (.ofNat 0))),(.con (.int .i64 (.ofNat 10000)))]) (P 128)::
.go (.un .not (tm 128)) (P 129)::
.go (.move (tm 129)) (P 130)::
.gd (P 130) false (.move (tm 6)) (P 131)::
.gd (P 130) false (.bin .eql 3 (tm 131) (.con (.int .i64 (.ofNat 0)))) (P 132)::
.go (.pick (tm 130) (.con (.bool true)) (tm 132)) (P 133)::
[])) (.cond (tm 133) (.seq (.run (.go (.move (.con (.int .i64 (.ofNat 1)))) (P 2)::
[])) .ret) .skip))))) (.run (.go (.move (tm 5)) (P 98)::
.go (.bin .add 3 (tm 98) (.con (.int .i64 (.ofNat 1)))) (P 99)::
.go (.move (tm 99)) (P 5)::
[]))))))) (.seq (.seq (.run (.go (.move (.con (.int .i64 (.ofNat 0)))) (P 8)::
[])) (.block 6 (.loop (.seq (.seq (.run (.go (.move (tm 8)) (P 134)::
.go (.fieldAddr 3 (tm 1)) (P 135)::
.go (.load1 (tm 135)) (P 136)::
.go (.len 0 (tm 136)) (P 137)::
.go (.bin .lss 3 (tm 134) (tm 137)) (P 138)::
[])) (.cond (tm 138) .skip (.exit 6))) (.seq (.block 7 (.seq (.run (.go (.fieldAddr 3 (tm 1)) (P 141)::
.go (.load1 (tm 141)) (P 142)::
.go (.move (tm 8)) (P 143)::
.go (.indexAddr none 2 (tm 142) (tm 143)) (P 144)::
.go (.loadN 2 (tm 144)) (P 145)::
.go (.alloc 88 [(.int .i64 (.ofNat 0)),(.int .i64 (.ofNat 0))]) (P 9)::
.un (.store 2 (tm 9) (tm 145))::
[])) (.seq (.run (.go (.fieldAddr 0 (tm 9)) (P 146)::
.go (.load1 (tm 146)) (P 147)::
.go (.fieldAddr 2 (tm 1)) (P 148)::
.go (.load1 (tm 148)) (P 149)::
.go (.len 0 (tm 149)) (P 150)::
.go (.bin .sub 3 (tm 150) (.con (.int .i64 (.ofNat 1)))) (P 151)::
.go (.call (.con (.func (.func 42) ⟨[]⟩ ⟨[]⟩)) [(tm 147),(.con (.int .i64 (.ofNat 0))),(tm 151)]) (P 152)::
.go (.un .not (tm 152)) (P 153)::
.go (.move (tm 153)) (P 154)::
.gd (P 154) false (.fieldAddr 1 (tm 9)) (P 155)::
.gd (P 154) false (.load1 (tm 155)) (P 156)::
.gd (P 154) false (.fieldAddr 2 (tm 1)) (P 157)::
.gd (P 154) false (.load1 (tm 157)) (P 158)::
.gd (P 154) false (.len 0 (tm 158)) (P 159)::
.gd (P 154) false (.bin .sub 3 (tm 159) (.con (.int .i64 (.ofNat 1)))) (P 160)::
.gd (P 154) false (.call (.con (.func (.func 42) ⟨[]⟩ ⟨[]⟩)) [(tm 156),(.con (.int .i64 (.ofNat 0))),(tm 160)]) (P 161)::
.gd (P 154) false (.un .not (tm 161)) (P 162)::
.go (.pick (tm 154) (.con (.bool true)) (tm 162)) (P 163)::
.go (.move (tm 163)) (P 164)::
.gd (P 164) false (.fieldAddr 0 (tm 9)) (P 165)::
.gd (P 164) false (.load1 (tm 165)) (P 166)::
.gd (P 164) false (.fieldAddr 1 (tm 9)) (P 167)::
.gd (P 164) false (.load1 (tm 167)) (P 168)::
.gd (P 164) false (.bin .eql 3 (tm 166) (tm 168)) (P 169)::
.go (.pick (tm 164) (.con (.bool true)) (tm 169)) (P 170)::
[])) (.cond (tm 170) (.seq (.run (.go (.move (.con (.int .i64 (.ofNat 1)))) (P 2)::
[])) .ret) .skip)))) (.run (.go (.move (tm 8)) (P 139)::
.go (.bin .add 3 (tm 139) (.con (.int .i64 (.ofNat 1)))) (P 140)::
.go (.move (tm 140)) (P 8)::
[]))))))) (.seq (.run (.go (.move (.con (.int .i64 (.ofNat 0)))) (P 2)::
[])) .ret)))))))
theorem de59 : @compF Try.prog (Gl.none Try.prog) Try.f59 1=.mk d59 (mkTT 171) [(P 0)] [.tmp (P 2)]:=by kernel_rfl
theorem dg59 : Try.prog.funcs[59]?=some Try.f59:=Try.func59
theorem do59 : okF Try.prog Try.f59=true:=by kernel_rfl
noncomputable def d21 : FCode:=(.seq (.run (.go (.box 26 (tm 0)) (P 1)::
.go (.move (.con (.int .i64 (.ofNat 0)))) (P 2)::
[])) (.seq (.run (.go (.loadN 4 (tm 1)) (P 3)::
.go (.call (.con (.func (.func 59) ⟨[]⟩ ⟨[]⟩)) [tm 3]) (P 4)::
.go (.move (tm 4)) (P 2)::
[])) .ret))
theorem de21 : @compF Try.prog (Gl.none Try.prog) Try.f21 1=.mk d21 (mkTT 5) [(P 0)] [.tmp (P 2)]:=by kernel_rfl
theorem dg21 : Try.prog.funcs[21]?=some Try.f21:=Try.func21
theorem do21 : okF Try.prog Try.f21=true:=by kernel_rfl
noncomputable def d16 : FCode:=(.seq (.run (.go (.box 26 (tm 0)) (P 1)::
.go (.move (.con (.bool false))) (P 2)::
[])) (.seq (.run (.go (.fieldAddr 0 (tm 1)) (P 3)::
.go (.load1 (tm 3)) (P 4)::
.go (.len 0 (tm 4)) (P 5)::
.go (.bin .leq 3 (tm 5) (.con (.int .i64 (.ofNat 7)))) (P 6)::
.go (.move (tm 6)) (P 7)::
.gd (P 7) true (.fieldAddr 2 (tm 1)) (P 8)::
.gd (P 7) true (.load1 (tm 8)) (P 9)::
.gd (P 7) true (.len 0 (tm 9)) (P 10)::
.gd (P 7) true (.bin .leq 3 (tm 10) (.con (.int .i64 (.ofNat 11)))) (P 11)::
.go (.pick (tm 7) (tm 11) (.con (.bool false))) (P 12)::
.go (.move (tm 12)) (P 13)::
.gd (P 13) true (.fieldAddr 3 (tm 1)) (P 14)::
.gd (P 13) true (.load1 (tm 14)) (P 15)::
.gd (P 13) true (.len 0 (tm 15)) (P 16)::
.gd (P 13) true (.bin .leq 3 (tm 16) (.con (.int .i64 (.ofNat 24)))) (P 17)::
.go (.pick (tm 13) (tm 17) (.con (.bool false))) (P 18)::
.go (.move (tm 18)) (P 2)::
[])) .ret))
theorem de16 : @compF Try.prog (Gl.none Try.prog) Try.f16 1=.mk d16 (mkTT 19) [(P 0)] [.tmp (P 2)]:=by kernel_rfl
theorem dg16 : Try.prog.funcs[16]?=some Try.f16:=Try.func16
theorem do16 : okF Try.prog Try.f16=true:=by kernel_rfl
theorem fltM_f {M : BM} (h : fits M) : fltM M=if vld M then 0 else 1:=by unfold fltM;rw[if_pos h]
theorem fltM_1 {M : BM} (h : fits M) (hv : ¬ vld M) : fltM M=1:=by rw[fltM_f h,if_neg hv]
theorem sok_iff {M : BM} (s : St) : sok M s↔¬ ((((¬ (0≤s.old∧s.old≤(M.O.length : Int)-1)∨¬ (0≤s.new∧s.new≤M.N-1))∨¬ (0≤s.w∧s.w≤1000))∨¬ (0≤s.lo∧s.lo≤s.hi))∨10000<s.hi):=by
 unfold sok wi
 omega
theorem f59_ok {H : Heap} {o s j : Value} {M : BM} (h : MV H o s j M) : Gives Try.prog 59 [.agg ⟨mc o s j M.N⟩] H (I (fltM M)):=by
 have hl:=h.s.len
 have hlo:=h.o.len
 have hlj:=h.j.len
 obtain⟨po,no,co,rfl⟩:=h.o.s.isS
 obtain⟨ps,ns,cs,rfl⟩:=h.s.isS
 obtain⟨pj,nj,cj,rfl⟩:=h.j.isS
 refine F.entryL rfl dg59 do59 de59 rfl (by kernel_rfl) ?_
 simp only[sets]
 refine V.re [(0,.agg ⟨mc (.slice po no co) (.slice ps ns cs) (.slice pj nj cj) M.N⟩)] (N:=171) zE zY ?_
 intro t hF hA
 simp only[Kn,and_true] at hA
 refine zS ?_
 refine V.l0 ?_
 refine V.heap (fun X=>Grow H X∧Bx X H.next (mc (.slice po no co) (.slice ps ns cs) (.slice pj nj cj) M.N) 26) ⟨?_,?_⟩ ?_
 ·exact zW
 ·exact zB
 rintro H1 ⟨g1,b1⟩
 refine zS ?_
 have zf:=And.intro b1.2<|And.intro @hl<|And.intro @hlo<|@hlj
 refine V.lz ?_
 refine zS ?_
 refine V.condP zP (fun hb=>?_) (fun hb=>?_)
 ·refine zS ?_
  refine V.l0 ?_
  refine zS ?_
  refine V.ret (V.rets rfl (Lv.retG (by simp +contextual (disch:=first|omega|simp only[nx];omega) only[D1,cells_alloc_at,cells_alloc_ne,cells_set_at,cells_set_ne,yres,yres1,yresL,qA,qB,qC,D5,hF,hA,↓reduceIte,qD,qE];rfl) ?_ ?_))
  ·exact g1
  ·have : ¬ fits M:=fun hf=>by unfold fits at hf;omega
   unfold fltM
   rw[if_neg this]
 have hfit : fits M:=by unfold fits;omega
 have hfit':=hfit
 unfold fits at hfit'
 refine zS ?_
 refine V.run ?_
 have zf:=And.intro b1.2<|@hlo
 refine VI.sz 7 ?_
 simp only[ds]
 first|refine VI.callGt zG (fun hc=>zI) (fun hc=>f42_ok M.N 1 4 _) (fun hc=>zI) (fun H2 g2=>?_)|refine VI.callGf zG (fun hc=>zI) (fun hc=>f42_ok M.N 1 4 _) (fun hc=>zI) (fun H2 g2=>?_)
 have b2:=b1.grow g2
 have g12:=g1.trans g2
 have zf:=And.intro b2.2<|@hl
 refine VI.lz ?_
 refine zS ?_
 refine V.condP zP (fun hc=>?_) (fun hc=>?_)
 ·refine zS ?_
  refine V.l0 ?_
  refine zS ?_
  refine V.ret (V.rets rfl (Lv.retG (by simp +contextual (disch:=first|omega|simp only[nx];omega) only[D1,cells_alloc_at,cells_alloc_ne,cells_set_at,cells_set_ne,yres,yres1,yresL,qA,qB,qC,D5,hF,hA,↓reduceIte,qD,qE];rfl) ?_ ?_))
  ·exact g12
  ·rw[fltM_1 hfit (fun hv=>by
    obtain⟨v1,_,v3,v4,_⟩:=hv
    omega)]
 have hc1 : 1≤(M.O.length : Int)∧(1≤M.N∧M.N≤4)∧0<(M.S.length : Int):=by omega
 refine zS ?_
 refine V.l0 ?_
 refine zS ?_
 refine V.loop (fun z t mm X=>∃ (k : Nat),k≤M.S.length∧z=M.S.length-k∧mm=[]∧Grow H X∧Bx X H.next (mc (.slice po no co) (.slice ps ns cs) (.slice pj nj cj) M.N) 26∧AllP (sok M) (M.S.take k)∧Full 171 t∧Kn [(1,PT H.next),(3,I k)] t) M.S.length ?_ ?_
 ·exact⟨0,by omega,by omega,rfl,g12,b2,(fun s hs=>by simp at hs),zF,zK⟩
 clear hF hA
 rintro z t mm X ⟨k,hk,rfl,rfl,hg,bx,hall,hF,hA⟩
 simp only[Kn,and_true] at hA
 refine zS ?_
 have zf:=And.intro bx.2<|@hl
 refine V.lz ?_
 refine zS ?_
 refine V.condP zP (fun hlt=>?_) (fun hlt=>?_)
 ·have hlt' : k<M.S.length:=by omega
  obtain⟨i,o,h1,h2⟩:=h.s.at hlt'
  have h3:=(h2 X hg).1
  obtain⟨y,hy⟩ : ∃ y,y=M.S[k]:=⟨_,rfl⟩
  rw[← hy] at h3
  refine zS ?_
  have zf:=And.intro bx.2<|And.intro @h1<|@h3
  refine V.lz ?_
  refine V.heap (fun Y=>Grow X Y∧Bx Y X.next (s5 y) 54) ⟨?_,?_⟩ ?_
  ·exact zW
  ·exact zB
  rintro X1 ⟨gx,c1⟩
  have b1:=bx.grow gx
  refine zS ?_
  refine V.run ?_
  have zf:=And.intro c1.2<|And.intro b1.2<|@hlo
  refine VI.sz 6 ?_
  simp only[ds]
  refine VI.callA rfl (f42_ok y.old 0 ((M.O.length : Int)-1) _) zA (fun X2 g2=>?_)
  have c2:=c1.grow g2
  have b2:=b1.grow g2
  have zf:=And.intro c2.2<|b2.2
  refine VI.sz 7 ?_
  simp only[ds]
  first|refine VI.callGt zG (fun hc=>zI) (fun hc=>f42_ok y.new 0 (M.N-1) _) (fun hc=>zI) (fun X3 g3=>?_)|refine VI.callGf zG (fun hc=>zI) (fun hc=>f42_ok y.new 0 (M.N-1) _) (fun hc=>zI) (fun X3 g3=>?_)
  have c3:=c2.grow g3
  have b3:=b2.grow g3
  have zf:=And.intro c3.2<|b3.2
  refine VI.sz 5 ?_
  simp only[ds]
  first|refine VI.callGt zG (fun hc=>zI) (fun hc=>f42_ok y.w 0 1000 _) (fun hc=>zI) (fun X4 g4=>?_)|refine VI.callGf zG (fun hc=>zI) (fun hc=>f42_ok y.w 0 1000 _) (fun hc=>zI) (fun X4 g4=>?_)
  have c4:=c3.grow g4
  have b4:=b3.grow g4
  have zf:=c4.2
  refine VI.sz 9 ?_
  simp only[ds]
  first|refine VI.callGt zG (fun hc=>zI) (fun hc=>f42_ok y.lo 0 y.hi _) (fun hc=>zI) (fun X5 g5=>?_)|refine VI.callGf zG (fun hc=>zI) (fun hc=>f42_ok y.lo 0 y.hi _) (fun hc=>zI) (fun X5 g5=>?_)
  have c5:=c4.grow g5
  have b5:=b4.grow g5
  have gX5:=(((hg.trans gx).trans g2).trans (g3.trans g4)).trans g5
  have zf:=c5.2
  refine VI.lz ?_
  refine zS ?_
  refine V.condP zP (fun hbad=>?_) (fun hbad=>?_)
  ·have hns : ¬ sok M y:=fun hs=>(sok_iff y).1 hs hbad
   refine zS ?_
   refine V.l0 ?_
   refine zS ?_
   refine V.ret (V.rets rfl (Or.inr ⟨by simp,V.rets rfl (Lv.retG (by simp +contextual (disch:=first|omega|simp only[nx];omega) only[D1,cells_alloc_at,cells_alloc_ne,cells_set_at,cells_set_ne,yres,yres1,yresL,qA,qB,qC,D5,hF,hA,↓reduceIte,qD,qE];rfl) ?_ ?_)⟩))
   ·exact gX5
   ·rw[fltM_1 hfit (fun hv=>hns (hv.2.2.2.2.1 y (hy ▸ List.getElem_mem hlt')))]
  ·have hys : sok M y:=(sok_iff y).2 hbad
   refine zS ?_
   refine V.l0 ?_
   refine V.nil (Or.inl ⟨rfl,M.S.length-(k+1),by omega,?_⟩)
   refine⟨k+1,hlt',rfl,rfl,gX5,b5,?_,zF,zK⟩
   intro v hv
   rw[tk1 hlt'] at hv
   rcases List.mem_append.1 hv with hv|hv
   ·exact hall v hv
   ·rw[List.mem_singleton.1 hv,← hy];exact hys
 obtain rfl : k=M.S.length:=by omega
 rw[List.take_length] at hall
 have hsw : ∀ (S : List St),(∀ s∈S,s∈M.S)→∀ d : Int,0≤so (·.w) d S∧so (·.w) d S≤S.length*1000:=fun S hS d=>so_bd (by omega) (fun s hs=>(hall s (hS s hs)).2.2.1)
 refine V.exit ?_
 refine zX ?_
 refine V.nil (Or.inr ⟨by simp,?_⟩)
 refine zX ?_
 refine zS ?_
 refine V.l0 ?_
 refine zS ?_
 refine V.loop (fun z t mm X=>∃ (d : Nat),d≤M.O.length∧z=M.O.length-d∧mm=[]∧Grow H X∧Bx X H.next (mc (.slice po no co) (.slice ps ns cs) (.slice pj nj cj) M.N) 26∧(∀ v∈M.O.take d,0≤v∧v≤10000)∧(∀ e : Nat,e<d→so (·.w) (e : Int) M.S≠0)∧Full 171 t∧Kn [(1,PT H.next),(5,I d)] t) M.O.length ?_ ?_
 ·exact⟨0,by omega,by omega,rfl,hg,bx,by simp,fun e he=>by omega,zF,zK⟩
 clear hF hA hg bx
 rintro z t mm X ⟨d,hd,rfl,rfl,hg,bx,hov,how,hF,hA⟩
 simp only[Kn,and_true] at hA
 refine zS ?_
 have zf:=And.intro bx.2<|@hlo
 refine V.lz ?_
 refine zS ?_
 refine V.condP zP (fun hld=>?_) (fun hld=>?_)
 ·have hd' : d<M.O.length:=by omega
  refine zS ?_
  refine V.l0 ?_
  refine zS ?_
  refine V.l0 ?_
  refine zS ?_
  refine V.loop (fun z t mm Y=>∃ (k : Nat),k≤M.S.length∧z=M.S.length-k∧mm=[]∧Y=X∧Full 171 t∧Kn [(1,PT H.next),(5,I d),(6,I (so (·.w) d (M.S.take k))),(7,I k)] t) M.S.length ?_ ?_
  ·exact⟨0,by omega,by omega,rfl,rfl,zF,zK⟩
  clear hF hA
  rintro z t mm Y ⟨k,hk,rfl,rfl,hY,hF,hA⟩
  obtain rfl : X=Y:=hY.symm
  simp only[Kn,and_true] at hA
  refine zS ?_
  have zf:=And.intro bx.2<|@hl
  refine V.lz ?_
  refine zS ?_
  refine V.condP zP (fun hlk=>?_) (fun hlk=>?_)
  ·have hk' : k<M.S.length:=by omega
   obtain⟨i,o,h1,h2⟩:=h.s.at hk'
   obtain⟨_,l0,_,l2,_⟩:=h2 X hg
   have hst:=so_take (f:=(·.w)) (d:=(d : Int)) hk'
   have hbw:=hsw (M.S.take k) (fun s hs=>List.mem_of_mem_take hs) d
   rw[List.length_take] at hbw
   have hw:=(hall _ (List.getElem_mem hk')).2.2.1
   obtain⟨y,hy⟩ : ∃ y,y=M.S[k]:=⟨_,rfl⟩
   rw[← hy] at l0 l2 hst hw
   refine zS ?_
   have zf:=And.intro bx.2<|And.intro @h1<|@l0
   refine V.lz ?_
   refine zS ?_
   refine V.condP zP (fun he=>?_) (fun he=>?_)
   ·rw[if_pos he] at hst
    refine zS ?_
    have zf:=And.intro bx.2<|And.intro @h1<|@l2
    refine V.lz ?_
    rw[← hst]
    refine zS ?_
    refine V.l0 ?_
    refine V.nil (Or.inl ⟨rfl,M.S.length-(k+1),by omega,?_⟩)
    exact⟨k+1,hk',rfl,rfl,rfl,zF,zK⟩
   ·rw[if_neg he,Int.add_zero] at hst
    refine zS ?_
    refine V.l0 ?_
    refine V.nil (Or.inl ⟨rfl,M.S.length-(k+1),by omega,?_⟩)
    refine⟨k+1,hk',rfl,rfl,rfl,?_⟩
    rw[hst]
    exact⟨zF,zK⟩
  ·obtain rfl : k=M.S.length:=by omega
   rw[List.take_length] at hA
   obtain⟨p,hp,hx⟩:=h.o.at hd'
   have hx1:=hx X hg
   refine V.exit ?_
   refine zX ?_
   refine V.nil (Or.inr ⟨by simp,?_⟩)
   refine zX ?_
   refine zS ?_
   refine V.run ?_
   have zf:=And.intro bx.2<|And.intro @hp<|@hx1
   refine VI.sz 5 ?_
   simp only[ds]
   refine VI.callA rfl (f42_ok M.O[d] 0 10000 _) zA (fun X2 g2=>?_)
   have bx2:=bx.grow g2
   refine VI.l0 ?_
   refine zS ?_
   refine V.condP zP (fun hbad=>?_) (fun hbad=>?_)
   ·refine zS ?_
    refine V.l0 ?_
    refine zS ?_
    refine V.ret (V.rets rfl (Or.inr ⟨by simp,V.rets rfl (Lv.retG (by simp +contextual (disch:=first|omega|simp only[nx];omega) only[D1,cells_alloc_at,cells_alloc_ne,cells_set_at,cells_set_ne,yres,yres1,yresL,qA,qB,qC,D5,hF,hA,↓reduceIte,qD,qE];rfl) ?_ ?_)⟩))
    ·exact hg.trans g2
    ·rw[fltM_1 hfit (fun hv=>by
      rcases hbad with hbad|hbad
      ·exact hbad (hv.2.1 _ (List.getElem_mem hd'))
      ·have:=hv.2.2.2.2.2.2 (so (·.w) (d : Int) M.S) (List.mem_map.2 ⟨d,List.mem_range.2 hd',rfl⟩)
       omega)]
   ·have hgood : (0≤M.O[d]∧M.O[d]≤10000)∧so (·.w) (d : Int) M.S≠0:=⟨Decidable.by_contra fun k=>hbad (.inl k),fun k=>hbad (.inr k)⟩
    refine zS ?_
    refine V.l0 ?_
    refine V.nil (Or.inl ⟨rfl,M.O.length-(d+1),by omega,?_⟩)
    refine⟨d+1,hd',rfl,rfl,hg.trans g2,bx2,?_,?_,zF,zK⟩
    ·intro v hv
     rw[tk1 hd'] at hv
     rcases List.mem_append.1 hv with hv|hv
     ·exact hov v hv
     ·rw[List.mem_singleton.1 hv];exact hgood.1
    ·intro e he
     rcases Nat.lt_succ_iff_lt_or_eq.1 he with h|rfl
     ·exact how e h
     ·exact hgood.2
 obtain rfl : d=M.O.length:=by omega
 rw[List.take_length] at hov
 have hwp : wpos M:=by
  intro v hv
  obtain⟨e,he,rfl⟩:=List.mem_map.1 hv
  have h1:=how e (List.mem_range.1 he)
  have h2:=(hsw M.S (fun s hs=>hs) e).1
  omega
 refine V.exit ?_
 refine zX ?_
 refine V.nil (Or.inr ⟨by simp,?_⟩)
 refine zX ?_
 refine zS ?_
 refine V.l0 ?_
 refine zS ?_
 refine V.loop (fun z t mm X=>∃ (k : Nat),k≤M.J.length∧z=M.J.length-k∧mm=[]∧Grow H X∧Bx X H.next (mc (.slice po no co) (.slice ps ns cs) (.slice pj nj cj) M.N) 26∧AllP (jok M) (M.J.take k)∧Full 171 t∧Kn [(1,PT H.next),(8,I k)] t) M.J.length ?_ ?_
 ·exact⟨0,by omega,by omega,rfl,hg,bx,(fun s hs=>by simp at hs),zF,zK⟩
 clear hF hA hg bx
 rintro z t mm X ⟨k,hk,rfl,rfl,hg,bx,hjall,hF,hA⟩
 simp only[Kn,and_true] at hA
 refine zS ?_
 have zf:=And.intro bx.2<|@hlj
 refine V.lz ?_
 refine zS ?_
 refine V.condP zP (fun hlt=>?_) (fun hlt=>?_)
 ·have hlt' : k<M.J.length:=by omega
  obtain⟨i,o,h1,h2⟩:=h.j.at hlt'
  have h3:=(h2 X hg).1
  obtain⟨y,hy⟩ : ∃ y,y=M.J[k]:=⟨_,rfl⟩
  rw[← hy] at h3
  refine zS ?_
  have zf:=And.intro bx.2<|And.intro @h1<|@h3
  refine V.lz ?_
  refine V.heap (fun Y=>Grow X Y∧Bx Y X.next (q2 y) 88) ⟨?_,?_⟩ ?_
  ·exact zW
  ·exact zB
  rintro X1 ⟨gx,c1⟩
  have b1:=bx.grow gx
  refine zS ?_
  refine V.run ?_
  have zf:=And.intro c1.2<|And.intro b1.2<|@hl
  refine VI.sz 6 ?_
  simp only[ds]
  refine VI.callA rfl (f42_ok y.1 0 ((M.S.length : Int)-1) _) zA (fun X2 g2=>?_)
  have c2:=c1.grow g2
  have b2:=b1.grow g2
  have zf:=And.intro c2.2<|And.intro b2.2<|@hl
  refine VI.sz 8 ?_
  simp only[ds]
  first|refine VI.callGt zG (fun hc=>zI) (fun hc=>f42_ok y.2 0 ((M.S.length : Int)-1) _) (fun hc=>zI) (fun X3 g3=>?_)|refine VI.callGf zG (fun hc=>zI) (fun hc=>f42_ok y.2 0 ((M.S.length : Int)-1) _) (fun hc=>zI) (fun X3 g3=>?_)
  have c3:=c2.grow g3
  have b3:=b2.grow g3
  have gX3:=((hg.trans gx).trans g2).trans g3
  have zf:=c3.2
  refine VI.lz ?_
  refine zS ?_
  have hj : jok M y↔¬ ((¬ (0≤y.1∧y.1≤(M.S.length : Int)-1)∨¬ (0≤y.2∧y.2≤(M.S.length : Int)-1))∨y.1=y.2):=by unfold jok;omega
  refine V.condP zP (fun hbad=>?_) (fun hbad=>?_)
  ·refine zS ?_
   refine V.l0 ?_
   refine zS ?_
   refine V.ret (V.rets rfl (Or.inr ⟨by simp,V.rets rfl (Lv.retG (by simp +contextual (disch:=first|omega|simp only[nx];omega) only[D1,cells_alloc_at,cells_alloc_ne,cells_set_at,cells_set_ne,yres,yres1,yresL,qA,qB,qC,D5,hF,hA,↓reduceIte,qD,qE];rfl) ?_ ?_)⟩))
   ·exact gX3
   ·rw[fltM_1 hfit (fun hv=>hj.1 (hv.2.2.2.2.2.1 y (hy ▸ List.getElem_mem hlt')) hbad)]
  ·refine zS ?_
   refine V.l0 ?_
   refine V.nil (Or.inl ⟨rfl,M.J.length-(k+1),by omega,?_⟩)
   refine⟨k+1,hlt',rfl,rfl,gX3,b3,?_,zF,zK⟩
   intro v hv
   rw[tk1 hlt'] at hv
   rcases List.mem_append.1 hv with hv|hv
   ·exact hjall v hv
   ·rw[List.mem_singleton.1 hv,← hy];exact hj.2 hbad
 ·obtain rfl : k=M.J.length:=by omega
  rw[List.take_length] at hjall
  have hv : vld M:=⟨by omega,hov,hc1.2.1,hc1.2.2,hall,hjall,hwp⟩
  refine V.exit ?_
  refine zX ?_
  refine V.nil (Or.inr ⟨by simp,?_⟩)
  refine zX ?_
  refine zS ?_
  refine V.l0 ?_
  refine zS ?_
  refine V.ret (V.rets rfl (Lv.retG (by simp +contextual (disch:=first|omega|simp only[nx];omega) only[D1,cells_alloc_at,cells_alloc_ne,cells_set_at,cells_set_ne,yres,yres1,yresL,qA,qB,qC,D5,hF,hA,↓reduceIte,qD,qE];rfl) ?_ ?_))
  ·exact hg
  ·rw[fltM_f hfit,if_pos hv]
theorem f21_ok {H : Heap} {o s j : Value} {M : BM} (h : MV H o s j M) : Gives Try.prog 21 [.agg ⟨mc o s j M.N⟩] H (I (fltM M)):=by
 obtain⟨po,no,co,rfl⟩:=h.o.s.isS
 obtain⟨ps,ns,cs,rfl⟩:=h.s.isS
 obtain⟨pj,nj,cj,rfl⟩:=h.j.isS
 refine F.entryL rfl dg21 do21 de21 rfl (by kernel_rfl) ?_
 simp only[sets]
 refine V.re [(0,.agg ⟨mc (.slice po no co) (.slice ps ns cs) (.slice pj nj cj) M.N⟩)] (N:=5) zE zY ?_
 intro t hF hA
 simp only[Kn,and_true] at hA
 refine zS ?_
 refine V.l0 ?_
 refine V.heap (fun X=>Grow H X∧Bx X H.next (mc (.slice po no co) (.slice ps ns cs) (.slice pj nj cj) M.N) 26) ⟨?_,?_⟩ ?_
 ·exact zW
 ·exact zB
 rintro H1 ⟨g1,b1⟩
 refine zS ?_
 refine V.run ?_
 have zf:=b1.2
 refine VI.sz 1 ?_
 simp only[ds]
 refine VI.callA rfl (f59_ok (h.grow g1)) zA (fun H2 g2=>?_)
 refine VI.l0 ?_
 refine zS ?_
 refine V.ret (V.rets rfl (Lv.retG (by simp +contextual (disch:=first|omega|simp only[nx];omega) only[D1,cells_alloc_at,cells_alloc_ne,cells_set_at,cells_set_ne,yres,yres1,yresL,qA,qB,qC,D5,hF,hA,↓reduceIte,qD,qE];rfl) ?_ ?_))
 ·exact g1.trans g2
 ·rfl
def thin (M : BM) : Prop:=((M.O.length : Int)≤7∧(M.S.length : Int)≤11)∧(M.J.length : Int)≤24
instance (M : BM) : Decidable (thin M):=by unfold thin;infer_instance
theorem f16_ok {H : Heap} {o s j : Value} {M : BM} (h : MV H o s j M) : Gives Try.prog 16 [.agg ⟨mc o s j M.N⟩] H (.bool (decide (thin M))):=by
 have hl:=h.s.len
 have hlo:=h.o.len
 have hlj:=h.j.len
 obtain⟨po,no,co,rfl⟩:=h.o.s.isS
 obtain⟨ps,ns,cs,rfl⟩:=h.s.isS
 obtain⟨pj,nj,cj,rfl⟩:=h.j.isS
 refine F.entryL rfl dg16 do16 de16 rfl (by kernel_rfl) ?_
 simp only[sets]
 refine V.re [(0,.agg ⟨mc (.slice po no co) (.slice ps ns cs) (.slice pj nj cj) M.N⟩)] (N:=19) zE zY ?_
 intro t hF hA
 simp only[Kn,and_true] at hA
 refine zS ?_
 refine V.l0 ?_
 refine V.heap (fun X=>Grow H X∧Bx X H.next (mc (.slice po no co) (.slice ps ns cs) (.slice pj nj cj) M.N) 26) ⟨?_,?_⟩ ?_
 ·exact zW
 ·exact zB
 rintro H1 ⟨g1,b1⟩
 refine zS ?_
 have zf:=And.intro b1.2<|And.intro @hl<|And.intro @hlo<|@hlj
 refine V.lz ?_
 refine zS ?_
 refine V.ret (V.rets rfl (Lv.retG (by simp +contextual (disch:=first|omega|simp only[nx];omega) only[D1,cells_alloc_at,cells_alloc_ne,cells_set_at,cells_set_ne,yres,yres1,yresL,qA,qB,qC,D5,hF,hA,↓reduceIte,qD,qE];rfl) ?_ ?_))
 ·exact g1
 ·rfl
end Go.Xe.TBX
