/- What the functions of the layer seat come to: SeatBounds. Conditions: none. -/
import Derived.Test.YtelfbgmhleneiaaUAD
-- MOD TV
namespace Go.Xe.TVX
open Go Go.Xe Go.Proofs
open Nat renaming reduceLeDiff → qA, reduceSub → qB, reduceAdd → qC, reduceEqDiff → qD, reduceLT → qE
open Int renaming reduceNegSucc → qF, reduceEq → qG
open Go.Xe.V renaming seq → sA, block → sB, scope → sC, skip → sD, close → sE
open Go.Xe renaming pth → P
open Go.Xe.Sea
set_option maxRecDepth 100000
set_option maxHeartbeats 3200000
set_option linter.unusedSimpArgs false
noncomputable def d7 : FCode:=(.seq (.run (.go (.box 23 (tm 0)) (P 2)::
.go (.move (.con (.bool false))) (P 4)::
[])) (.seq (.seq (.run (.go (.move (tm 1)) (P 21)::
.go (.len 0 (tm 21)) (P 22)::
.go (.bin .gtr 3 (tm 22) (.con (.int .i64 (.ofNat 11)))) (P 23)::
[])) (.cond (tm 23) (.seq (.run (.go (.call (.con (.func (.func 20) ⟨[]⟩ ⟨[]⟩)) []) (P 24)::
.go (.move (tm 24)) (P 4)::
[])) .ret) .skip)) (.seq (.run (.go (.loadN 3 (tm 2)) (P 25)::
.go (.call (.con (.func (.func 26) ⟨[]⟩ ⟨[]⟩)) [tm 25]) (P 26)::
.go (.move (tm 26)) (P 5)::
[])) (.seq (.seq (.run (.go (.move (tm 5)) (P 27)::
.go (.bin .eql 26 (tm 27) (.con (.int .i64 (.ofNat 0)))) (P 28)::
.go (.move (tm 28)) (P 29)::
.gd (P 29) true (.move (tm 1)) (P 30)::
.gd (P 29) true (.len 0 (tm 30)) (P 31)::
.gd (P 29) true (.bin .gtr 3 (tm 31) (.con (.int .i64 (.ofNat 8)))) (P 32)::
.go (.pick (tm 29) (tm 32) (.con (.bool false))) (P 33)::
[])) (.cond (tm 33) (.run (.go (.move (.con (.int .i64 (.ofNat 3)))) (P 5)::
[])) .skip)) (.seq (.seq (.run (.go (.move (.con (.int .i64 (.ofNat 0)))) (P 6)::
[])) (.block 0 (.loop (.seq (.seq (.run (.go (.move (tm 6)) (P 34)::
.go (.move (tm 1)) (P 35)::
.go (.len 0 (tm 35)) (P 36)::
.go (.bin .lss 3 (tm 34) (tm 36)) (P 37)::
.go (.move (tm 37)) (P 38)::
.gd (P 38) true (.move (tm 5)) (P 39)::
.gd (P 38) true (.bin .eql 26 (tm 39) (.con (.int .i64 (.ofNat 0)))) (P 40)::
.go (.pick (tm 38) (tm 40) (.con (.bool false))) (P 41)::
[])) (.cond (tm 41) .skip (.exit 0))) (.seq (.block 1 (.seq (.run (.go (.move (tm 1)) (P 44)::
.go (.move (tm 6)) (P 45)::
.go (.indexAddr none 2 (tm 44) (tm 45)) (P 46)::
.go (.loadN 2 (tm 46)) (P 47)::
.go (.alloc 52 [(.int .i64 (.ofNat 0)),(.int .i64 (.ofNat 0))]) (P 7)::
.un (.store 2 (tm 7) (tm 47))::
[])) (.seq (.run (.go (.fieldAddr 0 (tm 7)) (P 48)::
.go (.load1 (tm 48)) (P 49)::
.go (.fieldAddr 1 (tm 7)) (P 50)::
.go (.load1 (tm 50)) (P 51)::
.go (.call (.con (.func (.func 38) ⟨[]⟩ ⟨[]⟩)) [(tm 49),(.con (.int .i64 (.ofNat 0))),(tm 51)]) (P 52)::
.go (.un .not (tm 52)) (P 53)::
.go (.move (tm 53)) (P 54)::
.gd (P 54) false (.fieldAddr 1 (tm 7)) (P 55)::
.gd (P 54) false (.load1 (tm 55)) (P 56)::
.gd (P 54) false (.bin .gtr 3 (tm 56) (.con (.int .i64 (.ofNat 10000)))) (P 57)::
.go (.pick (tm 54) (.con (.bool true)) (tm 57)) (P 58)::
[])) (.cond (tm 58) (.run (.go (.move (.con (.int .i64 (.ofNat 2)))) (P 5)::
[])) .skip)))) (.run (.go (.move (tm 6)) (P 42)::
.go (.bin .add 3 (tm 42) (.con (.int .i64 (.ofNat 1)))) (P 43)::
.go (.move (tm 43)) (P 6)::
[]))))))) (.seq (.seq (.run (.go (.move (tm 5)) (P 59)::
.go (.bin .eql 26 (tm 59) (.con (.int .i64 (.ofNat 0)))) (P 60)::
.go (.move (tm 60)) (P 61)::
.gd (P 61) true (.fieldAddr 0 (tm 2)) (P 62)::
.gd (P 61) true (.load1 (tm 62)) (P 63)::
.gd (P 61) true (.bin .eql 5 (tm 63) (.con (.int .u8 (.ofNat 5)))) (P 64)::
.go (.pick (tm 61) (tm 64) (.con (.bool false))) (P 65)::
[])) (.cond (tm 65) (.run (.go (.move (.con (.int .i64 (.ofNat 8)))) (P 5)::
[])) .skip)) (.seq (.seq (.run (.go (.move (tm 5)) (P 66)::
.go (.bin .eql 26 (tm 66) (.con (.int .i64 (.ofNat 0)))) (P 67)::
.go (.move (tm 67)) (P 68)::
.gd (P 68) true (.fieldAddr 1 (tm 2)) (P 69)::
.gd (P 68) true (.load1 (tm 69)) (P 70)::
.gd (P 68) true (.bin .gtr 3 (tm 70) (.con (.int .i64 (.ofNat 12)))) (P 71)::
.gd (P 68) true (.move (tm 71)) (P 72)::
.gd (P 72) false (.move (tm 1)) (P 73)::
.gd (P 72) false (.len 0 (tm 73)) (P 74)::
.gd (P 72) false (.bin .gtr 3 (tm 74) (.con (.int .i64 (.ofNat 5)))) (P 75)::
.gd (P 68) true (.pick (tm 72) (.con (.bool true)) (tm 75)) (P 76)::
.gd (P 68) true (.move (tm 76)) (P 77)::
.gd (P 77) false (.move (tm 1)) (P 78)::
.gd (P 77) false (.call (.con (.func (.func 39) ⟨[]⟩ ⟨[]⟩)) [tm 78]) (P 79)::
.gd (P 77) false (.bin .gtr 3 (tm 79) (.con (.int .i64 (.ofNat 150)))) (P 80)::
.gd (P 68) true (.pick (tm 77) (.con (.bool true)) (tm 80)) (P 81)::
.go (.pick (tm 68) (tm 81) (.con (.bool false))) (P 82)::
[])) (.cond (tm 82) (.seq (.run (.go (.call (.con (.func (.func 20) ⟨[]⟩ ⟨[]⟩)) []) (P 83)::
.go (.move (tm 83)) (P 4)::
[])) .ret) .skip)) (.seq (.run (.go (.loadN 3 (tm 2)) (P 85)::
.go (.call (.con (.func (.func 22) ⟨[]⟩ ⟨[]⟩)) [tm 85]) (P 86)::
.go (.move (tm 1)) (P 87)::
.go (.call (.con (.func (.func 41) ⟨[]⟩ ⟨[]⟩)) [tm 87]) (P 88)::
.go (.call (.con (.func (.func 40) ⟨[]⟩ ⟨[]⟩)) [(tm 86),(tm 88)]) (P 89)::
.go (.move (tm 89)) (P 84)::
.go (.extract (tm 84) 0) (P 90)::
.go (.extract (tm 84) 1) (P 91)::
.go (.move (tm 90)) (P 8)::
.go (.move (tm 91)) (P 9)::
[])) (.seq (.seq (.run (.go (.move (tm 5)) (P 92)::
.go (.bin .neq 26 (tm 92) (.con (.int .i64 (.ofNat 0)))) (P 93)::
[])) (.cond (tm 93) (.seq (.run (.go (.move (tm 9)) (P 94)::
.go (.move (tm 5)) (P 95)::
.go (.bin .eql 26 (tm 94) (tm 95)) (P 96)::
.go (.move (tm 96)) (P 97)::
.gd (P 97) true (.move (tm 8)) (P 98)::
.gd (P 97) true (.len 0 (tm 98)) (P 99)::
.gd (P 97) true (.bin .eql 3 (tm 99) (.con (.int .i64 (.ofNat 0)))) (P 100)::
.go (.pick (tm 97) (tm 100) (.con (.bool false))) (P 101)::
.go (.move (tm 101)) (P 102)::
.gd (P 102) true (.call (.con (.func (.func 20) ⟨[]⟩ ⟨[]⟩)) []) (P 103)::
.go (.pick (tm 102) (tm 103) (.con (.bool false))) (P 104)::
.go (.move (tm 104)) (P 4)::
[])) .ret) .skip)) (.seq (.run (.go (.move (tm 1)) (P 105)::
.go (.len 0 (tm 105)) (P 106)::
.go (.makeSlice 52 2 16 [(.int .i64 (.ofNat 0)),(.int .i64 (.ofNat 0))] (tm 106) (tm 106)) (P 107)::
.go (.move (tm 107)) (P 10)::
[])) (.seq (.seq (.run (.go (.move (.con (.int .i64 (.ofNat 0)))) (P 11)::
[])) (.block 2 (.loop (.seq (.seq (.run (.go (.move (tm 11)) (P 108)::
.go (.move (tm 1)) (P 109)::
.go (.len 0 (tm 109)) (P 110)::
.go (.bin .lss 3 (tm 108) (tm 110)) (P 111)::
[])) (.cond (tm 111) .skip (.exit 2))) (.seq (.block 3 (.run (.go (.move (tm 10)) (P 114)::
.go (.move (tm 11)) (P 115)::
.go (.build [(.int .i64 (.ofNat 0)),(.int .i64 (.ofNat 0))] [(0,1,(.con (.int .i64 (.ofNat 99)))),(1,1,(.con (.int .i64 (.negSucc 0))))]) (P 116)::
.go (.indexAddr none 2 (tm 114) (tm 115)) (P 117)::
.un (.store 2 (tm 117) (tm 116))::
[]))) (.run (.go (.move (tm 11)) (P 112)::
.go (.bin .add 3 (tm 112) (.con (.int .i64 (.ofNat 1)))) (P 113)::
.go (.move (tm 113)) (P 11)::
[]))))))) (.seq (.seq (.run (.go (.move (.con (.int .i64 (.ofNat 0)))) (P 12)::
[])) (.block 4 (.loop (.seq (.seq (.run (.go (.move (tm 12)) (P 118)::
.go (.move (tm 1)) (P 119)::
.go (.call (.con (.func (.func 39) ⟨[]⟩ ⟨[]⟩)) [tm 119]) (P 120)::
.go (.bin .lss 3 (tm 118) (tm 120)) (P 121)::
[])) (.cond (tm 121) .skip (.exit 4))) (.seq (.block 5 (.seq (.run (.go (.move (.con (.slice none 0 0))) (P 13)::
[])) (.seq (.run (.go (.move (tm 12)) (P 124)::
.go (.move (tm 124)) (P 14)::
[])) (.seq (.seq (.run (.go (.move (.con (.int .i64 (.ofNat 0)))) (P 15)::
[])) (.block 6 (.loop (.seq (.seq (.run (.go (.move (tm 15)) (P 125)::
.go (.move (tm 1)) (P 126)::
.go (.len 0 (tm 126)) (P 127)::
.go (.bin .lss 3 (tm 125) (tm 127)) (P 128)::
[])) (.cond (tm 128) .skip (.exit 6))) (.seq (.block 7 (.seq (.draw 13 (.go (.move (tm 1)) (P 131)::
.go (.move (tm 15)) (P 132)::
.go (.indexAddr none 2 (tm 131) (tm 132)) (P 133)::
.go (.fieldAddr 1 (tm 133)) (P 134)::
.go (.load1 (tm 134)) (P 135)::
.go (.move (tm 1)) (P 136)::
.go (.move (tm 15)) (P 137)::
.go (.indexAddr none 2 (tm 136) (tm 137)) (P 138)::
.go (.fieldAddr 0 (tm 138)) (P 139)::
.go (.load1 (tm 139)) (P 140)::
.go (.bin .sub 3 (tm 135) (tm 140)) (P 141)::
.go (.bin .add 3 (tm 141) (.con (.int .i64 (.ofNat 1)))) (P 142)::
.go (.move (tm 142)) (P 16)::
[]) [.ok,.ok,.ok,.ok,.ok,.ok,.ok,.ok,.ok,.ok,.ok,.ok,.ok]) (.seq (.draw 13 (.go (.move (tm 13)) (P 143)::
.go (.move (tm 1)) (P 144)::
.go (.move (tm 15)) (P 145)::
.go (.indexAddr none 2 (tm 144) (tm 145)) (P 146)::
.go (.fieldAddr 0 (tm 146)) (P 147)::
.go (.load1 (tm 147)) (P 148)::
.go (.move (tm 14)) (P 149)::
.go (.move (tm 16)) (P 150)::
.go (.bin .rem 3 (tm 149) (tm 150)) (P 151)::
.go (.bin .add 3 (tm 148) (tm 151)) (P 152)::
.go (.buildSlice 3 1 [(.int .i64 (.ofNat 0))] [(0,1,(tm 152))]) (P 153)::
.go (.append 3 1 8 (tm 143) (tm 153)) (P 154)::
.go (.move (tm 154)) (P 13)::
[]) [.ok,.ok,.ok,.ok,.ok,.ok,.ok,.ok,.ok,.ok,.ok,.ok,.ok]) (.run (.go (.move (tm 14)) (P 155)::
.go (.move (tm 16)) (P 156)::
.go (.bin .quo 3 (tm 155) (tm 156)) (P 157)::
.go (.move (tm 157)) (P 14)::
[]))))) (.run (.go (.move (tm 15)) (P 129)::
.go (.bin .add 3 (tm 129) (.con (.int .i64 (.ofNat 1)))) (P 130)::
.go (.move (tm 130)) (P 15)::
[]))))))) (.seq (.run (.go (.loadN 3 (tm 2)) (P 159)::
.go (.move (tm 13)) (P 160)::
.go (.call (.con (.func (.func 42) ⟨[]⟩ ⟨[]⟩)) [(tm 159),(tm 160)]) (P 161)::
.go (.move (tm 161)) (P 158)::
.go (.extract (tm 158) 0) (P 162)::
.go (.extract (tm 158) 1) (P 163)::
.go (.move (tm 162)) (P 17)::
.go (.move (tm 163)) (P 18)::
[])) (.seq (.run (.go (.move (.con (.int .i64 (.ofNat 0)))) (P 19)::
[])) (.block 8 (.loop (.seq (.seq (.run (.go (.move (tm 19)) (P 164)::
.go (.move (tm 1)) (P 165)::
.go (.len 0 (tm 165)) (P 166)::
.go (.bin .lss 3 (tm 164) (tm 166)) (P 167)::
[])) (.cond (tm 167) .skip (.exit 8))) (.seq (.block 9 (.draw 25 (.go (.move (tm 10)) (P 170)::
.go (.move (tm 19)) (P 171)::
.go (.move (tm 10)) (P 172)::
.go (.move (tm 19)) (P 173)::
.go (.indexAddr none 2 (tm 172) (tm 173)) (P 174)::
.go (.fieldAddr 0 (tm 174)) (P 175)::
.go (.load1 (tm 175)) (P 176)::
.go (.move (tm 17)) (P 177)::
.go (.move (tm 19)) (P 178)::
.go (.indexAddr none 1 (tm 177) (tm 178)) (P 179)::
.go (.load1 (tm 179)) (P 180)::
.go (.mm false [(tm 176),(tm 180)]) (P 181)::
.go (.move (tm 10)) (P 182)::
.go (.move (tm 19)) (P 183)::
.go (.indexAddr none 2 (tm 182) (tm 183)) (P 184)::
.go (.fieldAddr 1 (tm 184)) (P 185)::
.go (.load1 (tm 185)) (P 186)::
.go (.move (tm 18)) (P 187)::
.go (.move (tm 19)) (P 188)::
.go (.indexAddr none 1 (tm 187) (tm 188)) (P 189)::
.go (.load1 (tm 189)) (P 190)::
.go (.mm true [(tm 186),(tm 190)]) (P 191)::
.go (.build [(.int .i64 (.ofNat 0)),(.int .i64 (.ofNat 0))] [(0,1,(tm 181)),(1,1,(tm 191))]) (P 192)::
.go (.indexAddr none 2 (tm 170) (tm 171)) (P 193)::
.un (.store 2 (tm 193) (tm 192))::
[]) [.ok,.ok,.ok,.ok,.ok,.ok,.ok,.ok,.ok,.ok,.ok,.ok,.ok,.ok,.ok,.ok,.ok,.ok,.ok,.ok,.ok,.ok,.ok,.ok,.ok])) (.run (.go (.move (tm 19)) (P 168)::
.go (.bin .add 3 (tm 168) (.con (.int .i64 (.ofNat 1)))) (P 169)::
.go (.move (tm 169)) (P 19)::
[])))))))))))) (.run (.go (.move (tm 12)) (P 122)::
.go (.bin .add 3 (tm 122) (.con (.int .i64 (.ofNat 1)))) (P 123)::
.go (.move (tm 123)) (P 12)::
[]))))))) (.seq (.seq (.run (.go (.move (tm 9)) (P 194)::
.go (.bin .neq 26 (tm 194) (.con (.int .i64 (.ofNat 0)))) (P 195)::
.go (.move (tm 195)) (P 196)::
.gd (P 196) false (.move (tm 8)) (P 197)::
.gd (P 196) false (.len 0 (tm 197)) (P 198)::
.gd (P 196) false (.move (tm 1)) (P 199)::
.gd (P 196) false (.len 0 (tm 199)) (P 200)::
.gd (P 196) false (.bin .neq 3 (tm 198) (tm 200)) (P 201)::
.go (.pick (tm 196) (.con (.bool true)) (tm 201)) (P 202)::
[])) (.cond (tm 202) (.seq (.run (.go (.move (.con (.bool false))) (P 4)::
[])) .ret) .skip)) (.seq (.seq (.run (.go (.move (.con (.int .i64 (.ofNat 0)))) (P 20)::
[])) (.block 10 (.loop (.seq (.seq (.run (.go (.move (tm 20)) (P 203)::
.go (.move (tm 8)) (P 204)::
.go (.len 0 (tm 204)) (P 205)::
.go (.bin .lss 3 (tm 203) (tm 205)) (P 206)::
[])) (.cond (tm 206) .skip (.exit 10))) (.seq (.block 11 (.seq (.draw 24 (.go (.move (tm 8)) (P 209)::
.go (.move (tm 20)) (P 210)::
.go (.indexAddr none 2 (tm 209) (tm 210)) (P 211)::
.go (.fieldAddr 0 (tm 211)) (P 212)::
.go (.load1 (tm 212)) (P 213)::
.go (.move (tm 10)) (P 214)::
.go (.move (tm 20)) (P 215)::
.go (.indexAddr none 2 (tm 214) (tm 215)) (P 216)::
.go (.fieldAddr 0 (tm 216)) (P 217)::
.go (.load1 (tm 217)) (P 218)::
.go (.bin .neq 3 (tm 213) (tm 218)) (P 219)::
.go (.move (tm 219)) (P 220)::
.gd (P 220) false (.move (tm 8)) (P 221)::
.gd (P 220) false (.move (tm 20)) (P 222)::
.gd (P 220) false (.indexAddr none 2 (tm 221) (tm 222)) (P 223)::
.gd (P 220) false (.fieldAddr 1 (tm 223)) (P 224)::
.gd (P 220) false (.load1 (tm 224)) (P 225)::
.gd (P 220) false (.move (tm 10)) (P 226)::
.gd (P 220) false (.move (tm 20)) (P 227)::
.gd (P 220) false (.indexAddr none 2 (tm 226) (tm 227)) (P 228)::
.gd (P 220) false (.fieldAddr 1 (tm 228)) (P 229)::
.gd (P 220) false (.load1 (tm 229)) (P 230)::
.gd (P 220) false (.bin .neq 3 (tm 225) (tm 230)) (P 231)::
.go (.pick (tm 220) (.con (.bool true)) (tm 231)) (P 232)::
[]) [.ok,.ok,.ok,.ok,.ok,.ok,.ok,.ok,.ok,.ok,.ok,.ok,.ok,.ok,.ok,.ok,.ok,.ok,.ok,.ok,.ok,.ok,.ok,.ok]) (.cond (tm 232) (.seq (.run (.go (.move (.con (.bool false))) (P 4)::
[])) .ret) .skip))) (.run (.go (.move (tm 20)) (P 207)::
.go (.bin .add 3 (tm 207) (.con (.int .i64 (.ofNat 1)))) (P 208)::
.go (.move (tm 208)) (P 20)::
[]))))))) (.seq (.run (.go (.call (.con (.func (.func 20) ⟨[]⟩ ⟨[]⟩)) []) (P 233)::
.go (.move (tm 233)) (P 4)::
[])) .ret)))))))))))))))
theorem de7 : @compF Try.prog (Gl.none Try.prog) Try.f7 2=.mk d7 (mkTT 234) [(P 0),(P 1)] [.tmp (P 4)]:=by kernel_rfl
theorem dg7 : Try.prog.funcs[7]?=some Try.f7:=Try.func7
theorem do7 : okF Try.prog Try.f7=true:=by kernel_rfl
theorem f7_all {H : Heap} {m S L : Int} {x : Value} {R : List R2} (hx : RS H x R) : F Try.prog 7 ⟨[.agg ⟨A3 m S L⟩,x]⟩ H (fun w _=>w=.bool true):=by
 have h:=hx
 have hl:=h.len
 obtain⟨px,nx',cx,rfl⟩:=h.isS
 refine F.entryL rfl dg7 do7 de7 rfl (by kernel_rfl) ?_
 simp only[sets]
 refine V.re [(0,.agg ⟨A3 m S L⟩),(1,.slice px nx' cx)] (N:=234) zE zY ?_
 intro t hF hA
 simp only[Kn,and_true] at hA
 refine zS ?_
 refine V.l0 ?_
 refine V.heap (fun X=>Grow H X∧Bx X H.next (A3 m S L) 23) ⟨?_,?_⟩ ?_
 ·exact zW
 ·exact zB
 rintro H1 ⟨g1,b1⟩
 refine zS ?_
 have zf:=@hl
 refine V.lz ?_
 refine zS ?_
 refine V.condP zP (fun hbig=>?_) (fun hbig=>?_)
 ·refine zS ?_
  refine V.run ?_
  refine VI.callA rfl (f20_ok _) zA (fun H3 g3=>?_)
  refine VI.l0 ?_
  refine zS ?_
  refine V.ret (V.rets rfl (Lv.retF (by simp +contextual (disch:=first|omega|simp only[nx];omega) only[D1,cells_alloc_at,cells_alloc_ne,cells_set_at,cells_set_ne,yres,yres1,yresL,qA,qB,qC,D5,hF,hA,↓reduceIte,qD,qE];rfl) ?_))
  rfl
 refine zS ?_
 refine V.run ?_
 have zf:=b1.2
 refine VI.sz 1 ?_
 simp only[ds]
 refine VI.callA rfl (f26_ok m S L _) zA (fun H2 g2=>?_)
 have b2:=b1.grow g2
 have g12:=g1.trans g2
 obtain⟨c,hc0⟩ : ∃ c : Int,c=(if rvalid m S L then 0 else 1):=⟨_,rfl⟩
 rw[← hc0]
 refine VI.l0 ?_
 refine zS ?_
 have zf:=@hl
 refine V.lz ?_
 refine zS ?_
 obtain⟨e0,he0⟩ : ∃ e0 : Int,e0=(if c=0∧8<(R.length : Int) then 3 else c):=⟨_,rfl⟩
 refine V.join (fun t mm X=>mm=[]∧X=H2∧Full 234 t∧Kn [(1,.slice px nx' cx),(2,PT H.next),(5,I e0)] t) ?_ ?_
 ·refine V.condP zP (fun hc3=>?_) (fun hc3=>?_)
  ·rw[if_pos hc3] at he0
   subst he0
   refine zS ?_
   refine V.l0 ?_
   refine zS ?_
   refine V.nil (Or.inl ⟨rfl,rfl,rfl,zF,zK⟩)
  ·rw[if_neg hc3] at he0
   subst he0
   refine zS ?_
   refine V.nil (Or.inl ⟨rfl,rfl,rfl,zF,zK⟩)
 clear hF hA
 rintro t _ X ⟨rfl,hX,hF,hA⟩
 obtain rfl : H2=X:=hX.symm
 simp only[Kn,and_true] at hA
 have he1 : e0=0→rvalid m S L∧R.length≤8:=fun h=>by
  rw[he0,hc0] at h
  by_cases hv : rvalid m S L
  ·rw[if_pos hv] at h
   refine⟨hv,Decidable.by_contra fun hh=>?_⟩
   rw[if_pos ⟨rfl,by omega⟩] at h
   omega
  ·rw[if_neg hv,if_neg (fun k=>absurd k.1 (by omega))] at h
   omega
 have he2 : e0≠0→e0=flr m S L R:=fun h=>by
  rw[he0,hc0] at h ⊢
  unfold flr
  by_cases hv : rvalid m S L
  ·rw[if_pos hv,if_pos hv] at *
   by_cases hn : R.length≤8
   ·exact absurd (if_neg (fun k=>absurd k.2 (by omega))) h
   ·rw[if_pos ⟨rfl,by omega⟩,if_neg hn]
  ·rw[if_neg hv,if_neg hv,if_neg (fun k=>absurd k.1 (by omega))]
 clear he0 hc0
 refine zS ?_
 refine V.l0 ?_
 refine zS ?_
 refine V.loop (fun z t mm X=>∃ (k : Nat) (f : Int),k≤R.length∧z=R.length-k∧mm=[]∧Grow H2 X∧(f=0→e0=0∧∀ r∈R.take k,rok r)∧(f≠0→f=flr m S L R)∧Full 234 t∧Kn [(1,.slice px nx' cx),(2,PT H.next),(5,I f),(6,I k)] t) R.length ?_ ?_
 ·exact⟨0,e0,by omega,by omega,rfl,.refl _,fun h=>⟨h,by simp⟩,he2,zF,zK⟩
 clear hF hA
 rintro z t mm X ⟨k,f,hk,rfl,rfl,hg,hf0,hf1,hF,hA⟩
 simp only[Kn,and_true] at hA
 refine zS ?_
 have zf:=@hl
 refine V.lz ?_
 refine zS ?_
 refine V.condP zP (fun hlt=>?_) (fun hlt=>?_)
 ·have hlt' : k<R.length:=by have:=hlt.1;omega
  obtain⟨h00,hall⟩:=hf0 hlt.2
  have hf : f=0:=hlt.2
  subst hf
  obtain⟨hr,hR8⟩:=he1 h00
  obtain⟨i,o,h1,h2⟩:=h.at hlt'
  have h3:=(h2 X (g12.trans hg)).1
  obtain⟨a,ha⟩ : ∃ a,a=R[k].1:=⟨_,rfl⟩
  obtain⟨b,hb⟩ : ∃ b,b=R[k].2:=⟨_,rfl⟩
  rw[← ha,← hb] at h3
  refine zS ?_
  have zf:=And.intro @h1<|@h3
  refine V.lz ?_
  refine V.heap (fun Y=>Grow X Y∧Bx Y X.next (A2 a b) 52) ⟨?_,?_⟩ ?_
  ·exact zW
  ·exact zB
  rintro X1 ⟨gx,bx⟩
  refine zS ?_
  refine V.run ?_
  have zf:=bx.2
  refine VI.sz 4 ?_
  simp only[ds]
  refine VI.callA rfl (f38_ok a 0 b X1) zA (fun X2 g2'=>?_)
  have bx2:=bx.grow g2'
  have gX2:=(hg.trans gx).trans g2'
  have zf:=bx2.2
  refine VI.lz ?_
  refine zS ?_
  refine V.condP zP (fun hbad=>?_) (fun hbad=>?_)
  ·have hnr : ¬ rok R[k]:=fun hh=>by
    unfold rok at hh
    rw[← ha,← hb] at hh
    rcases hbad with hbad|hbad
    ·exact hbad (by omega)
    ·omega
   refine zS ?_
   refine V.l0 ?_
   refine zS ?_
   refine V.l0 ?_
   refine V.nil (Or.inl ⟨rfl,R.length-(k+1),by omega,?_⟩)
   refine⟨k+1,2,hlt',rfl,rfl,gX2,fun hh=>by omega,fun _=>?_,zF,zK⟩
   unfold flr
   rw[if_pos hr,if_pos hR8,if_neg (fun hh=>hnr (hh _ (List.getElem_mem hlt')))]
  ·have hrok : rok R[k]:=by
    have hin : 0≤a∧a≤b:=Decidable.by_contra fun hh=>hbad (.inl hh)
    have hle : b≤10000:=Decidable.by_contra fun hh=>hbad (.inr (by omega))
    rw[ha,hb] at hin
    rw[hb] at hle
    unfold rok
    omega
   refine zS ?_
   refine V.l0 ?_
   refine V.nil (Or.inl ⟨rfl,R.length-(k+1),by omega,?_⟩)
   refine⟨k+1,0,hlt',rfl,rfl,gX2,fun _=>⟨h00,?_⟩,fun hh=>absurd rfl hh,zF,zK⟩
   intro r hr'
   rw[tk1 hlt'] at hr'
   rcases List.mem_append.1 hr' with hv|hv
   ·exact hall r hv
   ·rw[List.mem_singleton.1 hv];exact hrok
 have hff : f=flr m S L R:=by
  by_cases hz : f=0
  ·obtain⟨h00,hall⟩:=hf0 hz
   have hkl : k=R.length:=by
    apply Decidable.by_contra
    intro hh
    exact hlt ⟨by omega,hz⟩
   rw[hkl,List.take_length] at hall
   rw[hz]
   obtain⟨hr,hR8⟩:=he1 h00
   exact (flr_0.2 ⟨hr,hR8,hall⟩).symm
  ·exact hf1 hz
 have bX:=b2.grow hg
 have gX:=g12.trans hg
 clear hf0 hf1 hlt he1 he2
 refine V.exit ?_
 refine zX ?_
 refine V.nil (Or.inr ⟨by simp,?_⟩)
 refine zX ?_
 refine zS ?_
 by_cases hz : f=0
 rotate_left
 ·have hzf : (f=0)=False:=eq_false hz
  have zf:=And.intro bX.2<|@hzf
  refine V.lz ?_
  refine zS ?_
  refine V.condF zA ?_
  refine zS ?_
  refine V.run ?_
  have zf:=And.intro bX.2<|And.intro @hzf<|@hl
  refine VI.sz 9 ?_
  simp only[ds]
  have zf:=And.intro bX.2<|And.intro @hzf<|@hl
  refine VI.sz 4 ?_
  simp only[ds]
  refine VI.gdN zG ?_
  refine VI.l0 ?_
  refine zS ?_
  refine V.condF zA ?_
  refine zS ?_
  refine V.run ?_
  have zf:=bX.2
  refine VI.sz 1 ?_
  simp only[ds]
  refine VI.callA rfl (f22_ok m S L _) zA (fun H3 g3=>?_)
  refine VI.s0 1 ?_
  simp only[ds]
  refine VI.callR zA (f41_ok (h.grow (gX.trans g3)) (by omega)) zA (fun w4 H4 ⟨g4,o4⟩=>?_)
  refine VI.callR zA (f40_ok (m:=m) (S:=S) (L:=L) (R:=R) ⟨o4.sw q2_w⟩) zA (fun w5 H5 ⟨g5,yb,eb,hw5,k5⟩=>?_)
  subst hw5
  obtain⟨rfl,rfl⟩ : yb=.slice none 0 0∧eb=f:=by
   rcases k5 with⟨_,a,b⟩|⟨a,_⟩|⟨a,_⟩
   ·exact⟨a,by rw[b,hff]⟩
   ·exact absurd (hff.trans a) hz
   ·exact absurd (hff.trans a) hz
  have hl0 : ∀ X,ylen 0 X (.slice none 0 0)=some (I 0):=fun _=>rfl
  have hee : (eb=eb)=True:=eq_self _
  refine VI.l0 ?_
  refine zS ?_
  refine V.line' (by simp +contextual (disch:=first|omega|simp only[nx];omega) only[D4,qF,qG,qA,qB,qC,D5,hF,hA,↓reduceIte,qD,qE,hzf,not_false_eq_true];with_reducible rfl) ?_
  refine zS ?_
  refine V.condT zA ?_
  refine zS ?_
  refine V.run ?_
  have zf:=And.intro @hl0<|@hee
  refine VI.sz 9 ?_
  simp only[ds]
  refine VI.callAT zG rfl (f20_ok _) zA (fun Ha ga=>?_)
  refine VI.l0 ?_
  refine zS ?_
  refine V.ret (V.rets rfl (Lv.retF (by simp +contextual (disch:=first|omega|simp only[nx];omega) only[D1,cells_alloc_at,cells_alloc_ne,cells_set_at,cells_set_ne,yres,yres1,yresL,qA,qB,qC,D5,hF,hA,↓reduceIte,qD,qE];rfl) ?_))
  rfl
 subst hz
 have hflr:=hff.symm
 obtain⟨hr,hR8,hR⟩:=flr_0.1 hflr
 by_cases h5 : m=5
 ·have h5t : (m=5)=True:=eq_true h5
  have zf:=And.intro bX.2<|@h5t
  refine V.lz ?_
  refine zS ?_
  refine V.condT zA ?_
  refine zS ?_
  refine V.l0 ?_
  refine zS ?_
  refine V.run ?_
  have zf:=And.intro bX.2<|@hl
  refine VI.sz 9 ?_
  simp only[ds]
  have zf:=And.intro bX.2<|@hl
  refine VI.sz 4 ?_
  simp only[ds]
  refine VI.gdN zG ?_
  refine VI.l0 ?_
  refine zS ?_
  refine V.condF zA ?_
  refine zS ?_
  refine V.run ?_
  have zf:=bX.2
  refine VI.sz 1 ?_
  simp only[ds]
  refine VI.callA rfl (f22_ok m S L _) zA (fun H3 g3=>?_)
  refine VI.s0 1 ?_
  simp only[ds]
  refine VI.callR zA (f41_ok (h.grow (gX.trans g3)) (by omega)) zA (fun w4 H4 ⟨g4,o4⟩=>?_)
  refine VI.callR zA (f40_ok (m:=m) (S:=S) (L:=L) (R:=R) ⟨o4.sw q2_w⟩) zA (fun w5 H5 ⟨g5,yb,eb,hw5,k5⟩=>?_)
  subst hw5
  obtain⟨rfl,rfl⟩ : yb=.slice none 0 0∧eb=8:=by
   rcases k5 with⟨a,_⟩|⟨_,_,a,b⟩|⟨_,a,_⟩
   ·exact absurd hflr a
   ·exact⟨a,b⟩
   ·exact absurd h5 a
  have hl0 : ∀ X,ylen 0 X (.slice none 0 0)=some (I 0):=fun _=>rfl
  refine VI.l0 ?_
  refine zS ?_
  refine V.l0 ?_
  refine zS ?_
  refine V.condT zA ?_
  refine zS ?_
  refine V.run ?_
  have zf:=@hl0
  refine VI.sz 9 ?_
  simp only[ds]
  refine VI.callAT zG rfl (f20_ok _) zA (fun Ha ga=>?_)
  refine VI.l0 ?_
  refine zS ?_
  refine V.ret (V.rets rfl (Lv.retF (by simp +contextual (disch:=first|omega|simp only[nx];omega) only[D1,cells_alloc_at,cells_alloc_ne,cells_set_at,cells_set_ne,yres,yres1,yresL,qA,qB,qC,D5,hF,hA,↓reduceIte,qD,qE];rfl) ?_))
  rfl
 have h5f : (m=5)=False:=eq_false h5
 have hS : 0≤S∧S≤60:=⟨hr.2.2.1,hr.2.2.2.1⟩
 have hm : 1≤m∧m≤5:=⟨hr.1,hr.2.1⟩
 have hS' : 0≤S∧S≤61:=by omega
 have zf:=And.intro bX.2<|@h5f
 refine V.lz ?_
 refine zS ?_
 refine V.condF zA ?_
 refine zS ?_
 by_cases c1 : 12<S
 ·have c1t : (12<S)=True:=eq_true c1
  refine V.run ?_
  have zf:=And.intro bX.2<|And.intro @hl<|@c1t
  refine VI.sz 9 ?_
  simp only[ds]
  have zf:=And.intro bX.2<|And.intro @hl<|@c1t
  refine VI.sz 4 ?_
  simp only[ds]
  refine VI.gdF zG ?_
  refine VI.l0 ?_
  refine zS ?_
  refine V.condT zA ?_
  refine zS ?_
  refine V.run ?_
  refine VI.callA rfl (f20_ok _) zA (fun H3 g3=>?_)
  refine VI.l0 ?_
  refine zS ?_
  refine V.ret (V.rets rfl (Lv.retF (by simp +contextual (disch:=first|omega|simp only[nx];omega) only[D1,cells_alloc_at,cells_alloc_ne,cells_set_at,cells_set_ne,yres,yres1,yresL,qA,qB,qC,D5,hF,hA,↓reduceIte,qD,qE];rfl) ?_))
  rfl
 have c1f : (12<S)=False:=eq_false c1
 by_cases c2 : 5<(R.length : Int)
 ·have c2t : (5<(R.length : Int))=True:=eq_true c2
  refine V.run ?_
  have zf:=And.intro bX.2<|And.intro @hl<|And.intro @c1f<|@c2t
  refine VI.sz 9 ?_
  simp only[ds]
  have zf:=And.intro bX.2<|And.intro @hl<|And.intro @c1f<|@c2t
  refine VI.sz 4 ?_
  simp only[ds]
  refine VI.gdF zG ?_
  refine VI.l0 ?_
  refine zS ?_
  refine V.condT zA ?_
  refine zS ?_
  refine V.run ?_
  refine VI.callA rfl (f20_ok _) zA (fun H3 g3=>?_)
  refine VI.l0 ?_
  refine zS ?_
  refine V.ret (V.rets rfl (Lv.retF (by simp +contextual (disch:=first|omega|simp only[nx];omega) only[D1,cells_alloc_at,cells_alloc_ne,cells_set_at,cells_set_ne,yres,yres1,yresL,qA,qB,qC,D5,hF,hA,↓reduceIte,qD,qE];rfl) ?_))
  rfl
 have c2f : (5<(R.length : Int))=False:=eq_false c2
 obtain⟨W,hW⟩ : ∃ W,W=wdn (wv R) R.length:=⟨_,rfl⟩
 have f39':=fun X g=>f39_ok (H:=X) (h.grow g) hR8 hR
 rw[← hW] at f39'
 refine V.run ?_
 have zf:=And.intro bX.2<|And.intro @hl<|And.intro @c1f<|@c2f
 refine VI.sz 9 ?_
 simp only[ds]
 have zf:=And.intro bX.2<|And.intro @hl<|And.intro @c1f<|@c2f
 refine VI.sz 4 ?_
 simp only[ds]
 refine VI.callAT zG rfl (f39' X gX) zA (fun X0 g0=>?_)
 have bX:=bX.grow g0
 have gX:=gX.trans g0
 refine VI.l0 ?_
 refine zS ?_
 refine V.condP zP (fun c3=>?_) (fun c3=>?_)
 ·refine zS ?_
  refine V.run ?_
  refine VI.callA rfl (f20_ok _) zA (fun H3 g3=>?_)
  refine VI.l0 ?_
  refine zS ?_
  refine V.ret (V.rets rfl (Lv.retF (by simp +contextual (disch:=first|omega|simp only[nx];omega) only[D1,cells_alloc_at,cells_alloc_ne,cells_set_at,cells_set_ne,yres,yres1,yresL,qA,qB,qC,D5,hF,hA,↓reduceIte,qD,qE];rfl) ?_))
  rfl
 have hWp : W=prd (wv R) R.length∧1≤W∧W≤150:=by
  obtain⟨d1,d2,d3⟩:=wdn_prd (w:=wv R) (k:=R.length) (fun q hq=>(wv_bd hR hq).1)
  rw[← hW] at d1 d2 d3
  refine⟨?_,d1,by omega⟩
  rcases d3 with d3|d3
  ·exact d3
  ·omega
 obtain⟨hWp,hW1,hW2⟩:=hWp
 obtain⟨Wn,rfl⟩:=Int.eq_ofNat_of_zero_le (show 0≤W by omega)
 clear hW
 refine zS ?_
 refine V.run ?_
 have zf:=bX.2
 refine VI.sz 1 ?_
 simp only[ds]
 refine VI.callA rfl (f22_ok m S L _) zA (fun H3 g3=>?_)
 refine VI.s0 1 ?_
 simp only[ds]
 refine VI.callR zA (f41_ok (h.grow (gX.trans g3)) (by omega)) zA (fun w4 H4 ⟨g4,o4⟩=>?_)
 refine VI.callR zA (f40_ok (m:=m) (S:=S) (L:=L) (R:=R) ⟨o4.sw q2_w⟩) zA (fun w5 H5 ⟨g5,yb,eb,hw5,k5⟩=>?_)
 subst hw5
 have g35:=(g3.trans g4).trans g5
 have b5:=bX.grow g35
 have gH5:=gX.trans g35
 rcases k5 with⟨k,_⟩|⟨_,k,_⟩|⟨_,_,rfl,ob⟩
 ·exact absurd hflr k
 ·exact absurd k h5
 have qb : RS H5 yb (bnd m S L R R.length):=⟨ob.sw q2_w⟩
 have qbl:=qb.len
 rw[bnd_len] at qbl
 clear ob o4
 refine VI.l0 ?_
 refine zS ?_
 refine V.l0 ?_
 refine zS ?_
 refine V.condP zP (fun hcc=>?_) (fun hcc=>?_)
 ·exact absurd trivial hcc
 clear hcc
 have mk:=mk_rng H5 52 R.length (by omega)
 have eRep : ((List.replicate R.length ((0 : Int),(0 : Int))).map q2).flatten=rf R.length (fun _=>(0,0)):=by
  unfold rf rg
  congr 2
  apply List.ext_getElem
  ·simp
  ·intro i h1 h2;simp
 rw[eRep] at mk
 have n5:=b5.1
 refine zS ?_
 have zf:=And.intro @hl<|@mk
 refine V.lz ?_
 refine V.heap (fun X=>Grow H5 X∧Bx X H5.next (rf R.length (fun _=>(0,0))) 52) ⟨?_,?_⟩ ?_
 ·exact zW
 ·exact Bx.new _ _ _
 rintro H6 ⟨g6,c6⟩
 have b6:=b5.grow g6
 obtain⟨du,hdu⟩ : ∃ du,du=H5.next:=⟨_,rfl⟩
 rw[← hdu] at c6 ⊢
 have ndu : H5.next≤du:=by omega
 have gH6:=gH5.trans g6
 have qb6:=qb.grow g6
 refine zS ?_
 refine V.l0 ?_
 refine zS ?_
 refine V.loop (fun z t mm X=>∃ (p : Nat),p≤R.length∧z=R.length-p∧mm=[]∧Grow H5 X∧Bx X du (rf R.length (fun i=>if i<p then (99,-1) else (0,0))) 52∧Full 234 t∧Kn [(1,.slice px nx' cx),(2,PT H.next),(8,yb),(9,I 0),(10,.slice (some ⟨du,0,none⟩) R.length R.length),(11,I p)] t) R.length ?_ ?_
 ·exact⟨0,by omega,by omega,rfl,g6,c6,zF,zK⟩
 clear hF hA c6 b6 qb6 gH6 g6
 rintro z t mm X ⟨p,hp,rfl,rfl,g6,c6,hF,hA⟩
 simp only[Kn,and_true] at hA
 refine zS ?_
 have zf:=@hl
 refine V.lz ?_
 refine zS ?_
 refine V.condP zP (fun hlt=>?_) (fun hlt=>?_)
 ·have hp' : p<R.length:=by omega
  have ix:=own_idx2 (y:=du) (c:=R.length) hp'
  obtain⟨Fd,hFd⟩ : ∃ Fd,Fd=rf R.length (fun i=>if i<p then ((99 : Int),(-1 : Int)) else (0,0)):=⟨_,rfl⟩
  have lF : Fd.length=R.length*2:=by rw[hFd,rf_len]
  have es:=rf_set (n:=R.length) (f:=fun i=>if i<p then ((99 : Int),(-1 : Int)) else (0,0)) (a:=99) (b:=-1) hp'
  rw[← hFd] at es c6
  have hle : p*2+2≤R.length*2:=by omega
  refine zS ?_
  have zf:=And.intro @ix<|And.intro c6.2<|And.intro @lF<|And.intro @hle<|@es
  refine V.lz ?_
  refine zS ?_
  refine V.l0 ?_
  refine V.nil (Or.inl ⟨rfl,R.length-(p+1),by omega,?_⟩)
  refine⟨p+1,hp',rfl,rfl,g6.set ndu _,?_,zF,zK⟩
  have e : rf R.length (fun i=>if i=p then ((99 : Int),(-1 : Int)) else if i<p then (99,-1) else (0,0))=rf R.length (fun i=>if i<p+1 then (99,-1) else (0,0)):=by
   unfold rf
   congr 2
   refine rg_cong fun i _=>?_
   by_cases h1 : i=p
   ·rw[if_pos h1,if_pos (by omega)]
   ·rw[if_neg h1];by_cases h2 : i<p
    ·rw[if_pos h2,if_pos (by omega)]
    ·rw[if_neg h2,if_neg (by omega)]
  rw[← e]
  exact Bx.put c6.1 _ _
 obtain rfl : p=R.length:=by omega
 have e99 : rf R.length (fun i=>if i<R.length then ((99 : Int),(-1 : Int)) else (0,0))=rf R.length (fun i=>(mnF (sA m S L R i) 0,mxF (sB m S L R i) 0)):=by
  unfold rf
  congr 2
  refine rg_cong fun i hi=>?_
  rw[if_pos hi];rfl
 rw[e99] at c6
 have bb:=fun i n=>(show sA m S L R i n=sA m S L R i n from rfl)
 refine V.exit ?_
 refine zX ?_
 refine V.nil (Or.inr ⟨by simp,?_⟩)
 refine zX ?_
 refine zS ?_
 refine V.l0 ?_
 refine zS ?_
 refine V.loop (fun z t mm X=>∃ (n : Nat),n≤Wn∧z=Wn-n∧mm=[]∧Grow H5 X∧Bx X du (rf R.length (fun i=>(mnF (sA m S L R i) n,mxF (sB m S L R i) n))) 52∧Full 234 t∧Kn [(1,.slice px nx' cx),(2,PT H.next),(8,yb),(9,I 0),(10,.slice (some ⟨du,0,none⟩) R.length R.length),(12,I n)] t) Wn ?_ ?_
 ·exact⟨0,by omega,by omega,rfl,g6,c6,zF,zK⟩
 clear hF hA c6 g6 hlt
 rintro z t mm X ⟨n,hn,rfl,rfl,g6,c6,hF,hA⟩
 simp only[Kn,and_true] at hA
 refine zS ?_
 refine V.run ?_
 refine VI.s0 2 ?_
 simp only[ds]
 refine VI.callA rfl (f39_ok (h.grow (gH5.trans g6)) hR8 hR) zA (fun X1 g7=>?_)
 obtain⟨hW',hWe⟩ : wdn (wv R) R.length=Wn∧True:=by
  obtain⟨d1,d2,d3⟩:=wdn_prd (w:=wv R) (k:=R.length) (fun q hq=>(wv_bd hR hq).1)
  refine⟨?_,trivial⟩
  rcases d3 with d3|d3<;>omega
 rw[hW']
 have c7:=c6.grow g7
 have g57:=g6.trans g7
 refine VI.l0 ?_
 refine zS ?_
 refine V.condP zP (fun hnl=>?_) (fun hnl=>?_)
 ·have hn' : n<Wn:=by omega
  have hbn:=own_bd hR (n : Int)
  refine zS ?_
  refine V.l0 ?_
  refine zS ?_
  refine V.l0 ?_
  refine zS ?_
  refine V.l0 ?_
  refine zS ?_
  refine V.loop (fun z t mm Y=>∃ (q : Nat) (w : Value),q≤R.length∧z=R.length-q∧mm=[]∧Grow X1 Y∧Ow X1 Y 3 w (Li (fl q fun q=>gl0 (R.map (·.1)) q+rs (wv R) n q%wv R q))∧Full 234 t∧Kn [(1,.slice px nx' cx),(2,PT H.next),(8,yb),(9,I 0),(10,.slice (some ⟨du,0,none⟩) R.length R.length),(12,I n),(13,w),(14,I (rs (wv R) n q)),(15,I q)] t) R.length ?_ ?_
  ·exact⟨0,_,by omega,by omega,rfl,.refl _,.nil,zF,zK⟩
  clear hF hA
  rintro z t mm Y ⟨q,w,hq,rfl,rfl,gY,ow,hF,hA⟩
  simp only[Kn,and_true] at hA
  refine zS ?_
  have zf:=@hl
  refine V.lz ?_
  refine zS ?_
  refine V.condP zP (fun hlq=>?_) (fun hlq=>?_)
  ·have hq' : q<R.length:=by omega
   obtain⟨i,o,s1,s2⟩:=h.at hq'
   obtain⟨_,s4,s5⟩:=s2 Y ((gH5.trans g57).trans gY)
   rw[← gl0_map (R:=R) (f:=(·.1)) hq'] at s4
   rw[← gl0_map (R:=R) (f:=(·.2)) hq'] at s5
   have hb:=rok_gl hR hq'
   have hwv:=wv_bd hR hq'
   have hrs:=rs_bd (w:=wv R) (n:=(n : Int)) (by omega) (k:=q) (fun i hi=>(wv_bd hR (show i<R.length by omega)).1)
   have ew : gl0 (R.map (·.2)) q-gl0 (R.map (·.1)) q+1=wv R q:=rfl
   have hrem : (rs (wv R) n q).tmod (wv R q)=rs (wv R) n q%wv R q:=Int.tmod_eq_emod_of_nonneg hrs.1
   have hquo : (rs (wv R) n q).tdiv (wv R q)=rs (wv R) n (q+1):=Int.tdiv_eq_ediv_of_nonneg hrs.1
   have hne : ¬ (wv R q=0):=by omega
   have m1:=Int.emod_nonneg (rs (wv R) n q) hne
   have m2:=Int.emod_lt_of_pos (rs (wv R) n q) (show 0<wv R q by omega)
   have hrs1:=rs_bd (w:=wv R) (n:=(n : Int)) (by omega) (k:=q+1) (fun i hi=>(wv_bd hR (show i<R.length by omega)).1)
   obtain⟨u,Y1,a1,a2,a3,a4,a5,_,a7,_⟩:=ow.push (bytes:=8) (r:=[I (gl0 (R.map (·.1)) q+rs (wv R) n q%wv R q)]) gY rfl (by simp) (by rw[Li_len,fl_len];simp;omega) (by rw[Li_len,fl_len];simp;omega)
   replace a1 : yappend 3 1 8 (Y.alloc (.cells ⟨[I (gl0 (R.map (·.1)) q+rs (wv R) n q%wv R q)]⟩ 3 true)) w (.slice (some ⟨Y.next,0,none⟩) 1 1)=some (u,Y1):=a1
   have m5:=a4.1
   refine zS ?_
   have zf:=And.intro @s1<|And.intro @s4<|And.intro @s5<|@ew
   refine V.dz ?_ ?_ rfl ?_
   ·exact zM
   ·simp only[dcAll,dcOk,wantD,List.cons_append,List.nil_append,true_and,and_true]
   refine zS ?_
   have zf:=And.intro @s1<|And.intro @s4<|And.intro @hrem<|And.intro @hne<|@a1
   refine V.dz ?_ ?_ rfl ?_
   ·exact zM
   ·simp only[dcAll,dcOk,wantD,List.cons_append,List.nil_append,true_and,and_true]
   refine zS ?_
   have zf:=And.intro @hquo<|@hne
   refine V.lz ?_
   refine zS ?_
   refine V.l0 ?_
   refine V.nil (Or.inl ⟨rfl,R.length-(q+1),by omega,?_⟩)
   refine⟨q+1,u,hq',rfl,rfl,a3,?_,zF,zK⟩
   have e : Li (fl (q+1) fun q=>gl0 (R.map (·.1)) q+rs (wv R) n q%wv R q)=Li (fl q fun q=>gl0 (R.map (·.1)) q+rs (wv R) n q%wv R q)++[I (gl0 (R.map (·.1)) q+rs (wv R) n q%wv R q)]:=by simp[fl,Li,List.range_succ]
   rw[e]
   exact a2
  obtain rfl : q=R.length:=by omega
  have bY:=b5.grow (g57.trans gY)
  have cY:=c7.grow gY
  have qw:=ow_ls ow
  replace qw : LS Y w (own R n):=qw
  clear ow hlq
  refine V.exit ?_
  refine zX ?_
  refine V.nil (Or.inr ⟨by simp,?_⟩)
  refine zX ?_
  refine zS ?_
  refine V.run ?_
  have zf:=bY.2
  refine VI.sz 2 ?_
  simp only[ds]
  refine VI.callR zA (f42_loc (m:=m) (S:=S) (L:=L) h5 qw ⟨hm,hS',by rw[own_len];exact hR8,hbn⟩) zA (fun w6 Y2 ⟨g8,i1,i2,i11,i21,q1,q2,hw6⟩=>?_)
  rw[own_len] at q1 q2 hw6
  subst hw6
  have cY2:=cY.grow g8
  have g58:=(g57.trans gY).trans g8
  have nY:=cY.1
  have hd1 : i1≠du:=by omega
  have hd2 : i2≠du:=by omega
  refine VI.l0 ?_
  refine zS ?_
  refine V.l0 ?_
  refine zS ?_
  refine V.loop (fun z t mm Z=>∃ (j : Nat),j≤R.length∧z=R.length-j∧mm=[]∧Grow H5 Z∧Bx Z i1 (Li (fl R.length (otc m S (vl L (own R n))).1)) 3∧Bx Z i2 (Li (fl R.length (otc m S (vl L (own R n))).2)) 3∧Bx Z du (rf R.length (fun i=>if i<j then (mnF (sA m S L R i) (n+1),mxF (sB m S L R i) (n+1)) else (mnF (sA m S L R i) n,mxF (sB m S L R i) n))) 52∧Full 234 t∧Kn [(1,.slice px nx' cx),(2,PT H.next),(8,yb),(9,I 0),(10,.slice (some ⟨du,0,none⟩) R.length R.length),(12,I n),(17,.slice (some ⟨i1,0,none⟩) R.length R.length),(18,.slice (some ⟨i2,0,none⟩) R.length R.length),(19,I j)] t) R.length ?_ ?_
  ·exact⟨0,by omega,by omega,rfl,g58,q1,q2,cY2,zF,zK⟩
  clear hF hA q1 q2 cY2 g58
  rintro z t mm Z ⟨j,hj,rfl,rfl,gZ,q1,q2,cZ,hF,hA⟩
  simp only[Kn,and_true] at hA
  refine zS ?_
  have zf:=@hl
  refine V.lz ?_
  refine zS ?_
  refine V.condP zP (fun hlj=>?_) (fun hlj=>?_)
  ·have hj' : j<R.length:=by omega
   obtain⟨ff,hff2⟩ : ∃ ff : Nat→R2,ff=(fun i=>if i<j then (mnF (sA m S L R i) (n+1),mxF (sB m S L R i) (n+1)) else (mnF (sA m S L R i) n,mxF (sB m S L R i) n)):=⟨_,rfl⟩
   rw[← hff2] at cZ
   obtain⟨e1,e2⟩:=rf_get (n:=R.length) (f:=ff) hj'
   have ej : ff j=(mnF (sA m S L R j) n,mxF (sB m S L R j) n):=by rw[hff2];exact if_neg (by omega)
   rw[ej] at e1 e2
   have ix:=own_idx2 (y:=du) (c:=R.length) hj'
   have oi1:=own_idx (y:=i1) (c:=R.length) hj'
   have oi2:=own_idx (y:=i2) (c:=R.length) hj'
   have l1 : (Li (fl R.length (otc m S (vl L (own R n))).1))[j]?=some (I (sA m S L R j n)):=by rw[Li_at (by rw[fl_len];exact hj'),fl_at];rfl
   have l2 : (Li (fl R.length (otc m S (vl L (own R n))).2))[j]?=some (I (sB m S L R j n)):=by rw[Li_at (by rw[fl_len];exact hj'),fl_at];rfl
   have em1 : (if sA m S L R j n<mnF (sA m S L R j) n then sA m S L R j n else mnF (sA m S L R j) n)=mnF (sA m S L R j) (n+1):=rfl
   have em2 : (if sB m S L R j n > mxF (sB m S L R j) n then sB m S L R j n else mxF (sB m S L R j) n)=mxF (sB m S L R j) (n+1):=rfl
   have es:=rf_set (n:=R.length) (f:=ff) (a:=mnF (sA m S L R j) (n+1)) (b:=mxF (sB m S L R j) (n+1)) hj'
   have hle : j*2+2≤R.length*2:=by omega
   have lF:=rf_len R.length ff
   obtain⟨Fd,hFd⟩ : ∃ Fd,Fd=rf R.length ff:=⟨_,rfl⟩
   rw[← hFd] at cZ e1 e2 es lF
   have nd:=cZ.1
   refine zS ?_
   have zf:=And.intro @ix<|And.intro cZ.2<|And.intro @e1<|And.intro @e2<|And.intro @lF<|And.intro @hle<|And.intro @oi1<|And.intro @oi2<|And.intro q1.2<|And.intro q2.2<|And.intro @l1<|And.intro @l2<|And.intro @em1<|And.intro @em2<|@es
   refine V.dz ?_ ?_ rfl ?_
   ·exact zM
   ·simp only[dcAll,dcOk,wantD,List.cons_append,List.nil_append,true_and,and_true]
   refine zS ?_
   refine V.l0 ?_
   refine V.nil (Or.inl ⟨rfl,R.length-(j+1),by omega,?_⟩)
   refine⟨j+1,hj',rfl,rfl,gZ.set ndu _,q1.set hd1 _,q2.set hd2 _,?_,zF,zK⟩
   have e : rf R.length (fun i=>if i=j then (mnF (sA m S L R j) (n+1),mxF (sB m S L R j) (n+1)) else ff i)=rf R.length (fun i=>if i<j+1 then (mnF (sA m S L R i) (n+1),mxF (sB m S L R i) (n+1)) else (mnF (sA m S L R i) n,mxF (sB m S L R i) n)):=by
    unfold rf
    congr 2
    refine rg_cong fun i _=>?_
    rw[hff2]
    dsimp only
    by_cases h1 : i=j
    ·rw[if_pos h1,if_pos (by omega),h1]
    ·rw[if_neg h1]
     by_cases h2 : i<j
     ·rw[if_pos h2,if_pos (by omega)]
     ·rw[if_neg h2,if_neg (by omega)]
   rw[← e]
   exact Bx.put cZ.1 _ _
  ·obtain rfl : j=R.length:=by omega
   have e : rf R.length (fun i=>if i<R.length then (mnF (sA m S L R i) (n+1),mxF (sB m S L R i) (n+1)) else (mnF (sA m S L R i) n,mxF (sB m S L R i) n))=rf R.length (fun i=>(mnF (sA m S L R i) (n+1),mxF (sB m S L R i) (n+1))):=by
    unfold rf
    congr 2
    exact rg_cong fun i hi=>if_pos hi
   rw[e] at cZ
   refine V.exit ?_
   refine zX ?_
   refine V.nil (Or.inr ⟨by simp,?_⟩)
   refine zX ?_
   refine zS ?_
   refine V.l0 ?_
   refine V.nil (Or.inl ⟨rfl,Wn-(n+1),by omega,?_⟩)
   exact⟨n+1,hn',rfl,rfl,gZ,cZ,zF,zK⟩
 ·obtain rfl : n=Wn:=by omega
  have hee : ((R.length : Int)=R.length)=True:=eq_self _
  refine V.exit ?_
  refine zX ?_
  refine V.nil (Or.inr ⟨by simp,?_⟩)
  refine zX ?_
  refine zS ?_
  refine V.line' (by simp +contextual (disch:=first|omega|simp only[nx];omega) only[D4,qF,qG,qA,qB,qC,D5,hF,hA,↓reduceIte,qD,qE,hl,qbl,hee,not_true_eq_false];with_reducible rfl) ?_
  refine zS ?_
  refine V.condF zA ?_
  refine zS ?_
  refine V.l0 ?_
  refine zS ?_
  refine V.loop (fun z t mm Z=>∃ (k : Nat),k≤R.length∧z=R.length-k∧mm=[]∧Z=X1∧Full 234 t∧Kn [(8,yb),(10,.slice (some ⟨du,0,none⟩) R.length R.length),(20,I k)] t) R.length ?_ ?_
  ·exact⟨0,by omega,by omega,rfl,rfl,zF,zK⟩
  clear hF hA
  rintro z t mm Z ⟨k,hk,rfl,rfl,hZ,hF,hA⟩
  obtain rfl : X1=Z:=hZ.symm
  simp only[Kn,and_true] at hA
  refine zS ?_
  have zf:=@qbl
  refine V.lz ?_
  refine zS ?_
  refine V.condP zP (fun hlk=>?_) (fun hlk=>?_)
  ·have hk' : k<R.length:=by omega
   obtain⟨f1,f2⟩:=due_is (m:=m) (S:=S) (L:=L) h5 hS hR8 hR (W:=n) hWp hk'
   obtain⟨e1,e2⟩:=rf_get (n:=R.length) (f:=fun i=>(mnF (sA m S L R i) n,mxF (sB m S L R i) n)) hk'
   simp only[f1,f2] at e1 e2
   have ix:=own_idx2 (y:=du) (c:=R.length) hk'
   obtain⟨ib,ob',r1,r2⟩:=qb.at (k:=k) (by rw[bnd_len];exact hk')
   have eb : (bnd m S L R R.length)[k]'(by rw[bnd_len];exact hk')=(bLo m S L R k,bHi m S L R k):=by simp[bnd]
   rw[eb] at r2
   obtain⟨_,r4,r5⟩:=r2 X1 g57
   have d1 : (bLo m S L R k=bLo m S L R k)=True:=eq_self _
   have d2 : (bHi m S L R k=bHi m S L R k)=True:=eq_self _
   have c7':=c7.2
   refine zS ?_
   refine V.lineD' (by simp +contextual (disch:=first|omega|simp only[nx];omega) only[D4,qF,qG,qA,qB,qC,D5,hF,hA,↓reduceIte,qD,qE,r1,r4,r5,ix,c7',e1,e2,d1,d2,not_true_eq_false];with_reducible rfl) ?_ ?_ rfl ?_
   ·exact zM
   ·simp only[dcAll,dcOk,wantD,List.cons_append,List.nil_append,true_and,and_true]
   refine zS ?_
   refine V.condF zA ?_
   refine zS ?_
   refine V.l0 ?_
   refine V.nil (Or.inl ⟨rfl,R.length-(k+1),by omega,?_⟩)
   exact⟨k+1,hk',rfl,rfl,rfl,zF,zK⟩
  ·refine V.exit ?_
   refine zX ?_
   refine V.nil (Or.inr ⟨by simp,?_⟩)
   refine zX ?_
   refine zS ?_
   refine V.run ?_
   refine VI.callA rfl (f20_ok _) zA (fun Ha ga=>?_)
   refine VI.l0 ?_
   refine zS ?_
   refine V.ret (V.rets rfl (Lv.retF (by simp +contextual (disch:=first|omega|simp only[nx];omega) only[D1,cells_alloc_at,cells_alloc_ne,cells_set_at,cells_set_ne,yres,yres1,yresL,qA,qB,qC,D5,hF,hA,↓reduceIte,qD,qE];rfl) ?_))
   rfl
end Go.Xe.TVX
