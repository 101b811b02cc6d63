/- BorderMerged: two new districts become one. Conditions: none. -/
import Derived.Test.YtgcdbdcnlhonfaaTCW
import Derived.Test.YtgcdbdcnlhonfaaZm
import Derived.WideShapes
import Derived.ChangeSame
import Derived.Below
-- MOD TB
namespace Go.Xe.TBX
open Go Go.Xe Go.Proofs
open Nat renaming reduceLeDiff → qA, reduceSub → qB, reduceAdd → qC, reduceEqDiff → qD, reduceLT → qE
open Int renaming reduceNegSucc → qF, reduceEq → qG
open Go.Xe.V renaming seq → sA, block → sB, scope → sC, skip → sD, close → sE
open Go.Xe renaming pth → P
open Go.Xe.Rnd
set_option maxRecDepth 100000
set_option maxHeartbeats 3200000
set_option linter.unusedSimpArgs false
noncomputable def d11 : FCode:=(.seq (.run (.go (.box 26 (tm 0)) (P 2)::
.go (.move (.con (.bool false))) (P 4)::
[])) (.seq (.seq (.run (.go (.loadN 4 (tm 2)) (P 20)::
.go (.call (.con (.func (.func 49) ⟨[]⟩ ⟨[]⟩)) [tm 20]) (P 21)::
.go (.un .not (tm 21)) (P 22)::
.go (.move (tm 22)) (P 23)::
.gd (P 23) false (.fieldAddr 1 (tm 2)) (P 24)::
.gd (P 23) false (.load1 (tm 24)) (P 25)::
.gd (P 23) false (.bin .lss 3 (tm 25) (.con (.int .i64 (.ofNat 2)))) (P 26)::
.go (.pick (tm 23) (.con (.bool true)) (tm 26)) (P 27)::
[])) (.cond (tm 27) (.seq (.run (.go (.call (.con (.func (.func 17) ⟨[]⟩ ⟨[]⟩)) []) (P 28)::
.go (.move (tm 28)) (P 4)::
[])) .ret) .skip)) (.seq (.run (.go (.fieldAddr 1 (tm 2)) (P 29)::
.go (.load1 (tm 29)) (P 30)::
.go (.bin .sub 3 (tm 30) (.con (.int .i64 (.ofNat 1)))) (P 31)::
.go (.move (tm 31)) (P 5)::
[])) (.seq (.run (.go (.move (tm 1)) (P 32)::
.go (.conv .i64 (tm 32)) (P 33)::
.go (.move (tm 5)) (P 34)::
.go (.bin .rem 3 (tm 33) (tm 34)) (P 35)::
.go (.move (tm 35)) (P 6)::
[])) (.seq (.run (.go (.loadN 4 (tm 2)) (P 36)::
.go (.alloc 26 [(.slice none 0 0),(.int .i64 (.ofNat 0)),(.slice none 0 0),(.slice none 0 0)]) (P 7)::
.un (.store 4 (tm 7) (tm 36))::
[])) (.seq (.run (.go (.move (tm 5)) (P 37)::
.go (.fieldAddr 1 (tm 7)) (P 38)::
.un (.store 1 (tm 38) (tm 37))::
[])) (.seq (.run (.go (.buildSlice 54 0 [] []) (P 39)::
.go (.fieldAddr 2 (tm 2)) (P 40)::
.go (.load1 (tm 40)) (P 41)::
.go (.append 54 5 40 (tm 39) (tm 41)) (P 42)::
.go (.fieldAddr 2 (tm 7)) (P 43)::
.un (.store 1 (tm 43) (tm 42))::
[])) (.seq (.seq (.run (.go (.move (.con (.int .i64 (.ofNat 0)))) (P 8)::
[])) (.block 0 (.loop (.seq (.seq (.run (.go (.move (tm 8)) (P 44)::
.go (.fieldAddr 2 (tm 7)) (P 45)::
.go (.load1 (tm 45)) (P 46)::
.go (.len 0 (tm 46)) (P 47)::
.go (.bin .lss 3 (tm 44) (tm 47)) (P 48)::
[])) (.cond (tm 48) .skip (.exit 0))) (.seq (.block 1 (.seq (.run (.go (.fieldAddr 2 (tm 7)) (P 51)::
.go (.load1 (tm 51)) (P 52)::
.go (.move (tm 8)) (P 53)::
.go (.indexAddr none 5 (tm 52) (tm 53)) (P 54)::
.go (.fieldAddr 1 (tm 54)) (P 55)::
.go (.load1 (tm 55)) (P 56)::
.go (.move (tm 5)) (P 57)::
.go (.bin .eql 3 (tm 56) (tm 57)) (P 58)::
[])) (.cond (tm 58) (.run (.go (.fieldAddr 2 (tm 7)) (P 59)::
.go (.load1 (tm 59)) (P 60)::
.go (.move (tm 8)) (P 61)::
.go (.move (tm 6)) (P 62)::
.go (.indexAddr none 5 (tm 60) (tm 61)) (P 63)::
.go (.fieldAddr 1 (tm 63)) (P 64)::
.un (.store 1 (tm 64) (tm 62))::
[])) .skip))) (.run (.go (.move (tm 8)) (P 49)::
.go (.bin .add 3 (tm 49) (.con (.int .i64 (.ofNat 1)))) (P 50)::
.go (.move (tm 50)) (P 8)::
[]))))))) (.seq (.run (.go (.loadN 4 (tm 2)) (P 66)::
.go (.call (.con (.func (.func 19) ⟨[]⟩ ⟨[]⟩)) [tm 66]) (P 67)::
.go (.call (.con (.func (.func 20) ⟨[]⟩ ⟨[]⟩)) [tm 67]) (P 68)::
.go (.move (tm 68)) (P 65)::
.go (.extract (tm 65) 0) (P 69)::
.go (.extract (tm 65) 1) (P 70)::
.go (.extract (tm 65) 2) (P 71)::
.go (.move (tm 69)) (P 9)::
.go (.move (tm 70)) (P 10)::
.go (.move (tm 71)) (P 11)::
[])) (.seq (.run (.go (.loadN 4 (tm 7)) (P 73)::
.go (.call (.con (.func (.func 19) ⟨[]⟩ ⟨[]⟩)) [tm 73]) (P 74)::
.go (.call (.con (.func (.func 20) ⟨[]⟩ ⟨[]⟩)) [tm 74]) (P 75)::
.go (.move (tm 75)) (P 72)::
.go (.extract (tm 72) 0) (P 76)::
.go (.extract (tm 72) 1) (P 77)::
.go (.extract (tm 72) 2) (P 78)::
.go (.move (tm 76)) (P 12)::
.go (.move (tm 77)) (P 13)::
.go (.move (tm 78)) (P 14)::
[])) (.seq (.run (.go (.loadN 4 (tm 2)) (P 80)::
.go (.call (.con (.func (.func 19) ⟨[]⟩ ⟨[]⟩)) [tm 80]) (P 81)::
.go (.call (.con (.func (.func 27) ⟨[]⟩ ⟨[]⟩)) [tm 81]) (P 82)::
.go (.move (tm 82)) (P 79)::
.go (.extract (tm 79) 0) (P 83)::
.go (.extract (tm 79) 1) (P 84)::
.go (.move (tm 83)) (P 15)::
.go (.move (tm 84)) (P 16)::
[])) (.seq (.run (.go (.loadN 4 (tm 7)) (P 86)::
.go (.call (.con (.func (.func 19) ⟨[]⟩ ⟨[]⟩)) [tm 86]) (P 87)::
.go (.call (.con (.func (.func 27) ⟨[]⟩ ⟨[]⟩)) [tm 87]) (P 88)::
.go (.move (tm 88)) (P 85)::
.go (.extract (tm 85) 0) (P 89)::
.go (.extract (tm 85) 1) (P 90)::
.go (.move (tm 89)) (P 17)::
.go (.move (tm 90)) (P 18)::
[])) (.seq (.seq (.run (.go (.move (tm 11)) (P 91)::
.go (.bin .neq 29 (tm 91) (.con (.int .i64 (.ofNat 0)))) (P 92)::
.go (.move (tm 92)) (P 93)::
.gd (P 93) false (.move (tm 14)) (P 94)::
.gd (P 93) false (.bin .neq 29 (tm 94) (.con (.int .i64 (.ofNat 0)))) (P 95)::
.go (.pick (tm 93) (.con (.bool true)) (tm 95)) (P 96)::
.go (.move (tm 96)) (P 97)::
.gd (P 97) false (.move (tm 16)) (P 98)::
.gd (P 97) false (.bin .neq 29 (tm 98) (.con (.int .i64 (.ofNat 0)))) (P 99)::
.go (.pick (tm 97) (.con (.bool true)) (tm 99)) (P 100)::
.go (.move (tm 100)) (P 101)::
.gd (P 101) false (.move (tm 18)) (P 102)::
.gd (P 101) false (.bin .neq 29 (tm 102) (.con (.int .i64 (.ofNat 0)))) (P 103)::
.go (.pick (tm 101) (.con (.bool true)) (tm 103)) (P 104)::
.go (.move (tm 104)) (P 105)::
.gd (P 105) false (.move (tm 10)) (P 106)::
.gd (P 105) false (.len 0 (tm 106)) (P 107)::
.gd (P 105) false (.fieldAddr 1 (tm 2)) (P 108)::
.gd (P 105) false (.load1 (tm 108)) (P 109)::
.gd (P 105) false (.bin .neq 3 (tm 107) (tm 109)) (P 110)::
.go (.pick (tm 105) (.con (.bool true)) (tm 110)) (P 111)::
.go (.move (tm 111)) (P 112)::
.gd (P 112) false (.move (tm 13)) (P 113)::
.gd (P 112) false (.len 0 (tm 113)) (P 114)::
.gd (P 112) false (.move (tm 5)) (P 115)::
.gd (P 112) false (.bin .neq 3 (tm 114) (tm 115)) (P 116)::
.go (.pick (tm 112) (.con (.bool true)) (tm 116)) (P 117)::
.go (.move (tm 117)) (P 118)::
.gd (P 118) false (.move (tm 15)) (P 119)::
.gd (P 118) false (.len 0 (tm 119)) (P 120)::
.gd (P 118) false (.fieldAddr 1 (tm 2)) (P 121)::
.gd (P 118) false (.load1 (tm 121)) (P 122)::
.gd (P 118) false (.bin .neq 3 (tm 120) (tm 122)) (P 123)::
.go (.pick (tm 118) (.con (.bool true)) (tm 123)) (P 124)::
.go (.move (tm 124)) (P 125)::
.gd (P 125) false (.move (tm 17)) (P 126)::
.gd (P 125) false (.len 0 (tm 126)) (P 127)::
.gd (P 125) false (.move (tm 5)) (P 128)::
.gd (P 125) false (.bin .neq 3 (tm 127) (tm 128)) (P 129)::
.go (.pick (tm 125) (.con (.bool true)) (tm 129)) (P 130)::
[])) (.cond (tm 130) (.seq (.run (.go (.move (.con (.bool false))) (P 4)::
[])) .ret) .skip)) (.seq (.seq (.run (.go (.move (.con (.int .i64 (.ofNat 0)))) (P 19)::
[])) (.block 2 (.loop (.seq (.seq (.run (.go (.move (tm 19)) (P 131)::
.go (.move (tm 5)) (P 132)::
.go (.bin .lss 3 (tm 131) (tm 132)) (P 133)::
[])) (.cond (tm 133) .skip (.exit 2))) (.seq (.block 3 (.seq (.draw 25 (.go (.move (tm 19)) (P 136)::
.go (.move (tm 6)) (P 137)::
.go (.bin .neq 3 (tm 136) (tm 137)) (P 138)::
.go (.move (tm 138)) (P 139)::
.gd (P 139) true (.move (tm 10)) (P 140)::
.gd (P 139) true (.move (tm 19)) (P 141)::
.gd (P 139) true (.indexAddr none 1 (tm 140) (tm 141)) (P 142)::
.gd (P 139) true (.load1 (tm 142)) (P 143)::
.gd (P 139) true (.move (tm 13)) (P 144)::
.gd (P 139) true (.move (tm 19)) (P 145)::
.gd (P 139) true (.indexAddr none 1 (tm 144) (tm 145)) (P 146)::
.gd (P 139) true (.load1 (tm 146)) (P 147)::
.gd (P 139) true (.bin .neq 3 (tm 143) (tm 147)) (P 148)::
.gd (P 139) true (.move (tm 148)) (P 149)::
.gd (P 149) false (.move (tm 15)) (P 150)::
.gd (P 149) false (.move (tm 19)) (P 151)::
.gd (P 149) false (.indexAddr none 2 (tm 150) (tm 151)) (P 152)::
.gd (P 149) false (.loadN 2 (tm 152)) (P 153)::
.gd (P 149) false (.move (tm 17)) (P 154)::
.gd (P 149) false (.move (tm 19)) (P 155)::
.gd (P 149) false (.indexAddr none 2 (tm 154) (tm 155)) (P 156)::
.gd (P 149) false (.loadN 2 (tm 156)) (P 157)::
.gd (P 149) false (.bin .neq 62 (tm 153) (tm 157)) (P 158)::
.gd (P 139) true (.pick (tm 149) (.con (.bool true)) (tm 158)) (P 159)::
.go (.pick (tm 139) (tm 159) (.con (.bool false))) (P 160)::
[]) [.ok,.ok,.ok,.ok,.ok,.ok,.ok,.ok,.ok,.ok,.ok,.ok,.ok,.ok,.ok,.ok,.ok,.ok,.ok,.ok,.ok,.ok,.ok,.ok,.ok]) (.cond (tm 160) (.seq (.run (.go (.move (.con (.bool false))) (P 4)::
[])) .ret) .skip))) (.run (.go (.move (tm 19)) (P 134)::
.go (.bin .add 3 (tm 134) (.con (.int .i64 (.ofNat 1)))) (P 135)::
.go (.move (tm 135)) (P 19)::
[]))))))) (.seq (.draw 56 (.go (.move (tm 13)) (P 161)::
.go (.move (tm 6)) (P 162)::
.go (.indexAddr none 1 (tm 161) (tm 162)) (P 163)::
.go (.load1 (tm 163)) (P 164)::
.go (.move (tm 10)) (P 165)::
.go (.move (tm 6)) (P 166)::
.go (.indexAddr none 1 (tm 165) (tm 166)) (P 167)::
.go (.load1 (tm 167)) (P 168)::
.go (.move (tm 10)) (P 169)::
.go (.move (tm 5)) (P 170)::
.go (.indexAddr none 1 (tm 169) (tm 170)) (P 171)::
.go (.load1 (tm 171)) (P 172)::
.go (.bin .add 3 (tm 168) (tm 172)) (P 173)::
.go (.bin .eql 3 (tm 164) (tm 173)) (P 174)::
.go (.move (tm 174)) (P 175)::
.gd (P 175) true (.move (tm 17)) (P 176)::
.gd (P 175) true (.move (tm 6)) (P 177)::
.gd (P 175) true (.indexAddr none 2 (tm 176) (tm 177)) (P 178)::
.gd (P 175) true (.fieldAddr 0 (tm 178)) (P 179)::
.gd (P 175) true (.load1 (tm 179)) (P 180)::
.gd (P 175) true (.move (tm 15)) (P 181)::
.gd (P 175) true (.move (tm 6)) (P 182)::
.gd (P 175) true (.indexAddr none 2 (tm 181) (tm 182)) (P 183)::
.gd (P 175) true (.fieldAddr 0 (tm 183)) (P 184)::
.gd (P 175) true (.load1 (tm 184)) (P 185)::
.gd (P 175) true (.move (tm 15)) (P 186)::
.gd (P 175) true (.move (tm 5)) (P 187)::
.gd (P 175) true (.indexAddr none 2 (tm 186) (tm 187)) (P 188)::
.gd (P 175) true (.fieldAddr 0 (tm 188)) (P 189)::
.gd (P 175) true (.load1 (tm 189)) (P 190)::
.gd (P 175) true (.bin .add 3 (tm 185) (tm 190)) (P 191)::
.gd (P 175) true (.bin .geq 3 (tm 180) (tm 191)) (P 192)::
.go (.pick (tm 175) (tm 192) (.con (.bool false))) (P 193)::
.go (.move (tm 193)) (P 194)::
.gd (P 194) true (.move (tm 17)) (P 195)::
.gd (P 194) true (.move (tm 6)) (P 196)::
.gd (P 194) true (.indexAddr none 2 (tm 195) (tm 196)) (P 197)::
.gd (P 194) true (.fieldAddr 1 (tm 197)) (P 198)::
.gd (P 194) true (.load1 (tm 198)) (P 199)::
.gd (P 194) true (.move (tm 15)) (P 200)::
.gd (P 194) true (.move (tm 6)) (P 201)::
.gd (P 194) true (.indexAddr none 2 (tm 200) (tm 201)) (P 202)::
.gd (P 194) true (.fieldAddr 1 (tm 202)) (P 203)::
.gd (P 194) true (.load1 (tm 203)) (P 204)::
.gd (P 194) true (.move (tm 15)) (P 205)::
.gd (P 194) true (.move (tm 5)) (P 206)::
.gd (P 194) true (.indexAddr none 2 (tm 205) (tm 206)) (P 207)::
.gd (P 194) true (.fieldAddr 1 (tm 207)) (P 208)::
.gd (P 194) true (.load1 (tm 208)) (P 209)::
.gd (P 194) true (.bin .add 3 (tm 204) (tm 209)) (P 210)::
.gd (P 194) true (.bin .leq 3 (tm 199) (tm 210)) (P 211)::
.go (.pick (tm 194) (tm 211) (.con (.bool false))) (P 212)::
.go (.move (tm 212)) (P 213)::
.gd (P 213) true (.call (.con (.func (.func 17) ⟨[]⟩ ⟨[]⟩)) []) (P 214)::
.go (.pick (tm 213) (tm 214) (.con (.bool false))) (P 215)::
.go (.move (tm 215)) (P 4)::
[]) [.ok,.ok,.ok,.ok,.ok,.ok,.ok,.ok,.ok,.ok,.ok,.ok,.ok,.ok,.ok,.ok,.ok,.ok,.ok,.ok,.ok,.ok,.ok,.ok,.ok,.ok,.ok,.ok,.ok,.ok,.ok,.ok,.ok,.ok,.ok,.ok,.ok,.ok,.ok,.ok,.ok,.ok,.ok,.ok,.ok,.ok,.ok,.ok,.ok,.ok,.ok,.ok,.ok,.ok,.ok,.ok]) .ret)))))))))))))))
theorem de11 : @compF Try.prog (Gl.none Try.prog) Try.f11 2=.mk d11 (mkTT 216) [(P 0),(P 1)] [.tmp (P 4)]:=by kernel_rfl
theorem dg11 : Try.prog.funcs[11]?=some Try.f11:=Try.func11
theorem do11 : okF Try.prog Try.f11=true:=by kernel_rfl
theorem s5_mer {m c : Nat} {s : St} (h : s.new=(m : Int)) : (s5 s).set 1 (I c)=s5 (mer m c s):=by unfold mer;rw[if_pos h];rfl
theorem mer_ne {m c : Nat} {s : St} (h : ¬ s.new=(m : Int)) : mer m c s=s:=by unfold mer;rw[if_neg h]
theorem nws_at {M : BM} {n q : Nat} (h : q<(nws M n).length) : (nws M n)[q]=(nwL M q,nwH M q):=by simp[nws]
theorem nw_bd {M : BM} (G : VM M) {q : Nat} : (-1000000≤nwL M q∧nwL M q≤1000000)∧-1000000≤nwH M q∧nwH M q≤1000000:=by
 have:=nk_bd G (q:=q) M.O.length (Nat.le_refl _)
 have e1 : nkL M q M.O.length=nwL M q:=rfl
 have e2 : nkH M q M.O.length=nwH M q:=rfl
 have:=G.o4
 omega
theorem f11_all {H : Heap} {o s j : Value} {M : BM} {b : Int} (h : MV H o s j M) (hb : 0≤b∧b≤255) : F Try.prog 11 ⟨[.agg ⟨mc o s j M.N⟩,.int .u8 b]⟩ H (fun w _=>w=.bool true):=by
 have hl:=h.s.len
 have hlo:=h.o.len
 obtain⟨po,no,co,rfl⟩:=h.o.s.isS
 obtain⟨ps,ns,cs,rfl⟩:=h.s.isS
 obtain⟨pj,nj,cj,rfl⟩:=h.j.isS
 refine F.entryL rfl dg11 do11 de11 rfl (by kernel_rfl) ?_
 simp only[sets]
 refine V.re [(0,.agg ⟨mc (.slice po no co) (.slice ps ns cs) (.slice pj nj cj) M.N⟩),(1,.int .u8 b)] (N:=216) zE zY ?_
 intro t hF hA
 simp only[Kn,and_true] at hA
 refine zS ?_
 refine V.l0 ?_
 refine V.heap (fun X=>Grow H X∧Bx X H.next (mc (.slice po no co) (.slice ps ns cs) (.slice pj nj cj) M.N) 26) ⟨?_,?_⟩ ?_
 ·exact zW
 ·exact zB
 rintro H1 ⟨g1,b1⟩
 refine zS ?_
 refine V.run ?_
 have zf:=b1.2
 refine VI.sz 1 ?_
 simp only[ds]
 refine VI.callA rfl (f49_ok (h.grow g1)) zA (fun H3 g3=>?_)
 have b3:=b1.grow g3
 have g13:=g1.trans g3
 have zf:=b3.2
 refine VI.lz ?_
 refine zS ?_
 refine V.condP zP (fun hno=>?_) (fun hno=>?_)
 ·refine zS ?_
  refine V.run ?_
  refine VI.callA rfl (f17_ok _) zA (fun H4 g4=>?_)
  refine VI.l0 ?_
  refine zS ?_
  refine V.ret (V.rets rfl (Lv.retF (by simp +contextual (disch:=first|omega|simp only[nx];omega) only[D1,cells_alloc_at,cells_alloc_ne,cells_set_at,cells_set_ne,yres,yres1,yresL,qA,qB,qC,D5,hF,hA,↓reduceIte,qD,qE];rfl) ?_))
  rfl
 have hwh : whole M:=by
  apply Decidable.by_contra
  intro hh
  exact hno (.inl hh)
 have hN2 : 2≤M.N:=by
  apply Decidable.by_contra
  intro hh
  exact hno (.inr (by omega))
 clear hno
 obtain⟨hth,hbe⟩:=hwh
 obtain⟨hflt,hlie⟩:=bE_0.1 hbe
 have G:=bE_VM hbe
 have hS8:=G.s8
 have hO4:=G.o4
 have hS0:=G.s0
 have hN4:=G.n
 obtain⟨m,hNm⟩ : ∃ m : Nat,M.N=(m : Int)+1:=⟨(M.N-1).toNat,by omega⟩
 have hm1 : M.N-1=(m : Int):=by omega
 have hm : 1≤m:=by omega
 have hm0 : m≠0:=by omega
 have hnz : ¬ (m : Int)=0:=by omega
 obtain⟨c,hc⟩ : ∃ c : Nat,b.tmod (m : Int)=(c : Int):=⟨(b.tmod m).toNat,by have:=Int.tmod_nonneg (m : Int) hb.1;omega⟩
 have hcm : c<m:=by have:=Int.tmod_lt_of_pos b (show (0 : Int)<m by omega);omega
 have hbs:=me_bE hbe hNm hm hcm
 have G':=bE_VM hbs
 have n3:=g13.1
 have nb3:=b3.1
 refine zS ?_
 have zf:=And.intro b3.2<|@hm1
 refine V.lz ?_
 refine zS ?_
 have zf:=And.intro @hnz<|@hc
 refine V.lz ?_
 refine zS ?_
 have zf:=b3.2
 refine V.lz ?_
 refine V.heap (fun X=>Grow H X∧Bx X H.next (mc (.slice po no co) (.slice ps ns cs) (.slice pj nj cj) M.N) 26∧Bx X H3.next (mc (.slice po no co) (.slice ps ns cs) (.slice pj nj cj) M.N) 26) ⟨?_,?_,?_⟩ ?_
 ·exact (g13.alloc _).set (by omega) _
 ·exact (b3.alloc _).set (by omega) _
 ·exact Bx.put (by simp only[Heap.next_alloc];omega) _ _
 rintro H3' ⟨g4,b4,c4⟩
 refine zS ?_
 have zf:=And.intro b4.2<|c4.2
 refine V.lz ?_
 refine V.heap (fun X=>Grow H X∧Bx X H.next (mc (.slice po no co) (.slice ps ns cs) (.slice pj nj cj) M.N) 26∧Bx X H3.next (mc (.slice po no co) (.slice ps ns cs) (.slice pj nj cj) (m : Int)) 26) ⟨?_,?_,?_⟩ ?_
 ·exact g4.set (by omega) _
 ·exact b4.set (by omega) _
 ·exact Bx.put c4.1 _ _
 rintro H4 ⟨g4,b4,c4⟩
 have n4:=c4.1
 obtain⟨u,H5,a1,a2,a3,a4⟩:=OwW.append (H0:=H4) (H:=H4.alloc (.cells ⟨[]⟩ 54 true)) (w:=5) (e:=54) (bytes:=40) (s:=.slice (some ⟨H4.next,0,none⟩) 0 0) (l:=[]) (x:=.slice ps ns cs) (r:=M.S.map s5) (by decide) ((Grow.refl H4).alloc _) (.inr ⟨H4.next,Nat.le_refl _,Nat.lt_succ_self _,rfl,cells_alloc _ _ _ _⟩) (by simp) ((h.s.grow (g4.trans ((Grow.refl H4).alloc _))).s) s5_w (by
  rw[List.all_flatten,List.all_map]
  exact List.all_eq_true.2 (fun x _=>rfl)) (by simp;omega) (by simp;omega)
 rw[List.nil_append] at a2
 rcases a2 with⟨_,a2⟩|⟨bk,k1,k2,rfl,k4⟩
 ·have : M.S=[]:=by simpa using a2
  rw[this] at hS0
  exact absurd hS0 (by simp)
 rw[List.length_map] at a1
 have g45:=a3
 have b5:=b4.grow g45
 have c5:=c4.grow g45
 refine zS ?_
 have zf:=And.intro b4.2<|And.intro @a1<|And.intro b5.2<|c5.2
 refine V.lz ?_
 refine V.heap (fun X=>Grow H X∧Bx X H.next (mc (.slice po no co) (.slice ps ns cs) (.slice pj nj cj) M.N) 26∧Bx X H3.next (mc (.slice po no co) (.slice (some ⟨bk,0,none⟩) M.S.length M.S.length) (.slice pj nj cj) (m : Int)) 26∧Bx X bk ((mpS (mer m c) 0 M.S).map s5).flatten 54) ⟨?_,?_,?_,?_⟩ ?_
 ·exact (g4.trans g45).set (by omega) _
 ·exact b5.set (by omega) _
 ·exact Bx.put c5.1 _ _
 ·rw[mpS_0]
  exact Bx.set (j:=H3.next) ⟨k2,k4⟩ (by omega) _
 rintro H6 ⟨g6,b6,c6,d6⟩
 refine zS ?_
 refine V.l0 ?_
 refine zS ?_
 refine V.loop (fun z t mm X=>∃ (k : Nat),k≤M.S.length∧z=M.S.length-k∧mm=[]∧Grow H X∧Bx X H.next (mc (.slice po no co) (.slice ps ns cs) (.slice pj nj cj) M.N) 26∧Bx X H3.next (mc (.slice po no co) (.slice (some ⟨bk,0,none⟩) M.S.length M.S.length) (.slice pj nj cj) (m : Int)) 26∧Bx X bk ((mpS (mer m c) k M.S).map s5).flatten 54∧Full 216 t∧Kn [(2,PT H.next),(5,I m),(6,I c),(7,PT H3.next),(8,I k)] t) M.S.length ?_ ?_
 ·exact⟨0,by omega,by omega,rfl,g6,b6,c6,d6,zF,zK⟩
 clear hF hA g6 b6 c6 d6
 rintro z t mm X ⟨k,hk,rfl,rfl,gX,bX,cX,dX,hF,hA⟩
 simp only[Kn,and_true] at hA
 have hbl : ∀ X,ylen 0 X (.slice (some ⟨bk,0,none⟩) M.S.length M.S.length)=some (I M.S.length):=fun _=>rfl
 refine zS ?_
 have zf:=And.intro cX.2<|@hbl
 refine V.lz ?_
 refine zS ?_
 refine V.condP zP (fun hlt=>?_) (fun hlt=>?_)
 ·have hlt' : k<M.S.length:=by omega
  have ix:=own_idx5 (y:=bk) (n:=M.S.length) (c:=M.S.length) hlt'
  obtain⟨st,hst⟩ : ∃ st,st=M.S[k]:=⟨_,rfl⟩
  have hlk : k<((mpS (mer m c) k M.S).map s5).length:=by rw[List.length_map,mpS_len];exact hlt'
  have erow : ((mpS (mer m c) k M.S).map s5)[k]=s5 st:=by rw[List.getElem_map,mpS_at hlt',hst]
  have e1 : ((mpS (mer m c) k M.S).map s5).flatten[k*5+1]?=some (I st.new):=by
   rw[flat_get5 s5_w hlk (by decide),erow];rfl
  have e3 : k*5+1<((mpS (mer m c) k M.S).map s5).flatten.length:=by
   rw[flat_len5 s5_w,List.length_map,mpS_len];omega
  have nd:=dX.1
  refine zS ?_
  have zf:=And.intro cX.2<|And.intro @ix<|And.intro dX.2<|@e1
  refine V.lz ?_
  refine zS ?_
  refine V.condP zP (fun hq=>?_) (fun hq=>?_)
  ·have e2 : ((mpS (mer m c) k M.S).map s5).flatten.set (k*5+1) (I c)=((mpS (mer m c) (k+1) M.S).map s5).flatten:=by
    rw[flat_set1 (by decide) hlk s5_w,erow,s5_mer hq,← mpS_1 hlt',List.map_set,hst]
   refine zS ?_
   have zf:=And.intro cX.2<|And.intro @ix<|And.intro dX.2<|And.intro @e2<|@e3
   refine V.lz ?_
   refine zS ?_
   refine V.l0 ?_
   refine V.nil (Or.inl ⟨rfl,M.S.length-(k+1),by omega,?_⟩)
   refine⟨k+1,hlt',rfl,rfl,gX.set (by omega) _,bX.set (by omega) _,cX.set (by omega) _,Bx.put dX.1 _ _,zF,zK⟩
  ·have e2 : mpS (mer m c) (k+1) M.S=mpS (mer m c) k M.S:=by
    rw[← mpS_1 hlt',mer_ne (by rw[← hst];exact hq)]
    apply List.ext_getElem
    ·simp
    ·intro i h1 h2
     rw[List.getElem_set]
     split
     ·rename_i e;subst e;rw[mpS_at hlt']
     ·rfl
   refine zS ?_
   refine V.l0 ?_
   refine V.nil (Or.inl ⟨rfl,M.S.length-(k+1),by omega,?_⟩)
   refine⟨k+1,hlt',rfl,rfl,gX,bX,cX,?_,zF,zK⟩
   rw[e2];exact dX
 obtain rfl : k=M.S.length:=by omega
 rw[mpS_end] at dX
 have mS : SS X (.slice (some ⟨bk,0,none⟩) M.S.length M.S.length) (meM m c M).S:=⟨by
  have q : OwW 5 H X 54 (.slice (some ⟨bk,0,none⟩) M.S.length M.S.length) ((meM m c M).S.map s5):=.inr ⟨bk,by omega,dX.1,by rw[List.length_map,me_len],dX.2⟩
  exact q.sw s5_w⟩
 have mM : MV X (.slice po no co) (.slice (some ⟨bk,0,none⟩) M.S.length M.S.length) (.slice pj nj cj) (meM m c M):=⟨h.o.grow gX,mS,h.j.grow gX⟩
 have thM : thin (meM m c M):=by
  unfold thin at hth ⊢
  rw[me_len]
  exact hth
 refine V.exit ?_
 refine zX ?_
 refine V.nil (Or.inr ⟨by simp,?_⟩)
 refine zX ?_
 refine zS ?_
 refine V.run ?_
 have zf:=bX.2
 refine VI.sz 1 ?_
 simp only[ds]
 refine VI.callR zA (f19_ok (h.grow gX) hth) zA (fun w7 H7 ⟨g7,o7,s7,j7,hw7,m7⟩=>?_)
 subst hw7
 refine VI.callR zA (f20_ok m7) zA (fun w8 H8 ⟨g8,q8⟩=>?_)
 rcases q8 with⟨k,_⟩|⟨_,_,y1,y2,hw8,_,r2⟩
 ·exact absurd hflt k
 subst hw8
 have i2:=r2.s.isS
 obtain⟨p2,n2',c2,rfl⟩:=i2
 have eNt : M.N.toNat=m+1:=by omega
 rw[eNt] at r2
 have b8:=(bX.grow g7).grow g8
 have c8:=(cX.grow g7).grow g8
 have gX8:=g7.trans g8
 have gHX8:=gX.trans gX8
 have mM8:=mM.grow gX8
 have f19b:=f19_ok mM8 thM
 refine VI.l0 ?_
 refine zS ?_
 refine V.run ?_
 have zf:=c8.2
 refine VI.sz 1 ?_
 simp only[ds]
 refine VI.callR zA (f19b) zA (fun w9 H9 ⟨g9,o9,s9,j9,hw9,m9⟩=>?_)
 subst hw9
 refine VI.callR zA (f20_ok m9) zA (fun wa Ha ⟨ga,qa⟩=>?_)
 rcases qa with⟨k,_⟩|⟨_,_,y3,y4,hwa,_,r4⟩
 ·exact absurd (bE_0.1 hbs).1 k
 subst hwa
 have i4:=r4.s.isS
 obtain⟨p4,n4',c4,rfl⟩:=i4
 have eNm : (meM m c M).N.toNat=m:=Int.toNat_natCast _
 rw[eNm,me_len,me_shr] at r4
 have g8a:=g9.trans ga
 have ba:=b8.grow g8a
 have ca:=c8.grow g8a
 have gHa:=gHX8.trans g8a
 have mMa:=mM8.grow g8a
 have r2:=r2.grow g8a
 refine VI.l0 ?_
 refine zS ?_
 refine V.run ?_
 have zf:=ba.2
 refine VI.sz 1 ?_
 simp only[ds]
 refine VI.callR zA (f19_ok (h.grow gHa) hth) zA (fun wb Hb ⟨gb,ob,sb,jb,hwb,mb⟩=>?_)
 subst hwb
 refine VI.callR zA (f27_ok mb) zA (fun wc Hc ⟨gc,qc⟩=>?_)
 rcases qc with⟨k,_⟩|⟨_,y5,hwc,r5⟩
 ·exact absurd hbe k
 subst hwc
 have i5:=r5.isS
 obtain⟨p5,n5',c5,rfl⟩:=i5
 rw[eNt] at r5
 have gac:=gb.trans gc
 have bc:=ba.grow gac
 have cc:=ca.grow gac
 have gHc:=gHa.trans gac
 have mMc:=mMa.grow gac
 have r2:=r2.grow gac
 have r4:=r4.grow gac
 have f19c:=f19_ok mMc thM
 refine VI.l0 ?_
 refine zS ?_
 refine V.run ?_
 have zf:=cc.2
 refine VI.sz 1 ?_
 simp only[ds]
 refine VI.callR zA (f19c) zA (fun wd Hd ⟨gd,od,sd,jd,hwd,md⟩=>?_)
 subst hwd
 refine VI.callR zA (f27_ok md) zA (fun we He ⟨ge,qe⟩=>?_)
 rcases qe with⟨k,_⟩|⟨_,y6,hwe,r6⟩
 ·exact absurd hbs k
 subst hwe
 have i6:=r6.isS
 obtain⟨p6,n6',c6,rfl⟩:=i6
 rw[eNm] at r6
 have gce:=gd.trans ge
 have be:=bc.grow gce
 have r2:=r2.grow gce
 have r4:=r4.grow gce
 have r5:=r5.grow gce
 have l2:=r2.len
 have l4:=r4.len
 have l5:=r5.len
 have l6:=r6.len
 rw[fl_len] at l2 l4
 rw[nws_len] at l5 l6
 have hNe : M.N=((m+1 : Nat) : Int):=by omega
 refine VI.l0 ?_
 refine zS ?_
 have zf:=And.intro @l2<|And.intro @l4<|And.intro @l5<|And.intro @l6<|And.intro be.2<|@hNe
 refine V.lz ?_
 refine zS ?_
 refine V.condP zP (fun hbad=>?_) (fun hbad=>?_)
 ·exact absurd hbad (by simp)
 refine zS ?_
 refine V.l0 ?_
 refine zS ?_
 refine V.loop (fun z t mm X=>∃ (q : Nat),q≤m∧z=m-q∧mm=[]∧Grow He X∧Full 216 t∧Kn [(2,PT H.next),(5,I m),(6,I c),(10,.slice p2 n2' c2),(13,.slice p4 n4' c4),(15,.slice p5 n5' c5),(17,.slice p6 n6' c6),(19,I q)] t) m ?_ ?_
 ·exact⟨0,by omega,by omega,rfl,.refl _,zF,zK⟩
 clear hF hA
 rintro z t mm X ⟨q,hq,rfl,rfl,gXe,hF,hA⟩
 simp only[Kn,and_true] at hA
 refine zS ?_
 refine V.l0 ?_
 refine zS ?_
 refine V.condP zP (fun hlt=>?_) (fun hlt=>?_)
 ·have hlt' : q<m:=by omega
  by_cases e : q=c
  ·have hqT : ((q : Int)=(c : Int))=True:=eq_true (by omega)
   refine zS ?_
   refine V.lineD' (by simp +contextual (disch:=first|omega|simp only[nx];omega) only[D4,qF,qG,qA,qB,qC,D5,hF,hA,↓reduceIte,qD,qE,hqT,not_true_eq_false];with_reducible rfl) ?_ ?_ rfl ?_
   ·exact zM
   ·simp only[dcAll,dcOk,wantD,List.cons_append,List.nil_append,true_and,and_true]
   refine zS ?_
   refine V.condF zA ?_
   refine zS ?_
   refine V.l0 ?_
   refine V.nil (Or.inl ⟨rfl,m-(q+1),by omega,?_⟩)
   exact⟨q+1,hlt',rfl,rfl,gXe,zF,zK⟩
  ·have hqF : ((q : Int)=(c : Int))=False:=eq_false (by omega)
   obtain⟨x1,x2,x3⟩:=r2.at (k:=q) (by rw[fl_len];omega)
   obtain⟨z1,z2,z3⟩:=r4.at (k:=q) (by rw[fl_len];exact hlt')
   have x4:=x3 X gXe
   have z4:=z3 X gXe
   rw[fl_at] at x4 z4
   rw[me_sF hm0 hlt' e] at z4
   obtain⟨i1,o1,u1,u2⟩:=r5.at (k:=q) (by rw[nws_len];omega)
   obtain⟨i2,o2,v1,v2⟩:=r6.at (k:=q) (by rw[nws_len];exact hlt')
   have u3:=(u2 X gXe).1
   have v3:=(v2 X gXe).1
   rw[nws_at] at u3 v3
   have hnw:=me_nw (M:=M) (c:=c) hm0 hlt' e
   dsimp only at u3 v3
   rw[hnw.1,hnw.2] at v3
   have nb:=nw_bd G (q:=q)
   obtain⟨a,ha⟩ : ∃ a,a=nwL M q:=⟨_,rfl⟩
   obtain⟨d,hd⟩ : ∃ d,d=nwH M q:=⟨_,rfl⟩
   obtain⟨f,hf⟩ : ∃ f,f=sF M.S.length (newF M) (shr M) (q : Int):=⟨_,rfl⟩
   rw[← hf] at x4 z4
   rw[← ha,← hd] at u3 v3 nb
   have hnq:=neq62 (a:=a) (b:=d) (c:=a) (d:=d) nb.1 nb.2 nb.1 nb.2
   rw[decide_eq_false (fun k=>k ⟨rfl,rfl⟩)] at hnq
   have hff : (f=f)=True:=eq_self _
   refine zS ?_
   have zf:=And.intro @hqF<|And.intro @x2<|And.intro @x4<|And.intro @z2<|And.intro @z4<|And.intro @hff<|And.intro @u1<|And.intro @u3<|And.intro @v1<|And.intro @v3<|@hnq
   refine V.dz ?_ ?_ rfl ?_
   ·exact zM
   ·simp only[dcAll,dcOk,wantD,List.cons_append,List.nil_append,true_and,and_true]
   refine zS ?_
   refine V.condF zA ?_
   refine zS ?_
   refine V.l0 ?_
   refine V.nil (Or.inl ⟨rfl,m-(q+1),by omega,?_⟩)
   exact⟨q+1,hlt',rfl,rfl,gXe,zF,zK⟩
 ·obtain rfl : q=m:=by omega
  obtain⟨xc1,xc2,xc3⟩:=r2.at (k:=c) (by rw[fl_len];omega)
  obtain⟨xm1,xm2,xm3⟩:=r2.at (k:=q) (by rw[fl_len];omega)
  obtain⟨z1,z2,z3⟩:=r4.at (k:=c) (by rw[fl_len];exact hcm)
  have xc4:=xc3 X gXe
  have xm4:=xm3 X gXe
  have z4:=z3 X gXe
  rw[fl_at] at xc4 xm4 z4
  obtain⟨ic,oc,uc1,uc2⟩:=r5.at (k:=c) (by rw[nws_len];omega)
  obtain⟨im,om,um1,um2⟩:=r5.at (k:=q) (by rw[nws_len];omega)
  obtain⟨iz,oz,uz1,uz2⟩:=r6.at (k:=c) (by rw[nws_len];exact hcm)
  obtain⟨_,uc3,uc4⟩:=uc2 X gXe
  obtain⟨_,um3,um4⟩:=um2 X gXe
  obtain⟨_,uz3,uz4⟩:=uz2 X gXe
  rw[nws_at] at uc3 uc4 um3 um4 uz3 uz4
  dsimp only at uc3 uc4 um3 um4 uz3 uz4
  have bc':=nw_bd G (q:=c)
  have bm':=nw_bd G (q:=q)
  have bz':=nw_bd G' (q:=c)
  have hnw:=me_nwc G hlie hm0 hcm
  have hsf:=me_sFc (M:=M) hm0 hcm
  have bs1:=sF_bd (n:=M.S.length) (g:=newF M) (f:=shr M) (k:=(c : Int)) (c:=10000) (by omega) (fun i hi=>G.shr_bd hi)
  have bs2:=sF_bd (n:=M.S.length) (g:=newF M) (f:=shr M) (k:=(q : Int)) (c:=10000) (by omega) (fun i hi=>G.shr_bd hi)
  obtain⟨f1,hf1⟩ : ∃ f,f=sF M.S.length (newF M) (shr M) (c : Int):=⟨_,rfl⟩
  obtain⟨f2,hf2⟩ : ∃ f,f=sF M.S.length (newF M) (shr M) (q : Int):=⟨_,rfl⟩
  rw[hsf] at z4
  rw[← hf1] at xc4 z4 bs1
  rw[← hf2] at xm4 z4 bs2
  obtain⟨L1,hL1⟩ : ∃ a,a=nwL M c:=⟨_,rfl⟩
  obtain⟨L2,hL2⟩ : ∃ a,a=nwL M q:=⟨_,rfl⟩
  obtain⟨L3,hL3⟩ : ∃ a,a=nwL (meM q c M) c:=⟨_,rfl⟩
  obtain⟨T1,hT1⟩ : ∃ a,a=nwH M c:=⟨_,rfl⟩
  obtain⟨T2,hT2⟩ : ∃ a,a=nwH M q:=⟨_,rfl⟩
  obtain⟨T3,hT3⟩ : ∃ a,a=nwH (meM q c M) c:=⟨_,rfl⟩
  rw[← hL1,← hL2,← hL3,← hT1,← hT2,← hT3] at hnw
  rw[← hL1] at uc3
  rw[← hL2] at um3
  rw[← hL3] at uz3
  rw[← hT1] at uc4
  rw[← hT2] at um4
  rw[← hT3] at uz4
  rw[← hL1,← hT1] at bc'
  rw[← hL2,← hT2] at bm'
  rw[← hL3,← hT3] at bz'
  have t1 : (f1+f2=f1+f2)=True:=eq_self _
  have t2 : (L1+L2≤L3)=True:=eq_true hnw.1
  have t3 : (T3≤T1+T2)=True:=eq_true hnw.2
  refine V.exit ?_
  refine zX ?_
  refine V.nil (Or.inr ⟨by simp,?_⟩)
  refine zX ?_
  refine zS ?_
  refine V.draw ?_
  have zf:=And.intro @xc2<|And.intro @xc4<|And.intro @xm2<|And.intro @xm4<|And.intro @z2<|And.intro @z4<|And.intro @uc1<|And.intro @uc3<|And.intro @uc4<|And.intro @um1<|And.intro @um3<|And.intro @um4<|And.intro @uz1<|And.intro @uz3<|And.intro @uz4<|And.intro @t1<|And.intro @t2<|@t3
  refine VD.nz 9 ?_
  simp only[ds]
  have zf:=And.intro @xc2<|And.intro @xc4<|And.intro @xm2<|And.intro @xm4<|And.intro @z2<|And.intro @z4<|And.intro @uc1<|And.intro @uc3<|And.intro @uc4<|And.intro @um1<|And.intro @um3<|And.intro @um4<|And.intro @uz1<|And.intro @uz3<|And.intro @uz4<|And.intro @t1<|And.intro @t2<|@t3
  refine VD.nz 9 ?_
  simp only[ds]
  have zf:=And.intro @xc2<|And.intro @xc4<|And.intro @xm2<|And.intro @xm4<|And.intro @z2<|And.intro @z4<|And.intro @uc1<|And.intro @uc3<|And.intro @uc4<|And.intro @um1<|And.intro @um3<|And.intro @um4<|And.intro @uz1<|And.intro @uz3<|And.intro @uz4<|And.intro @t1<|And.intro @t2<|@t3
  refine VD.nz 9 ?_
  simp only[ds]
  have zf:=And.intro @xc2<|And.intro @xc4<|And.intro @xm2<|And.intro @xm4<|And.intro @z2<|And.intro @z4<|And.intro @uc1<|And.intro @uc3<|And.intro @uc4<|And.intro @um1<|And.intro @um3<|And.intro @um4<|And.intro @uz1<|And.intro @uz3<|And.intro @uz4<|And.intro @t1<|And.intro @t2<|@t3
  refine VD.nz 9 ?_
  simp only[ds]
  have zf:=And.intro @xc2<|And.intro @xc4<|And.intro @xm2<|And.intro @xm4<|And.intro @z2<|And.intro @z4<|And.intro @uc1<|And.intro @uc3<|And.intro @uc4<|And.intro @um1<|And.intro @um3<|And.intro @um4<|And.intro @uz1<|And.intro @uz3<|And.intro @uz4<|And.intro @t1<|And.intro @t2<|@t3
  refine VD.nz 9 ?_
  simp only[ds]
  have zf:=And.intro @xc2<|And.intro @xc4<|And.intro @xm2<|And.intro @xm4<|And.intro @z2<|And.intro @z4<|And.intro @uc1<|And.intro @uc3<|And.intro @uc4<|And.intro @um1<|And.intro @um3<|And.intro @um4<|And.intro @uz1<|And.intro @uz3<|And.intro @uz4<|And.intro @t1<|And.intro @t2<|@t3
  refine VD.nz 8 ?_
  simp only[ds]
  refine VD.callAT zG zA (f17_ok _) zA (fun Y gY=>?_)
  have mY:=gY.1
  refine VD.d0 ?_ ?_ rfl ?_
  ·exact zM
  ·simp only[dcAll,dcOk,wantD,List.cons_append,List.nil_append,true_and,and_true]
  refine zS ?_
  refine V.ret (V.rets rfl (Lv.retF (by simp +contextual (disch:=first|omega|simp only[nx];omega) only[D1,cells_alloc_at,cells_alloc_ne,cells_set_at,cells_set_ne,yres,yres1,yresL,qA,qB,qC,D5,hF,hA,↓reduceIte,qD,qE];rfl) ?_))
  rfl
end Go.Xe.TBX
/- Rules of reasoning over the executable reading of the model's code (part Z16): arguments, by what their types allow. Conditions: none; for every program. -/
namespace Go.Xe
open Go Go.RowKit Go.ChangeShapes Go.WideShapes
theorem okWide_agg {P : Program} {w : World} {r : Reach} {base : Nat} {t : TypeId} {v : Value} {fs : Array Field} (ht : P.underlying t=some (.struct fs)) (h : Value.okWide P w r base t v) : ∃ cs,v=.agg cs:=by
 unfold Value.okWide at h
 rw[ht] at h
 obtain⟨cs,h,_⟩:=h
 exact⟨cs,h⟩
end Go.Xe
/- The end of a call that has changed nothing of what was there: what a statement asks of the memory behind it. Conditions: as post_of_same's, but that new memory may be frozen. -/
namespace Go.Xe
open Go Go.RowKit Go.ChangeShapes Go.WideShapes
variable {H : Type} {enc : TypeId×Value→H} {P : Program}
theorem post_of_old {f : Func} {s : ChangeSpec} {apart fresh handsOn again : Bool} {W W' : World} {args : Array Value} {v : Value} {ds gs : List (DataW H)} {before pa pv : List MemPlace}
  (hW : DataW.Whole enc P f.params.toList s.vars apart W args.toList ds gs before)
  (hres : ∀ (b : Nat) (sp : Nat→Bool) (hd : Bool),DataW.TrodAll enc P W' b sp hd f.resultTypes.toList (v.resultList f.resultTypes.size) (s.fn H (ds++gs)).results [])
  (hargs : ∀ sp : Nat→Bool,(∀ p∈before,sp p.block=true)→DataW.TrodAll enc P W' 0 sp true f.params.toList args.toList (s.fn H (ds++gs)).args pa)
  (hvars : ∀ sp : Nat→Bool,(∀ p∈before,sp p.block=true)→DataW.TrodVars enc P W' sp s.vars (s.fn H (ds++gs)).vars pv)
  (hps : before=pa++pv) (hk : W.keptBut W' (·∈before)) (hfz : ∀ a : Addr,a.block<W.heap.size→W'.frozen? a=W.frozen? a)
  (hok : ∀ (j : Nat) (t : TypeId) (r : Value),f.resultTypes[j]?=some t→(v.resultList f.resultTypes.size)[j]?=some r→Value.okWide P W' .any 0 t r) :
  s.post enc P f apart fresh handsOn again W args v W':=by
 have old : ∀ p∈before,p.block<W.heap.size:=fun p hp=>hW.lt p hp
 have hold : ∀ p∈before,(fun b=>decide (b<W.heap.size)) p.block=true:=fun p hp=>by simpa using old p hp
 subst hps
 refine⟨ds,gs,_,[],pa,pv,hW,hres _ _ _,hargs _ hold,hvars _ hold,World.keptBut_mono (fun p hp=>⟨hp,.inr (List.mem_append.1 hp)⟩) hk,fun _=>?_⟩
 obtain⟨_,_,_,_,_,hz,hn⟩:=hW
 refine⟨hok,_,_,([]++pa)++pv,⟨[]++pa,pv,trodAll_append (hargs _ (fun _ _=>rfl)) (hres _ _ _),hvars _ (fun _ _=>rfl),rfl,?_,?_⟩,?_⟩
 ·intro b off hp
  have hp' : MemPlace.cell b off∈pa++pv:=by simpa using hp
  rw[hfz _ (old _ hp')]
  exact hz b off hp'
 ·intro ha
  simpa using hn ha
 ·intro p hp _
  simpa using hp
end Go.Xe
