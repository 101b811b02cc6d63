/- What the functions of the layer flow come to: what is valid. Conditions: none. -/
import Derived.Test.YtbbdafmehaohkaaTFX
-- MOD TF
namespace Go.Xe.TFX
open Go Go.Xe Go.Proofs
open Nat renaming reduceLeDiff → qA, reduceSub → qB, reduceAdd → qC, reduceEqDiff → qD, reduceLT → qE
open Int renaming reduceNegSucc → qF, reduceEq → qG
open Go.Xe.V renaming seq → sA, block → sB, scope → sC, skip → sD, close → sE
open Go.Xe renaming pth → P
open Go.Xe.Flw
set_option maxRecDepth 100000
set_option maxHeartbeats 3200000
set_option linter.unusedSimpArgs false
noncomputable def d18 : FCode:=(.seq (.run (.go (.box 25 (tm 0)) (P 1)::
.go (.move (.con (.bool false))) (P 2)::
[])) (.seq (.seq (.run (.go (.move (.con (.int .i64 (.ofNat 0)))) (P 3)::
[])) (.block 0 (.loop (.seq (.seq (.run (.go (.move (tm 3)) (P 4)::
.go (.fieldAddr 0 (tm 1)) (P 5)::
.go (.load1 (tm 5)) (P 6)::
.go (.len 0 (tm 6)) (P 7)::
.go (.bin .lss 3 (tm 4) (tm 7)) (P 8)::
.go (.move (tm 8)) (P 9)::
.gd (P 9) true (.move (tm 3)) (P 10)::
.gd (P 9) true (.bin .lss 3 (tm 10) (.con (.int .i64 (.ofNat 8)))) (P 11)::
.go (.pick (tm 9) (tm 11) (.con (.bool false))) (P 12)::
[])) (.cond (tm 12) .skip (.exit 0))) (.seq (.block 1 (.seq (.run (.go (.fieldAddr 0 (tm 1)) (P 15)::
.go (.load1 (tm 15)) (P 16)::
.go (.move (tm 3)) (P 17)::
.go (.indexAddr none 1 (tm 16) (tm 17)) (P 18)::
.go (.load1 (tm 18)) (P 19)::
.go (.len 0 (tm 19)) (P 20)::
.go (.bin .gtr 3 (tm 20) (.con (.int .i64 (.ofNat 7)))) (P 21)::
[])) (.cond (tm 21) (.seq (.run (.go (.move (.con (.bool false))) (P 2)::
[])) .ret) .skip))) (.run (.go (.move (tm 3)) (P 13)::
.go (.bin .add 3 (tm 13) (.con (.int .i64 (.ofNat 1)))) (P 14)::
.go (.move (tm 14)) (P 3)::
[]))))))) (.seq (.run (.go (.fieldAddr 0 (tm 1)) (P 22)::
.go (.load1 (tm 22)) (P 23)::
.go (.len 0 (tm 23)) (P 24)::
.go (.bin .leq 3 (tm 24) (.con (.int .i64 (.ofNat 7)))) (P 25)::
.go (.move (tm 25)) (P 26)::
.gd (P 26) true (.fieldAddr 1 (tm 1)) (P 27)::
.gd (P 26) true (.load1 (tm 27)) (P 28)::
.gd (P 26) true (.len 0 (tm 28)) (P 29)::
.gd (P 26) true (.bin .leq 3 (tm 29) (.con (.int .i64 (.ofNat 7)))) (P 30)::
.go (.pick (tm 26) (tm 30) (.con (.bool false))) (P 31)::
.go (.move (tm 31)) (P 32)::
.gd (P 32) true (.fieldAddr 2 (tm 1)) (P 33)::
.gd (P 32) true (.load1 (tm 33)) (P 34)::
.gd (P 32) true (.len 0 (tm 34)) (P 35)::
.gd (P 32) true (.bin .leq 3 (tm 35) (.con (.int .i64 (.ofNat 7)))) (P 36)::
.go (.pick (tm 32) (tm 36) (.con (.bool false))) (P 37)::
.go (.move (tm 37)) (P 38)::
.gd (P 38) true (.fieldAddr 3 (tm 1)) (P 39)::
.gd (P 38) true (.load1 (tm 39)) (P 40)::
.gd (P 38) true (.len 0 (tm 40)) (P 41)::
.gd (P 38) true (.bin .leq 3 (tm 41) (.con (.int .i64 (.ofNat 7)))) (P 42)::
.go (.pick (tm 38) (tm 42) (.con (.bool false))) (P 43)::
.go (.move (tm 43)) (P 2)::
[])) .ret)))
theorem de18 : @compF Try.prog (Gl.none Try.prog) Try.f18 1=.mk d18 (mkTT 44) [(P 0)] [.tmp (P 2)]:=by kernel_rfl
theorem dg18 : Try.prog.funcs[18]?=some Try.f18:=Try.func18
theorem do18 : okF Try.prog Try.f18=true:=by kernel_rfl
noncomputable def d70 : FCode:=(.seq (.run (.go (.box 25 (tm 0)) (P 1)::
.go (.move (.con (.int .i64 (.ofNat 0)))) (P 2)::
[])) (.seq (.seq (.run (.go (.fieldAddr 0 (tm 1)) (P 8)::
.go (.load1 (tm 8)) (P 9)::
.go (.len 0 (tm 9)) (P 10)::
.go (.bin .gtr 3 (tm 10) (.con (.int .i64 (.ofNat 4)))) (P 11)::
.go (.move (tm 11)) (P 12)::
.gd (P 12) false (.loadN 4 (tm 1)) (P 13)::
.gd (P 12) false (.call (.con (.func (.func 34) ⟨[]⟩ ⟨[]⟩)) [tm 13]) (P 14)::
.gd (P 12) false (.bin .gtr 3 (tm 14) (.con (.int .i64 (.ofNat 4)))) (P 15)::
.go (.pick (tm 12) (.con (.bool true)) (tm 15)) (P 16)::
[])) (.cond (tm 16) (.seq (.run (.go (.move (.con (.int .i64 (.ofNat 3)))) (P 2)::
[])) .ret) .skip)) (.seq (.seq (.draw 30 (.go (.loadN 4 (tm 1)) (P 17)::
.go (.call (.con (.func (.func 34) ⟨[]⟩ ⟨[]⟩)) [tm 17]) (P 18)::
.go (.bin .lss 3 (tm 18) (.con (.int .i64 (.ofNat 2)))) (P 19)::
.go (.move (tm 19)) (P 20)::
.gd (P 20) false (.fieldAddr 1 (tm 1)) (P 21)::
.gd (P 20) false (.load1 (tm 21)) (P 22)::
.gd (P 20) false (.len 0 (tm 22)) (P 23)::
.gd (P 20) false (.fieldAddr 0 (tm 1)) (P 24)::
.gd (P 20) false (.load1 (tm 24)) (P 25)::
.gd (P 20) false (.len 0 (tm 25)) (P 26)::
.gd (P 20) false (.bin .sub 3 (tm 26) (.con (.int .i64 (.ofNat 1)))) (P 27)::
.gd (P 20) false (.bin .neq 3 (tm 23) (tm 27)) (P 28)::
.go (.pick (tm 20) (.con (.bool true)) (tm 28)) (P 29)::
.go (.move (tm 29)) (P 30)::
.gd (P 30) false (.fieldAddr 2 (tm 1)) (P 31)::
.gd (P 30) false (.load1 (tm 31)) (P 32)::
.gd (P 30) false (.len 0 (tm 32)) (P 33)::
.gd (P 30) false (.loadN 4 (tm 1)) (P 34)::
.gd (P 30) false (.call (.con (.func (.func 34) ⟨[]⟩ ⟨[]⟩)) [tm 34]) (P 35)::
.gd (P 30) false (.bin .add 3 (tm 35) (.con (.int .i64 (.ofNat 1)))) (P 36)::
.gd (P 30) false (.bin .neq 3 (tm 33) (tm 36)) (P 37)::
.go (.pick (tm 30) (.con (.bool true)) (tm 37)) (P 38)::
.go (.move (tm 38)) (P 39)::
.gd (P 39) false (.fieldAddr 3 (tm 1)) (P 40)::
.gd (P 39) false (.load1 (tm 40)) (P 41)::
.gd (P 39) false (.len 0 (tm 41)) (P 42)::
.gd (P 39) false (.loadN 4 (tm 1)) (P 43)::
.gd (P 39) false (.call (.con (.func (.func 34) ⟨[]⟩ ⟨[]⟩)) [tm 43]) (P 44)::
.gd (P 39) false (.bin .neq 3 (tm 42) (tm 44)) (P 45)::
.go (.pick (tm 39) (.con (.bool true)) (tm 45)) (P 46)::
[]) [.ok,.ok,.ok,.ok,.ok,.ok,.ok,.ok,.ok,.ok,.ok,.ok,.ok,.ok,.ok,.rd (some ((P 30),false)) (.load1 (tm 31)) (some (P 32)) [19],.rd (some ((P 30),false)) (.len 0 (tm 32)) (some (P 33)) [19],.ok,.ok,.ok,.ok,.ok,.ok,.ok,.rd (some ((P 39),false)) (.load1 (tm 40)) (some (P 41)) [28],.rd (some ((P 39),false)) (.len 0 (tm 41)) (some (P 42)) [28],.ok,.ok,.ok,.ok]) (.cond (tm 46) (.seq (.run (.go (.move (.con (.int .i64 (.ofNat 1)))) (P 2)::
[])) .ret) .skip)) (.seq (.seq (.run (.go (.move (.con (.int .i64 (.ofNat 0)))) (P 3)::
[])) (.block 0 (.loop (.seq (.seq (.run (.go (.move (tm 3)) (P 47)::
.go (.fieldAddr 0 (tm 1)) (P 48)::
.go (.load1 (tm 48)) (P 49)::
.go (.len 0 (tm 49)) (P 50)::
.go (.bin .lss 3 (tm 47) (tm 50)) (P 51)::
[])) (.cond (tm 51) .skip (.exit 0))) (.seq (.block 1 (.seq (.seq (.draw 9 (.go (.fieldAddr 0 (tm 1)) (P 54)::
.go (.load1 (tm 54)) (P 55)::
.go (.move (tm 3)) (P 56)::
.go (.indexAddr none 1 (tm 55) (tm 56)) (P 57)::
.go (.load1 (tm 57)) (P 58)::
.go (.len 0 (tm 58)) (P 59)::
.go (.loadN 4 (tm 1)) (P 60)::
.go (.call (.con (.func (.func 34) ⟨[]⟩ ⟨[]⟩)) [tm 60]) (P 61)::
.go (.bin .neq 3 (tm 59) (tm 61)) (P 62)::
[]) [.ok,.rd none (.load1 (tm 54)) (some (P 55)) [8],.ok,.ok,.rd none (.load1 (tm 57)) (some (P 58)) [8],.rd none (.len 0 (tm 58)) (some (P 59)) [8],.ok,.ok,.ok]) (.cond (tm 62) (.seq (.run (.go (.move (.con (.int .i64 (.ofNat 1)))) (P 2)::
[])) .ret) .skip)) (.seq (.run (.go (.move (.con (.int .i64 (.ofNat 0)))) (P 4)::
[])) (.block 2 (.loop (.seq (.seq (.run (.go (.move (tm 4)) (P 63)::
.go (.fieldAddr 0 (tm 1)) (P 64)::
.go (.load1 (tm 64)) (P 65)::
.go (.move (tm 3)) (P 66)::
.go (.indexAddr none 1 (tm 65) (tm 66)) (P 67)::
.go (.load1 (tm 67)) (P 68)::
.go (.len 0 (tm 68)) (P 69)::
.go (.bin .lss 3 (tm 63) (tm 69)) (P 70)::
[])) (.cond (tm 70) .skip (.exit 2))) (.seq (.block 3 (.seq (.run (.go (.fieldAddr 0 (tm 1)) (P 73)::
.go (.load1 (tm 73)) (P 74)::
.go (.move (tm 3)) (P 75)::
.go (.indexAddr none 1 (tm 74) (tm 75)) (P 76)::
.go (.load1 (tm 76)) (P 77)::
.go (.move (tm 4)) (P 78)::
.go (.indexAddr none 2 (tm 77) (tm 78)) (P 79)::
.go (.loadN 2 (tm 79)) (P 80)::
.go (.call (.con (.func (.func 45) ⟨[]⟩ ⟨[]⟩)) [(tm 80),(.con (.int .i64 (.ofNat 0))),(.con (.int .i64 (.ofNat 500)))]) (P 81)::
.go (.un .not (tm 81)) (P 82)::
[])) (.cond (tm 82) (.seq (.run (.go (.move (.con (.int .i64 (.ofNat 1)))) (P 2)::
[])) .ret) .skip))) (.run (.go (.move (tm 4)) (P 71)::
.go (.bin .add 3 (tm 71) (.con (.int .i64 (.ofNat 1)))) (P 72)::
.go (.move (tm 72)) (P 4)::
[]))))))))) (.run (.go (.move (tm 3)) (P 52)::
.go (.bin .add 3 (tm 52) (.con (.int .i64 (.ofNat 1)))) (P 53)::
.go (.move (tm 53)) (P 3)::
[]))))))) (.seq (.seq (.run (.go (.move (.con (.int .i64 (.ofNat 0)))) (P 5)::
[])) (.block 4 (.loop (.seq (.seq (.run (.go (.move (tm 5)) (P 83)::
.go (.fieldAddr 1 (tm 1)) (P 84)::
.go (.load1 (tm 84)) (P 85)::
.go (.len 0 (tm 85)) (P 86)::
.go (.bin .lss 3 (tm 83) (tm 86)) (P 87)::
[])) (.cond (tm 87) .skip (.exit 4))) (.seq (.block 5 (.seq (.run (.go (.fieldAddr 1 (tm 1)) (P 90)::
.go (.load1 (tm 90)) (P 91)::
.go (.move (tm 5)) (P 92)::
.go (.indexAddr none 2 (tm 91) (tm 92)) (P 93)::
.go (.loadN 2 (tm 93)) (P 94)::
.go (.call (.con (.func (.func 45) ⟨[]⟩ ⟨[]⟩)) [(tm 94),(.con (.int .i64 (.ofNat 0))),(.con (.int .i64 (.ofNat 500)))]) (P 95)::
.go (.un .not (tm 95)) (P 96)::
[])) (.cond (tm 96) (.seq (.run (.go (.move (.con (.int .i64 (.ofNat 1)))) (P 2)::
[])) .ret) .skip))) (.run (.go (.move (tm 5)) (P 88)::
.go (.bin .add 3 (tm 88) (.con (.int .i64 (.ofNat 1)))) (P 89)::
.go (.move (tm 89)) (P 5)::
[]))))))) (.seq (.seq (.run (.go (.move (.con (.int .i64 (.ofNat 0)))) (P 6)::
[])) (.block 6 (.loop (.seq (.seq (.run (.go (.move (tm 6)) (P 97)::
.go (.fieldAddr 2 (tm 1)) (P 98)::
.go (.load1 (tm 98)) (P 99)::
.go (.len 0 (tm 99)) (P 100)::
.go (.bin .lss 3 (tm 97) (tm 100)) (P 101)::
[])) (.cond (tm 101) .skip (.exit 6))) (.seq (.block 7 (.seq (.run (.go (.fieldAddr 2 (tm 1)) (P 104)::
.go (.load1 (tm 104)) (P 105)::
.go (.move (tm 6)) (P 106)::
.go (.indexAddr none 2 (tm 105) (tm 106)) (P 107)::
.go (.loadN 2 (tm 107)) (P 108)::
.go (.call (.con (.func (.func 45) ⟨[]⟩ ⟨[]⟩)) [(tm 108),(.con (.int .i64 (.ofNat 0))),(.con (.int .i64 (.ofNat 1000)))]) (P 109)::
.go (.un .not (tm 109)) (P 110)::
[])) (.cond (tm 110) (.seq (.run (.go (.move (.con (.int .i64 (.ofNat 1)))) (P 2)::
[])) .ret) .skip))) (.run (.go (.move (tm 6)) (P 102)::
.go (.bin .add 3 (tm 102) (.con (.int .i64 (.ofNat 1)))) (P 103)::
.go (.move (tm 103)) (P 6)::
[]))))))) (.seq (.seq (.run (.go (.move (.con (.int .i64 (.ofNat 0)))) (P 7)::
[])) (.block 8 (.loop (.seq (.seq (.run (.go (.move (tm 7)) (P 111)::
.go (.fieldAddr 3 (tm 1)) (P 112)::
.go (.load1 (tm 112)) (P 113)::
.go (.len 0 (tm 113)) (P 114)::
.go (.bin .lss 3 (tm 111) (tm 114)) (P 115)::
[])) (.cond (tm 115) .skip (.exit 8))) (.seq (.block 9 (.seq (.run (.go (.fieldAddr 3 (tm 1)) (P 118)::
.go (.load1 (tm 118)) (P 119)::
.go (.move (tm 7)) (P 120)::
.go (.indexAddr none 2 (tm 119) (tm 120)) (P 121)::
.go (.loadN 2 (tm 121)) (P 122)::
.go (.call (.con (.func (.func 45) ⟨[]⟩ ⟨[]⟩)) [(tm 122),(.con (.int .i64 (.negSucc 49))),(.con (.int .i64 (.ofNat 50)))]) (P 123)::
.go (.un .not (tm 123)) (P 124)::
[])) (.cond (tm 124) (.seq (.run (.go (.move (.con (.int .i64 (.ofNat 1)))) (P 2)::
[])) .ret) .skip))) (.run (.go (.move (tm 7)) (P 116)::
.go (.bin .add 3 (tm 116) (.con (.int .i64 (.ofNat 1)))) (P 117)::
.go (.move (tm 117)) (P 7)::
[]))))))) (.seq (.run (.go (.move (.con (.int .i64 (.ofNat 0)))) (P 2)::
[])) .ret))))))))
theorem de70 : @compF Try.prog (Gl.none Try.prog) Try.f70 1=.mk d70 (mkTT 125) [(P 0)] [.tmp (P 2)]:=by kernel_rfl
theorem dg70 : Try.prog.funcs[70]?=some Try.f70:=Try.func70
theorem do70 : okF Try.prog Try.f70=true:=by kernel_rfl
def thin (T : Tb) : Prop:=(∀ row∈T.C.take 8,row.length≤7)∧T.C.length≤7∧T.B.length≤7∧T.Rt.length≤7∧T.N.length≤7
instance (T : Tb) : Decidable (thin T):=by unfold thin;infer_instance
theorem thin_sh {T : Tb} (h : thin T) : sh T:=by
 obtain⟨h1,h2,h3,h4,h5⟩:=h
 rw[List.take_of_length_le (by omega)] at h1
 exact⟨by omega,fun row hr=>by have:=h1 row hr;omega,by omega,by omega,by omega⟩
theorem f18_ok {H : Heap} {c b r n : Value} {T : Tb} (h : TV H c b r n T) : Gives Try.prog 18 [.agg ⟨[c,b,r,n]⟩] H (.bool (decide (thin T))):=by
 have hlc : ∀ X,ylen 0 X c=some (I T.C.length):=h.c.len
 have hlb : ∀ X,ylen 0 X b=some (I T.B.length):=h.b.len
 have hlr : ∀ X,ylen 0 X r=some (I T.Rt.length):=h.r.len
 have hln : ∀ X,ylen 0 X n=some (I T.N.length):=h.n.len
 refine F.entryL rfl dg18 do18 de18 rfl (by kernel_rfl) ?_
 simp only[sets]
 refine V.re [(0,.agg ⟨[c,b,r,n]⟩)] (N:=44) zE zY ?_
 intro t hF hA
 simp only[Kn,and_true] at hA
 refine zS ?_
 refine V.l0 ?_
 refine V.heap (fun X=>Grow H X∧Bx X H.next [c,b,r,n] 25) ⟨?_,?_⟩ ?_
 ·exact zW
 ·exact zB
 rintro H1 ⟨g1,b1⟩
 refine zS ?_
 refine V.l0 ?_
 refine zS ?_
 refine V.loop (fun z t m X=>∃ (k : Nat),k≤T.C.length∧k≤8∧z=8-k∧m=[]∧Grow H1 X∧(∀ row∈T.C.take k,row.length≤7)∧Full 44 t∧Kn [(1,.pointer (some ⟨H.next,0,none⟩)),(3,I k)] t) 8 ?_ ?_
 ·exact⟨0,by omega,by omega,by omega,rfl,.refl _,by simp,zF,zK⟩
 clear hF hA
 rintro z t m X ⟨k,hk,hk8,rfl,rfl,hg,hall,hF,hA⟩
 simp only[Kn,and_true] at hA
 have bx:=b1.grow hg
 refine zS ?_
 have zf:=And.intro bx.2<|@hlc
 refine V.lz ?_
 refine zS ?_
 refine V.condP zP (fun hlt=>?_) (fun hlt=>?_)
 ·have hlt' : k<T.C.length∧k<8:=by omega
  obtain⟨p,x,hp,hx⟩:=h.c.at rp hlt'.1
  obtain⟨hx1,hx2⟩:=hx _ (g1.trans hg)
  have hpk:=hp .i64
  have hxl:=hx2.len
  refine zS ?_
  have zf:=And.intro bx.2<|And.intro @hpk<|And.intro @hx1<|@hxl
  refine V.lz ?_
  refine zS ?_
  refine V.condP zP (fun h7=>?_) (fun h7=>?_)
  ·refine zS ?_
   refine V.l0 ?_
   refine zS ?_
   refine V.ret (V.rets rfl (Or.inr ⟨by simp,V.rets rfl (Lv.retG (by simp +contextual (disch:=first|omega|simp only[nx];omega) only[D1,cells_alloc_at,cells_alloc_ne,cells_set_at,cells_set_ne,yres,yres1,yresL,qA,qB,qC,D5,hF,hA,↓reduceIte,qD,qE];rfl) ?_ ?_)⟩))
   ·exact g1.trans hg
   ·congr 1
    symm
    refine decide_eq_false (fun hh=>?_)
    have:=hh.1 T.C[k] (List.mem_take_iff_getElem.2 ⟨k,by omega,rfl⟩)
    omega
  ·refine zS ?_
   refine V.l0 ?_
   refine V.nil (Or.inl ⟨rfl,8-(k+1),by omega,?_⟩)
   refine⟨k+1,by omega,by omega,rfl,rfl,hg,?_,zF,zK⟩
   intro row hr
   rw[List.take_succ_eq_append_getElem hlt'.1] at hr
   rcases List.mem_append.1 hr with hr|hr
   ·exact hall row hr
   ·rw[List.mem_singleton.1 hr];omega
 ·refine V.exit ?_
  refine zX ?_
  refine V.nil (Or.inr ⟨by simp,?_⟩)
  refine zX ?_
  refine zS ?_
  have zf:=And.intro bx.2<|And.intro @hlc<|And.intro @hlb<|And.intro @hlr<|@hln
  refine V.lz ?_
  refine zS ?_
  refine V.ret (V.rets rfl (Lv.retG (by simp +contextual (disch:=first|omega|simp only[nx];omega) only[D1,cells_alloc_at,cells_alloc_ne,cells_set_at,cells_set_ne,yres,yres1,yresL,qA,qB,qC,D5,hF,hA,↓reduceIte,qD,qE];rfl) ?_ ?_))
  ·exact g1.trans hg
  ·congr 1
   rw[decide_eq_decide]
   have e : T.C.take 8=T.C.take k:=by
    rcases (by omega : k=8∨k=T.C.length) with e|e
    ·rw[e]
    ·rw[e,List.take_length,List.take_of_length_le (by omega)]
   unfold thin
   rw[e]
   constructor
   ·intro hh;exact⟨hall,by omega,by omega,by omega,by omega⟩
   ·rintro⟨_,h2,h3,h4,h5⟩;omega
def fit (T : Tb) : Prop:=T.C.length≤4∧grp T≤4
def val (T : Tb) : Prop:=2≤grp T∧T.B.length+1=T.C.length∧T.Rt.length=grp T+1∧T.N.length=grp T∧(∀ row∈T.C,row.length=grp T∧∀ r∈row,wi 0 500 r)∧(∀ r∈T.B,wi 0 500 r)∧(∀ r∈T.Rt,wi 0 1000 r)∧∀ r∈T.N,wi (-50) 50 r
instance (T : Tb) : Decidable (fit T):=by unfold fit;infer_instance
instance (T : Tb) : Decidable (val T):=by unfold val;infer_instance
def flt (T : Tb) : Int:=if ¬ fit T then 3 else if ¬ val T then 1 else 0
theorem f70_ok {H : Heap} {c b r n : Value} {T : Tb} (h : TV H c b r n T) : Gives Try.prog 70 [.agg ⟨[c,b,r,n]⟩] H (I (flt T)):=by
 have hlc : ∀ X,ylen 0 X c=some (I T.C.length):=h.c.len
 have hlb : ∀ X,ylen 0 X b=some (I T.B.length):=h.b.len
 have hlr : ∀ X,ylen 0 X r=some (I T.Rt.length):=h.r.len
 have hln : ∀ X,ylen 0 X n=some (I T.N.length):=h.n.len
 refine F.entryL rfl dg70 do70 de70 rfl (by kernel_rfl) ?_
 simp only[sets]
 refine V.re [(0,.agg ⟨[c,b,r,n]⟩)] (N:=125) zE zY ?_
 intro t hF hA
 simp only[Kn,and_true] at hA
 refine zS ?_
 refine V.l0 ?_
 refine V.heap (fun X=>Grow H X∧Bx X H.next [c,b,r,n] 25) ⟨?_,?_⟩ ?_
 ·exact zW
 ·exact zB
 rintro H1 ⟨g1,b1⟩
 refine zS ?_
 refine V.run ?_
 have zf:=And.intro b1.2<|@hlc
 refine VI.sz 6 ?_
 simp only[ds]
 first|refine VI.callGt zG (fun hc=>zI) (fun hc=>f34_ok (h.grow g1)) (fun hc=>zI) (fun H2 g2=>?_)|refine VI.callGf zG (fun hc=>zI) (fun hc=>f34_ok (h.grow g1)) (fun hc=>zI) (fun H2 g2=>?_)
 have b2:=b1.grow g2
 refine VI.l0 ?_
 refine zS ?_
 refine V.condP zP (fun hf=>?_) (fun hf=>?_)
 ·refine zS ?_
  refine V.l0 ?_
  refine zS ?_
  refine V.ret (V.rets rfl (Lv.retG (by simp +contextual (disch:=first|omega|simp only[nx];omega) only[D1,cells_alloc_at,cells_alloc_ne,cells_set_at,cells_set_ne,yres,yres1,yresL,qA,qB,qC,D5,hF,hA,↓reduceIte,qD,qE];rfl) ?_ ?_))
  ·exact g1.trans g2
  ·rw[flt,if_pos (by unfold fit;omega)]
 ·have hfit : fit T:=by unfold fit;omega
  have hf1:=hfit.1
  have hf2:=hfit.2
  have h2:=h.grow (g1.trans g2)
  refine zS ?_
  refine V.draw ?_
  have zf:=b2.2
  refine VD.nz 1 ?_
  simp only[ds]
  refine VD.callA zA (f34_ok h2) zA (fun H3 g3=>?_)
  have b3:=b2.grow g3
  have h3:=h2.grow g3
  have zf:=And.intro b3.2<|And.intro @hlb<|And.intro @hlc<|@hlr
  refine VD.nz 9 ?_
  simp only[ds]
  have zf:=And.intro b3.2<|And.intro @hlb<|And.intro @hlc<|@hlr
  refine VD.nz 7 ?_
  simp only[ds]
  first|refine VD.callGt zG (fun hc=>zI) (fun hc=>f34_ok h3) (fun hc=>zI) (fun H4 g4=>?_)|refine VD.callGf zG (fun hc=>zI) (fun hc=>f34_ok h3) (fun hc=>zI) (fun H4 g4=>?_)
  have b4:=b3.grow g4
  have h4:=h3.grow g4
  have zf:=And.intro b4.2<|And.intro @hlr<|@hln
  refine VD.nz 8 ?_
  simp only[ds]
  first|refine VD.callGt zG (fun hc=>zI) (fun hc=>f34_ok h4) (fun hc=>zI) (fun H5 g5=>?_)|refine VD.callGf zG (fun hc=>zI) (fun hc=>f34_ok h4) (fun hc=>zI) (fun H5 g5=>?_)
  have b5:=b4.grow g5
  refine VD.d0 ?_ ?_ rfl ?_
  ·have m3:=g3.1
   have m4:=g4.1
   have m5:=g5.1
   exact zM
  ·simp only[dcAll,dcOk,wantD,List.cons_append,List.nil_append,true_and,and_true]
   have v1:=(sl1 h.r.isS).2.2.1
   have v2:=(sl1 h.n.isS).2.2.1
   exact⟨fun hw q hq=>by simp only[wantD,D5,hF,hA,↓reduceIte,qD,qE,beq_iff_eq,decide_eq_false_iff_not,decide_eq_true_eq] at hw;simp only[List.mem_cons,List.not_mem_nil,or_false] at hq;(repeat (rcases hq with rfl|hq;exact⟨_,_,_,rfl,(by simp +contextual (disch:=first|omega|simp only[nx];omega) only[D4,qF,qG,qA,qB,qC,D5,hF,hA,↓reduceIte,qD,qE,if_true,not_false_eq_true,not_true_eq_false,hw,b3.2,b4.2,b5.2];with_reducible rfl),fun p hp=>by cases hp;simp only[D5,hF,hA,↓reduceIte,qD,qE,hw,if_true,not_false_eq_true];first|exact vEq_An|(simp[vEq,vEq0,all2];done)|assumption⟩));(try (subst hq;exact⟨_,_,_,rfl,(by simp +contextual (disch:=first|omega|simp only[nx];omega) only[D4,qF,qG,qA,qB,qC,D5,hF,hA,↓reduceIte,qD,qE,if_true,not_false_eq_true,not_true_eq_false,hw,b3.2,b4.2,b5.2];with_reducible rfl),fun p hp=>by cases hp;simp only[D5,hF,hA,↓reduceIte,qD,qE,hw,if_true,not_false_eq_true];first|exact vEq_An|(simp[vEq,vEq0,all2];done)|assumption⟩)),fun hw q hq=>by simp only[wantD,D5,hF,hA,↓reduceIte,qD,qE,beq_iff_eq,decide_eq_false_iff_not,decide_eq_true_eq] at hw;simp only[List.mem_cons,List.not_mem_nil,or_false] at hq;(repeat (rcases hq with rfl|hq;exact⟨_,_,_,rfl,(by simp +contextual (disch:=first|omega|simp only[nx];omega) only[D4,qF,qG,qA,qB,qC,D5,hF,hA,↓reduceIte,qD,qE,if_true,not_false_eq_true,not_true_eq_false,hw,hlr];with_reducible rfl),fun p hp=>by cases hp;simp only[D5,hF,hA,↓reduceIte,qD,qE,hw,if_true,not_false_eq_true];first|exact vEq_An|(simp[vEq,vEq0,all2];done)|assumption⟩));(try (subst hq;exact⟨_,_,_,rfl,(by simp +contextual (disch:=first|omega|simp only[nx];omega) only[D4,qF,qG,qA,qB,qC,D5,hF,hA,↓reduceIte,qD,qE,if_true,not_false_eq_true,not_true_eq_false,hw,hlr];with_reducible rfl),fun p hp=>by cases hp;simp only[D5,hF,hA,↓reduceIte,qD,qE,hw,if_true,not_false_eq_true];first|exact vEq_An|(simp[vEq,vEq0,all2];done)|assumption⟩)),fun hw q hq=>by simp only[wantD,D5,hF,hA,↓reduceIte,qD,qE,beq_iff_eq,decide_eq_false_iff_not,decide_eq_true_eq] at hw;simp only[List.mem_cons,List.not_mem_nil,or_false] at hq;(repeat (rcases hq with rfl|hq;exact⟨_,_,_,rfl,(by simp +contextual (disch:=first|omega|simp only[nx];omega) only[D4,qF,qG,qA,qB,qC,D5,hF,hA,↓reduceIte,qD,qE,if_true,not_false_eq_true,not_true_eq_false,hw,b3.2,b4.2,b5.2];with_reducible rfl),fun p hp=>by cases hp;simp only[D5,hF,hA,↓reduceIte,qD,qE,hw,if_true,not_false_eq_true];first|exact vEq_An|(simp[vEq,vEq0,all2];done)|assumption⟩));(try (subst hq;exact⟨_,_,_,rfl,(by simp +contextual (disch:=first|omega|simp only[nx];omega) only[D4,qF,qG,qA,qB,qC,D5,hF,hA,↓reduceIte,qD,qE,if_true,not_false_eq_true,not_true_eq_false,hw,b3.2,b4.2,b5.2];with_reducible rfl),fun p hp=>by cases hp;simp only[D5,hF,hA,↓reduceIte,qD,qE,hw,if_true,not_false_eq_true];first|exact vEq_An|(simp[vEq,vEq0,all2];done)|assumption⟩)),fun hw q hq=>by simp only[wantD,D5,hF,hA,↓reduceIte,qD,qE,beq_iff_eq,decide_eq_false_iff_not,decide_eq_true_eq] at hw;simp only[List.mem_cons,List.not_mem_nil,or_false] at hq;(repeat (rcases hq with rfl|hq;exact⟨_,_,_,rfl,(by simp +contextual (disch:=first|omega|simp only[nx];omega) only[D4,qF,qG,qA,qB,qC,D5,hF,hA,↓reduceIte,qD,qE,if_true,not_false_eq_true,not_true_eq_false,hw,hln];with_reducible rfl),fun p hp=>by cases hp;simp only[D5,hF,hA,↓reduceIte,qD,qE,hw,if_true,not_false_eq_true];first|exact vEq_An|(simp[vEq,vEq0,all2];done)|assumption⟩));(try (subst hq;exact⟨_,_,_,rfl,(by simp +contextual (disch:=first|omega|simp only[nx];omega) only[D4,qF,qG,qA,qB,qC,D5,hF,hA,↓reduceIte,qD,qE,if_true,not_false_eq_true,not_true_eq_false,hw,hln];with_reducible rfl),fun p hp=>by cases hp;simp only[D5,hF,hA,↓reduceIte,qD,qE,hw,if_true,not_false_eq_true];first|exact vEq_An|(simp[vEq,vEq0,all2];done)|assumption⟩))⟩
  have g25:=(g3.trans g4).trans g5
  clear h3 h4 b3 b4
  refine zS ?_
  refine V.condP zP (fun hv=>?_) (fun hv=>?_)
  ·refine zS ?_
   refine V.l0 ?_
   refine zS ?_
   refine V.ret (V.rets rfl (Lv.retG (by simp +contextual (disch:=first|omega|simp only[nx];omega) only[D1,cells_alloc_at,cells_alloc_ne,cells_set_at,cells_set_ne,yres,yres1,yresL,qA,qB,qC,D5,hF,hA,↓reduceIte,qD,qE];rfl) ?_ ?_))
   ·exact (g1.trans g2).trans g25
   ·rw[flt,if_neg (not_not_intro hfit),if_pos (by rintro⟨q1,q2,q3,q4,_⟩;omega)]
  have hd1 : 2≤grp T:=by omega
  have hd2 : T.B.length+1=T.C.length:=by omega
  have hd3 : T.Rt.length=grp T+1:=by omega
  have hd4 : T.N.length=grp T:=by omega
  clear hv
  refine zS ?_
  refine V.l0 ?_
  refine zS ?_
  refine V.re [(1,.pointer (some ⟨H.next,0,none⟩)),(3,I 0)] (N:=125) zF zK ?_
  clear hF hA
  intro t hF hA
  simp only[Kn,and_true] at hA
  refine V.loop (fun z t m X=>∃ (k : Nat),k≤T.C.length∧z=T.C.length-k∧m=[]∧Grow H2 X∧(∀ row∈T.C.take k,row.length=grp T∧∀ r∈row,wi 0 500 r)∧Full 125 t∧Kn [(1,.pointer (some ⟨H.next,0,none⟩)),(3,I k)] t) T.C.length ?_ ?_
  ·exact⟨0,by omega,by omega,rfl,g25,by simp,zF,zK⟩
  clear hF hA
  rintro z t m X ⟨k,hk,rfl,rfl,hg,hall,hF,hA⟩
  simp only[Kn,and_true] at hA
  have bx:=b2.grow hg
  refine zS ?_
  have zf:=And.intro bx.2<|@hlc
  refine V.lz ?_
  refine zS ?_
  refine V.condP zP (fun hlt=>?_) (fun hlt=>?_)
  ·have hlt' : k<T.C.length:=by omega
   obtain⟨p,x,hp,hx⟩:=h.c.at rp hlt'
   obtain⟨hx1,hx2⟩:=hx _ ((g1.trans g2).trans hg)
   have hpk:=hp .i64
   have hxl:=hx2.len
   refine zS ?_
   refine V.draw ?_
   have zf:=And.intro bx.2<|And.intro @hpk<|And.intro @hx1<|@hxl
   refine VD.nz 7 ?_
   simp only[ds]
   refine VD.callA zA (f34_ok (h2.grow hg)) zA (fun X1 gx=>?_)
   have bx1:=bx.grow gx
   obtain⟨hx3,_⟩:=hx _ (((g1.trans g2).trans hg).trans gx)
   refine VD.d0 ?_ ?_ rfl ?_
   ·have m1:=gx.1
    exact zM
   ·simp only[dcAll,dcOk,wantD,List.cons_append,List.nil_append,true_and,and_true]
    have v1:=(sl1 h.c.isS).2.2.1
    have v2:=(sl1 (rp.sl hx2)).2.2.1
    have zf:=And.intro bx.2<|And.intro bx1.2<|And.intro @hx1<|And.intro @hx3<|@hxl
    exact⟨zR,zR,zR⟩
   refine zS ?_
   refine V.condP zP (fun hw=>?_) (fun hw=>?_)
   ·refine zS ?_
    refine V.l0 ?_
    refine zS ?_
    refine V.ret (V.rets rfl (Or.inr ⟨by simp,V.rets rfl (Lv.retG (by simp +contextual (disch:=first|omega|simp only[nx];omega) only[D1,cells_alloc_at,cells_alloc_ne,cells_set_at,cells_set_ne,yres,yres1,yresL,qA,qB,qC,D5,hF,hA,↓reduceIte,qD,qE];rfl) ?_ ?_)⟩))
    ·exact ((g1.trans g2).trans hg).trans gx
    ·rw[flt,if_neg (not_not_intro hfit),if_pos (by rintro⟨_,_,_,_,q5,_⟩;have:=(q5 _ (List.getElem_mem hlt')).1;omega)]
   have hrl : (T.C[k]).length=grp T:=by omega
   refine zS ?_
   refine V.l0 ?_
   refine zS ?_
   refine V.re [(1,.pointer (some ⟨H.next,0,none⟩)),(3,I k),(4,I 0)] (N:=125) zF zK ?_
   clear hF hA
   intro t hF hA
   simp only[Kn,and_true] at hA
   refine V.loop (fun z t m Y=>∃ (j : Nat),j≤(T.C[k]).length∧z=(T.C[k]).length-j∧m=[]∧Grow H2 Y∧(∀ r∈(T.C[k]).take j,wi 0 500 r)∧Full 125 t∧Kn [(1,.pointer (some ⟨H.next,0,none⟩)),(3,I k),(4,I j)] t) (T.C[k]).length ?_ ?_
   ·exact⟨0,by omega,by omega,rfl,hg.trans gx,by simp,zF,zK⟩
   clear hF hA
   rintro z t m Y ⟨j,hj,rfl,rfl,hgy,hally,hF,hA⟩
   simp only[Kn,and_true] at hA
   have by':=b2.grow hgy
   obtain⟨hy1,hy2⟩:=hx _ ((g1.trans g2).trans hgy)
   refine zS ?_
   have zf:=And.intro by'.2<|And.intro @hpk<|And.intro @hy1<|@hxl
   refine V.lz ?_
   refine zS ?_
   refine V.condP zP (fun hlj=>?_) (fun hlj=>?_)
   ·have hlj' : j<(T.C[k]).length:=by omega
    obtain⟨i,o,hp2,hz⟩:=hy2.at hlj'
    obtain⟨hz1,_,_⟩:=hz _ (.refl _)
    refine zS ?_
    refine V.run ?_
    have zf:=And.intro by'.2<|And.intro @hpk<|And.intro @hy1<|And.intro @hp2<|@hz1
    refine VI.sz 8 ?_
    simp only[ds]
    refine VI.callA rfl (f45_ok (T.C[k])[j] 0 500 Y) zA (fun Y1 gy1=>?_)
    refine VI.l0 ?_
    refine zS ?_
    refine V.condP zP (fun hw2=>?_) (fun hw2=>?_)
    ·refine zS ?_
     refine V.l0 ?_
     refine zS ?_
     refine V.ret (V.rets rfl (Or.inr ⟨by simp,V.rets rfl (Or.inr ⟨by simp,V.rets rfl (Lv.retG (by simp +contextual (disch:=first|omega|simp only[nx];omega) only[D1,cells_alloc_at,cells_alloc_ne,cells_set_at,cells_set_ne,yres,yres1,yresL,qA,qB,qC,D5,hF,hA,↓reduceIte,qD,qE];rfl) ?_ ?_)⟩)⟩))
     ·exact ((g1.trans g2).trans hgy).trans gy1
     ·rw[flt,if_neg (not_not_intro hfit),if_pos (by rintro⟨_,_,_,_,q5,_⟩;exact hw2 ((q5 _ (List.getElem_mem hlt')).2 _ (List.getElem_mem hlj')))]
    ·refine zS ?_
     refine V.l0 ?_
     refine V.nil (Or.inl ⟨rfl,(T.C[k]).length-(j+1),by omega,?_⟩)
     refine⟨j+1,by omega,rfl,rfl,hgy.trans gy1,?_,zF,zK⟩
     intro q hq
     rw[List.take_succ_eq_append_getElem hlj'] at hq
     rcases List.mem_append.1 hq with hq|hq
     ·exact hally q hq
     ·rw[List.mem_singleton.1 hq];exact Decidable.not_not.1 hw2
   ·refine V.exit ?_
    refine zX ?_
    refine V.nil (Or.inr ⟨by simp,?_⟩)
    refine zX ?_
    refine zS ?_
    refine V.l0 ?_
    refine V.nil (Or.inl ⟨rfl,T.C.length-(k+1),by omega,?_⟩)
    refine⟨k+1,by omega,rfl,rfl,hgy,?_,zF,zK⟩
    intro q hq
    rw[List.take_succ_eq_append_getElem hlt'] at hq
    rcases List.mem_append.1 hq with hq|hq
    ·exact hall q hq
    ·rw[List.mem_singleton.1 hq]
     refine⟨hrl,?_⟩
     have e : (T.C[k]).take j=T.C[k]:=List.take_of_length_le (by omega)
     rw[e] at hally
     exact hally
  have hC : ∀ row∈T.C,row.length=grp T∧∀ r∈row,wi 0 500 r:=by
   have e : T.C.take k=T.C:=List.take_of_length_le (by omega)
   rw[e] at hall
   exact hall
  refine V.exit ?_
  refine zX ?_
  refine V.nil (Or.inr ⟨by simp,?_⟩)
  refine zX ?_
  refine zS ?_
  refine V.l0 ?_
  refine zS ?_
  refine V.re [(1,.pointer (some ⟨H.next,0,none⟩)),(5,I 0)] (N:=125) zF zK ?_
  clear hF hA
  intro t hF hA
  simp only[Kn,and_true] at hA
  refine V.loop (fun z t m X=>∃ (k : Nat),k≤T.B.length∧z=T.B.length-k∧m=[]∧Grow H2 X∧(∀ r∈T.B.take k,wi 0 500 r)∧Full 125 t∧Kn [(1,.pointer (some ⟨H.next,0,none⟩)),(5,I k)] t) T.B.length ?_ ?_
  ·exact⟨0,by omega,by omega,rfl,hg,by simp,zF,zK⟩
  clear hF hA
  rintro z t m X5 ⟨k,hk,rfl,rfl,hg5,hall,hF,hA⟩
  simp only[Kn,and_true] at hA
  have bx:=b2.grow hg5
  refine zS ?_
  have zf:=And.intro bx.2<|@hlb
  refine V.lz ?_
  refine zS ?_
  refine V.condP zP (fun hlt=>?_) (fun hlt=>?_)
  ·have hlt' : k<T.B.length:=by omega
   obtain⟨i,o,hp,hx⟩:=h.b.at hlt'
   obtain⟨hx1,_,_⟩:=hx _ ((g1.trans g2).trans hg5)
   refine zS ?_
   refine V.run ?_
   have zf:=And.intro bx.2<|And.intro @hp<|@hx1
   refine VI.sz 5 ?_
   simp only[ds]
   refine VI.callA rfl (f45_ok T.B[k] (0) 500 X5) zA (fun Y gy=>?_)
   refine VI.l0 ?_
   refine zS ?_
   refine V.condP zP (fun hw=>?_) (fun hw=>?_)
   ·refine zS ?_
    refine V.l0 ?_
    refine zS ?_
    refine V.ret (V.rets rfl (Or.inr ⟨by simp,V.rets rfl (Lv.retG (by simp +contextual (disch:=first|omega|simp only[nx];omega) only[D1,cells_alloc_at,cells_alloc_ne,cells_set_at,cells_set_ne,yres,yres1,yresL,qA,qB,qC,D5,hF,hA,↓reduceIte,qD,qE];rfl) ?_ ?_)⟩))
    ·exact ((g1.trans g2).trans hg5).trans gy
    ·rw[flt,if_neg (not_not_intro hfit),if_pos (fun hh=>hw (hh.2.2.2.2.2.1 _ (List.getElem_mem hlt')))]
   ·refine zS ?_
    refine V.l0 ?_
    refine V.nil (Or.inl ⟨rfl,T.B.length-(k+1),by omega,?_⟩)
    refine⟨k+1,by omega,rfl,rfl,hg5.trans gy,?_,zF,zK⟩
    intro q hq
    rw[List.take_succ_eq_append_getElem hlt'] at hq
    rcases List.mem_append.1 hq with hq|hq
    ·exact hall q hq
    ·rw[List.mem_singleton.1 hq];exact Decidable.not_not.1 hw
  have hB : ∀ q∈T.B,wi (0) 500 q:=by
   have e : T.B.take k=T.B:=List.take_of_length_le (by omega)
   rw[e] at hall
   exact hall
  refine V.exit ?_
  refine zX ?_
  refine V.nil (Or.inr ⟨by simp,?_⟩)
  refine zX ?_
  refine zS ?_
  refine V.l0 ?_
  refine zS ?_
  refine V.re [(1,.pointer (some ⟨H.next,0,none⟩)),(6,I 0)] (N:=125) zF zK ?_
  clear hF hA
  intro t hF hA
  simp only[Kn,and_true] at hA
  refine V.loop (fun z t m X=>∃ (k : Nat),k≤T.Rt.length∧z=T.Rt.length-k∧m=[]∧Grow H2 X∧(∀ r∈T.Rt.take k,wi 0 1000 r)∧Full 125 t∧Kn [(1,.pointer (some ⟨H.next,0,none⟩)),(6,I k)] t) T.Rt.length ?_ ?_
  ·exact⟨0,by omega,by omega,rfl,hg5,by simp,zF,zK⟩
  clear hF hA
  rintro z t m X6 ⟨k,hk,rfl,rfl,hg6,hall,hF,hA⟩
  simp only[Kn,and_true] at hA
  have bx:=b2.grow hg6
  refine zS ?_
  have zf:=And.intro bx.2<|@hlr
  refine V.lz ?_
  refine zS ?_
  refine V.condP zP (fun hlt=>?_) (fun hlt=>?_)
  ·have hlt' : k<T.Rt.length:=by omega
   obtain⟨i,o,hp,hx⟩:=h.r.at hlt'
   obtain⟨hx1,_,_⟩:=hx _ ((g1.trans g2).trans hg6)
   refine zS ?_
   refine V.run ?_
   have zf:=And.intro bx.2<|And.intro @hp<|@hx1
   refine VI.sz 5 ?_
   simp only[ds]
   refine VI.callA rfl (f45_ok T.Rt[k] (0) 1000 X6) zA (fun Y gy=>?_)
   refine VI.l0 ?_
   refine zS ?_
   refine V.condP zP (fun hw=>?_) (fun hw=>?_)
   ·refine zS ?_
    refine V.l0 ?_
    refine zS ?_
    refine V.ret (V.rets rfl (Or.inr ⟨by simp,V.rets rfl (Lv.retG (by simp +contextual (disch:=first|omega|simp only[nx];omega) only[D1,cells_alloc_at,cells_alloc_ne,cells_set_at,cells_set_ne,yres,yres1,yresL,qA,qB,qC,D5,hF,hA,↓reduceIte,qD,qE];rfl) ?_ ?_)⟩))
    ·exact ((g1.trans g2).trans hg6).trans gy
    ·rw[flt,if_neg (not_not_intro hfit),if_pos (fun hh=>hw (hh.2.2.2.2.2.2.1 _ (List.getElem_mem hlt')))]
   ·refine zS ?_
    refine V.l0 ?_
    refine V.nil (Or.inl ⟨rfl,T.Rt.length-(k+1),by omega,?_⟩)
    refine⟨k+1,by omega,rfl,rfl,hg6.trans gy,?_,zF,zK⟩
    intro q hq
    rw[List.take_succ_eq_append_getElem hlt'] at hq
    rcases List.mem_append.1 hq with hq|hq
    ·exact hall q hq
    ·rw[List.mem_singleton.1 hq];exact Decidable.not_not.1 hw
  have hR : ∀ q∈T.Rt,wi (0) 1000 q:=by
   have e : T.Rt.take k=T.Rt:=List.take_of_length_le (by omega)
   rw[e] at hall
   exact hall
  refine V.exit ?_
  refine zX ?_
  refine V.nil (Or.inr ⟨by simp,?_⟩)
  refine zX ?_
  refine zS ?_
  refine V.l0 ?_
  refine zS ?_
  refine V.re [(1,.pointer (some ⟨H.next,0,none⟩)),(7,I 0)] (N:=125) zF zK ?_
  clear hF hA
  intro t hF hA
  simp only[Kn,and_true] at hA
  refine V.loop (fun z t m X=>∃ (k : Nat),k≤T.N.length∧z=T.N.length-k∧m=[]∧Grow H2 X∧(∀ r∈T.N.take k,wi (-50) 50 r)∧Full 125 t∧Kn [(1,.pointer (some ⟨H.next,0,none⟩)),(7,I k)] t) T.N.length ?_ ?_
  ·exact⟨0,by omega,by omega,rfl,hg6,by simp,zF,zK⟩
  clear hF hA
  rintro z t m X7 ⟨k,hk,rfl,rfl,hg7,hall,hF,hA⟩
  simp only[Kn,and_true] at hA
  have bx:=b2.grow hg7
  refine zS ?_
  have zf:=And.intro bx.2<|@hln
  refine V.lz ?_
  refine zS ?_
  refine V.condP zP (fun hlt=>?_) (fun hlt=>?_)
  ·have hlt' : k<T.N.length:=by omega
   obtain⟨i,o,hp,hx⟩:=h.n.at hlt'
   obtain⟨hx1,_,_⟩:=hx _ ((g1.trans g2).trans hg7)
   refine zS ?_
   refine V.run ?_
   have zf:=And.intro bx.2<|And.intro @hp<|@hx1
   refine VI.sz 5 ?_
   simp only[ds]
   refine VI.callA rfl (f45_ok T.N[k] (-50) 50 X7) zA (fun Y gy=>?_)
   refine VI.l0 ?_
   refine zS ?_
   refine V.condP zP (fun hw=>?_) (fun hw=>?_)
   ·refine zS ?_
    refine V.l0 ?_
    refine zS ?_
    refine V.ret (V.rets rfl (Or.inr ⟨by simp,V.rets rfl (Lv.retG (by simp +contextual (disch:=first|omega|simp only[nx];omega) only[D1,cells_alloc_at,cells_alloc_ne,cells_set_at,cells_set_ne,yres,yres1,yresL,qA,qB,qC,D5,hF,hA,↓reduceIte,qD,qE];rfl) ?_ ?_)⟩))
    ·exact ((g1.trans g2).trans hg7).trans gy
    ·rw[flt,if_neg (not_not_intro hfit),if_pos (fun hh=>hw (hh.2.2.2.2.2.2.2 _ (List.getElem_mem hlt')))]
   ·refine zS ?_
    refine V.l0 ?_
    refine V.nil (Or.inl ⟨rfl,T.N.length-(k+1),by omega,?_⟩)
    refine⟨k+1,by omega,rfl,rfl,hg7.trans gy,?_,zF,zK⟩
    intro q hq
    rw[List.take_succ_eq_append_getElem hlt'] at hq
    rcases List.mem_append.1 hq with hq|hq
    ·exact hall q hq
    ·rw[List.mem_singleton.1 hq];exact Decidable.not_not.1 hw
  have hN : ∀ q∈T.N,wi (-50) 50 q:=by
   have e : T.N.take k=T.N:=List.take_of_length_le (by omega)
   rw[e] at hall
   exact hall
  refine V.exit ?_
  refine zX ?_
  refine V.nil (Or.inr ⟨by simp,?_⟩)
  refine zX ?_
  refine zS ?_
  refine V.l0 ?_
  refine zS ?_
  refine V.ret (V.rets rfl (Lv.retG (by simp +contextual (disch:=first|omega|simp only[nx];omega) only[D1,cells_alloc_at,cells_alloc_ne,cells_set_at,cells_set_ne,yres,yres1,yresL,qA,qB,qC,D5,hF,hA,↓reduceIte,qD,qE];rfl) ?_ ?_))
  ·exact (g1.trans g2).trans hg7
  ·rw[flt,if_neg (not_not_intro hfit),if_neg (not_not_intro ⟨hd1,hd2,hd3,hd4,hC,hB,hR,hN⟩)]
end Go.Xe.TFX
