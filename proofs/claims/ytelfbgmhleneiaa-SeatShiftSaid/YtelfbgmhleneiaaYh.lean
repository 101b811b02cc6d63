/- What the functions of the layer seat come to: SeatShift. Conditions: none. -/
import Derived.Test.YtelfbgmhleneiaaTUX
import Derived.Test.YtelfbgmhleneiaaZm
import Derived.WideShapes
import Derived.ChangeSame
import Derived.Below
-- MOD TV
namespace Go.Xe.TVX
open Go Go.Xe Go.Proofs
open Nat renaming reduceLeDiff → qA, reduceSub → qB, reduceAdd → qC, reduceEqDiff → qD, reduceLT → qE
open Int renaming reduceNegSucc → qF, reduceEq → qG
open Go.Xe.V renaming seq → sA, block → sB, scope → sC, skip → sD, close → sE
open Go.Xe renaming pth → P
open Go.Xe.Sea
set_option maxRecDepth 100000
set_option maxHeartbeats 3200000
set_option linter.unusedSimpArgs false
noncomputable def d18 : FCode:=(.seq (.run (.go (.box 23 (tm 0)) (P 4)::
.go (.move (.con (.bool false))) (P 8)::
[])) (.seq (.seq (.run (.go (.loadN 3 (tm 4)) (P 23)::
.go (.move (tm 1)) (P 24)::
.go (.call (.con (.func (.func 48) ⟨[]⟩ ⟨[]⟩)) [(tm 23),(tm 24)]) (P 25)::
.go (.un .not (tm 25)) (P 26)::
.go (.move (tm 26)) (P 27)::
.gd (P 27) false (.move (tm 1)) (P 28)::
.gd (P 27) false (.len 0 (tm 28)) (P 29)::
.gd (P 27) false (.bin .eql 3 (tm 29) (.con (.int .i64 (.ofNat 0)))) (P 30)::
.go (.pick (tm 27) (.con (.bool true)) (tm 30)) (P 31)::
[])) (.cond (tm 31) (.seq (.run (.go (.call (.con (.func (.func 20) ⟨[]⟩ ⟨[]⟩)) []) (P 32)::
.go (.move (tm 32)) (P 8)::
[])) .ret) .skip)) (.seq (.run (.go (.loadN 3 (tm 4)) (P 34)::
.go (.call (.con (.func (.func 22) ⟨[]⟩ ⟨[]⟩)) [tm 34]) (P 35)::
.go (.move (tm 1)) (P 36)::
.go (.call (.con (.func (.func 24) ⟨[]⟩ ⟨[]⟩)) [tm 36]) (P 37)::
.go (.call (.con (.func (.func 43) ⟨[]⟩ ⟨[]⟩)) [(tm 35),(tm 37)]) (P 38)::
.go (.move (tm 38)) (P 33)::
.go (.extract (tm 33) 0) (P 39)::
.go (.extract (tm 33) 1) (P 40)::
.go (.extract (tm 33) 2) (P 41)::
.go (.move (tm 39)) (P 9)::
.go (.move (tm 40)) (P 10)::
.go (.move (tm 41)) (P 11)::
[])) (.seq (.run (.go (.loadN 3 (tm 4)) (P 43)::
.go (.call (.con (.func (.func 22) ⟨[]⟩ ⟨[]⟩)) [tm 43]) (P 44)::
.go (.move (tm 1)) (P 45)::
.go (.call (.con (.func (.func 24) ⟨[]⟩ ⟨[]⟩)) [tm 45]) (P 46)::
.go (.call (.con (.func (.func 23) ⟨[]⟩ ⟨[]⟩)) [(tm 44),(tm 46)]) (P 47)::
.go (.move (tm 47)) (P 42)::
.go (.extract (tm 42) 0) (P 48)::
.go (.extract (tm 42) 1) (P 49)::
.go (.move (tm 48)) (P 12)::
.go (.move (tm 49)) (P 13)::
[])) (.seq (.seq (.run (.go (.move (tm 13)) (P 50)::
.go (.bin .neq 26 (tm 50) (.con (.int .i64 (.ofNat 0)))) (P 51)::
[])) (.cond (tm 51) (.seq (.run (.go (.move (tm 11)) (P 52)::
.go (.bin .eql 26 (tm 52) (.con (.int .i64 (.ofNat 10)))) (P 53)::
.go (.move (tm 53)) (P 54)::
.gd (P 54) true (.move (tm 13)) (P 55)::
.gd (P 54) true (.bin .eql 26 (tm 55) (.con (.int .i64 (.ofNat 10)))) (P 56)::
.go (.pick (tm 54) (tm 56) (.con (.bool false))) (P 57)::
.go (.move (tm 57)) (P 58)::
.gd (P 58) true (.call (.con (.func (.func 20) ⟨[]⟩ ⟨[]⟩)) []) (P 59)::
.go (.pick (tm 58) (tm 59) (.con (.bool false))) (P 60)::
.go (.move (tm 60)) (P 8)::
[])) .ret) .skip)) (.seq (.seq (.run (.go (.move (tm 11)) (P 61)::
.go (.bin .eql 26 (tm 61) (.con (.int .i64 (.ofNat 0)))) (P 62)::
[])) (.cond (tm 62) (.seq (.seq (.run (.go (.move (tm 9)) (P 63)::
.go (.bin .lss 3 (tm 63) (.con (.int .i64 (.ofNat 0)))) (P 64)::
.go (.move (tm 64)) (P 65)::
.gd (P 65) false (.move (tm 9)) (P 66)::
.gd (P 65) false (.move (tm 1)) (P 67)::
.gd (P 65) false (.len 0 (tm 67)) (P 68)::
.gd (P 65) false (.bin .geq 3 (tm 66) (tm 68)) (P 69)::
.go (.pick (tm 65) (.con (.bool true)) (tm 69)) (P 70)::
.go (.move (tm 70)) (P 71)::
.gd (P 71) false (.move (tm 10)) (P 72)::
.gd (P 71) false (.bin .eql 3 (tm 72) (.con (.int .i64 (.ofNat 0)))) (P 73)::
.go (.pick (tm 71) (.con (.bool true)) (tm 73)) (P 74)::
.go (.move (tm 74)) (P 75)::
.gd (P 75) false (.move (tm 1)) (P 76)::
.gd (P 75) false (.move (tm 9)) (P 77)::
.gd (P 75) false (.indexAddr none 1 (tm 76) (tm 77)) (P 78)::
.gd (P 75) false (.load1 (tm 78)) (P 79)::
.gd (P 75) false (.move (tm 10)) (P 80)::
.gd (P 75) false (.bin .add 3 (tm 79) (tm 80)) (P 81)::
.gd (P 75) false (.call (.con (.func (.func 38) ⟨[]⟩ ⟨[]⟩)) [(tm 81),(.con (.int .i64 (.ofNat 0))),(.con (.int .i64 (.ofNat 10000)))]) (P 82)::
.gd (P 75) false (.un .not (tm 82)) (P 83)::
.go (.pick (tm 75) (.con (.bool true)) (tm 83)) (P 84)::
[])) (.cond (tm 84) (.seq (.run (.go (.move (.con (.bool false))) (P 8)::
[])) .ret) .skip)) (.seq (.run (.go (.move (tm 1)) (P 85)::
.go (.call (.con (.func (.func 24) ⟨[]⟩ ⟨[]⟩)) [tm 85]) (P 86)::
.go (.move (tm 86)) (P 14)::
[])) (.seq (.run (.go (.move (tm 14)) (P 87)::
.go (.move (tm 9)) (P 88)::
.go (.indexAddr none 1 (tm 87) (tm 88)) (P 89)::
.go (.load1 (tm 89)) (P 90)::
.go (.move (tm 10)) (P 91)::
.go (.bin .add 3 (tm 90) (tm 91)) (P 92)::
.go (.indexAddr none 1 (tm 87) (tm 88)) (P 93)::
.un (.store 1 (tm 93) (tm 92))::
[])) (.seq (.run (.go (.loadN 3 (tm 4)) (P 95)::
.go (.call (.con (.func (.func 22) ⟨[]⟩ ⟨[]⟩)) [tm 95]) (P 96)::
.go (.move (tm 14)) (P 97)::
.go (.call (.con (.func (.func 23) ⟨[]⟩ ⟨[]⟩)) [(tm 96),(tm 97)]) (P 98)::
.go (.move (tm 98)) (P 94)::
.go (.extract (tm 94) 0) (P 99)::
.go (.extract (tm 94) 1) (P 100)::
.go (.move (tm 99)) (P 15)::
.go (.move (tm 100)) (P 16)::
[])) (.seq (.run (.go (.move (tm 16)) (P 101)::
.go (.bin .eql 26 (tm 101) (.con (.int .i64 (.ofNat 0)))) (P 102)::
.go (.move (tm 102)) (P 103)::
.gd (P 103) true (.move (tm 12)) (P 104)::
.gd (P 103) true (.move (tm 15)) (P 105)::
.gd (P 103) true (.call (.con (.func (.func 28) ⟨[]⟩ ⟨[]⟩)) [(tm 104),(tm 105)]) (P 106)::
.go (.pick (tm 103) (tm 106) (.con (.bool false))) (P 107)::
[])) (.cond (tm 107) (.seq (.run (.go (.move (.con (.bool false))) (P 8)::
[])) .ret) .skip)))))) (.seq (.run (.go (.move (tm 11)) (P 108)::
.go (.bin .neq 26 (tm 108) (.con (.int .i64 (.ofNat 9)))) (P 109)::
[])) (.cond (tm 109) (.seq (.run (.go (.move (.con (.bool false))) (P 8)::
[])) .ret) .skip)))) (.seq (.run (.go (.move (tm 2)) (P 110)::
.go (.conv .i64 (tm 110)) (P 111)::
.go (.move (tm 1)) (P 112)::
.go (.len 0 (tm 112)) (P 113)::
.go (.bin .rem 3 (tm 111) (tm 113)) (P 114)::
.go (.move (tm 114)) (P 17)::
[])) (.seq (.run (.go (.move (tm 1)) (P 115)::
.go (.call (.con (.func (.func 24) ⟨[]⟩ ⟨[]⟩)) [tm 115]) (P 116)::
.go (.move (tm 116)) (P 18)::
[])) (.seq (.run (.go (.move (tm 18)) (P 117)::
.go (.move (tm 17)) (P 118)::
.go (.move (tm 18)) (P 119)::
.go (.move (tm 17)) (P 120)::
.go (.indexAddr none 1 (tm 119) (tm 120)) (P 121)::
.go (.load1 (tm 121)) (P 122)::
.go (.move (tm 3)) (P 123)::
.go (.conv .i64 (tm 123)) (P 124)::
.go (.bin .add 3 (tm 122) (tm 124)) (P 125)::
.go (.mm false [(.con (.int .i64 (.ofNat 10000))),(tm 125)]) (P 126)::
.go (.mm true [(.con (.int .i64 (.ofNat 0))),(tm 126)]) (P 127)::
.go (.indexAddr none 1 (tm 117) (tm 118)) (P 128)::
.un (.store 1 (tm 128) (tm 127))::
[])) (.seq (.draw 12 (.go (.move (tm 18)) (P 129)::
.go (.move (tm 17)) (P 130)::
.go (.indexAddr none 1 (tm 129) (tm 130)) (P 131)::
.go (.load1 (tm 131)) (P 132)::
.go (.move (tm 1)) (P 133)::
.go (.move (tm 17)) (P 134)::
.go (.indexAddr none 1 (tm 133) (tm 134)) (P 135)::
.go (.load1 (tm 135)) (P 136)::
.go (.bin .sub 3 (tm 132) (tm 136)) (P 137)::
.go (.move (tm 10)) (P 138)::
.go (.move (tm 137)) (P 19)::
.go (.move (tm 138)) (P 20)::
[]) [.ok,.ok,.ok,.ok,.ok,.ok,.ok,.ok,.ok,.ok,.ok,.ok]) (.seq (.seq (.run (.go (.move (tm 19)) (P 139)::
.go (.bin .lss 3 (tm 139) (.con (.int .i64 (.ofNat 0)))) (P 140)::
[])) (.cond (tm 140) (.run (.go (.move (tm 19)) (P 141)::
.go (.un .neg (tm 141)) (P 142)::
.go (.move (tm 142)) (P 19)::
[])) .skip)) (.seq (.seq (.run (.go (.move (tm 20)) (P 143)::
.go (.bin .lss 3 (tm 143) (.con (.int .i64 (.ofNat 0)))) (P 144)::
[])) (.cond (tm 144) (.run (.go (.move (tm 20)) (P 145)::
.go (.un .neg (tm 145)) (P 146)::
.go (.move (tm 146)) (P 20)::
[])) .skip)) (.seq (.seq (.run (.go (.move (tm 11)) (P 147)::
.go (.bin .eql 26 (tm 147) (.con (.int .i64 (.ofNat 0)))) (P 148)::
.go (.move (tm 148)) (P 149)::
.gd (P 149) true (.move (tm 19)) (P 150)::
.gd (P 149) true (.move (tm 20)) (P 151)::
.gd (P 149) true (.bin .geq 3 (tm 150) (tm 151)) (P 152)::
.go (.pick (tm 149) (tm 152) (.con (.bool false))) (P 153)::
[])) (.cond (tm 153) (.seq (.run (.go (.call (.con (.func (.func 20) ⟨[]⟩ ⟨[]⟩)) []) (P 154)::
.go (.move (tm 154)) (P 8)::
[])) .ret) .skip)) (.seq (.run (.go (.loadN 3 (tm 4)) (P 156)::
.go (.call (.con (.func (.func 22) ⟨[]⟩ ⟨[]⟩)) [tm 156]) (P 157)::
.go (.move (tm 18)) (P 158)::
.go (.call (.con (.func (.func 23) ⟨[]⟩ ⟨[]⟩)) [(tm 157),(tm 158)]) (P 159)::
.go (.move (tm 159)) (P 155)::
.go (.extract (tm 155) 0) (P 160)::
.go (.extract (tm 155) 1) (P 161)::
.go (.move (tm 160)) (P 21)::
.go (.move (tm 161)) (P 22)::
[])) (.seq (.run (.go (.move (tm 22)) (P 162)::
.go (.bin .eql 26 (tm 162) (.con (.int .i64 (.ofNat 0)))) (P 163)::
.go (.move (tm 163)) (P 164)::
.gd (P 164) true (.move (tm 12)) (P 165)::
.gd (P 164) true (.move (tm 21)) (P 166)::
.gd (P 164) true (.call (.con (.func (.func 28) ⟨[]⟩ ⟨[]⟩)) [(tm 165),(tm 166)]) (P 167)::
.go (.pick (tm 164) (tm 167) (.con (.bool false))) (P 168)::
.go (.move (tm 168)) (P 169)::
.gd (P 169) true (.call (.con (.func (.func 20) ⟨[]⟩ ⟨[]⟩)) []) (P 170)::
.go (.pick (tm 169) (tm 170) (.con (.bool false))) (P 171)::
.go (.move (tm 171)) (P 8)::
[])) .ret)))))))))))))))
theorem de18 : @compF Try.prog (Gl.none Try.prog) Try.f18 4=.mk d18 (mkTT 172) [(P 0),(P 1),(P 2),(P 3)] [.tmp (P 8)]:=by kernel_rfl
theorem dg18 : Try.prog.funcs[18]?=some Try.f18:=Try.func18
theorem do18 : okF Try.prog Try.f18=true:=by kernel_rfl
def ab (d : Int) : Int:=if d<0 then 0-d else d
theorem SC_stay {mv : Nat→Int→Prop} {k : Nat} {i ch e : Int} (h : SC mv k i ch e) {q : Nat} {d : Int} (hq : q<k) (hd : d≠0) (hb : ab d≤10000) (hs : ¬ (e=0∧ab ch≤ab d)) : ¬ mv q d:=by
 unfold ab at hb hs
 have key : ∀ z : Int,(∀ o (d : Int),o<k→1≤d→d<z→¬ mv o d∧¬ mv o (-d))→(if d<0 then 0-d else d)<z→¬ mv q d:=by
  intro z hz hl
  split at hl
  ·have:=(hz q (-d) hq (by omega) (by omega)).2
   rw[Int.neg_neg] at this
   exact this
  ·exact (hz q d hq (by omega) hl).1
 rcases h with⟨_,_,_,k3⟩|⟨rfl,j,z,rfl,hj,hz1,hz2,hch,hmv,k1,k2⟩
 ·exact key 10001 (fun o d ho h1 h2=>k3 o d ho h1 (by omega)) (by omega)
 ·refine key z k1 ?_
  have hz : (if ch<0 then 0-ch else ch)=z:=by
   rcases hch with rfl|⟨rfl,_⟩
   ·rw[if_neg (by omega)]
   ·rw[if_pos (by omega)];omega
  rw[hz] at hs
  apply Decidable.by_contra
  intro hh
  exact hs ⟨rfl,by omega⟩
theorem SC_bd {mv : Nat→Int→Prop} {k : Nat} {i ch e : Int} (h : SC mv k i ch e) : -10000≤ch∧ch≤10000:=by
 rcases h with⟨_,_,rfl,_⟩|⟨_,j,z,_,_,hz1,hz2,hch,_⟩
 ·omega
 ·rcases hch with rfl|⟨rfl,_⟩<;>omega
theorem f18_all {H : Heap} {m S L wh by' : Int} {x : Value} {l : List Int} (hx : Sl H x (l.map I)) (hw : 0≤wh∧wh≤255) (hby : -32768≤by'∧by'≤32767) : F Try.prog 18 ⟨[.agg ⟨A3 m S L⟩,x,.int .u8 wh,.int .i16 by']⟩ H (fun w _=>w=.bool true):=by
 have h : LS H x l:=⟨hx⟩
 have hl:=h.len
 obtain⟨px,nx',cx,rfl⟩:=h.s.isS
 refine F.entryL rfl dg18 do18 de18 rfl (by kernel_rfl) ?_
 simp only[sets]
 refine V.re [(0,.agg ⟨A3 m S L⟩),(1,.slice px nx' cx),(2,.int .u8 wh),(3,.int .i16 by')] (N:=172) zE zY ?_
 intro t hF hA
 simp only[Kn,and_true] at hA
 refine zS ?_
 refine V.l0 ?_
 refine V.heap (fun X=>Grow H X∧Bx X H.next (A3 m S L) 23) ⟨?_,?_⟩ ?_
 ·exact zW
 ·exact zB
 rintro H1 ⟨g1,b1⟩
 refine zS ?_
 refine V.run ?_
 have zf:=b1.2
 refine VI.sz 2 ?_
 simp only[ds]
 refine VI.callA rfl (f48_ok (m:=m) (S:=S) (L:=L) (h.grow g1)) zA (fun H2 g2=>?_)
 have b2:=b1.grow g2
 have g12:=g1.trans g2
 have zf:=And.intro b2.2<|@hl
 refine VI.lz ?_
 refine zS ?_
 refine V.condP zP (fun h0=>?_) (fun h0=>?_)
 ·refine zS ?_
  refine V.run ?_
  refine VI.callA rfl (f20_ok _) zA (fun H3 g3=>?_)
  refine VI.l0 ?_
  refine zS ?_
  refine V.ret (V.rets rfl (Lv.retF (by simp +contextual (disch:=first|omega|simp only[nx];omega) only[D1,cells_alloc_at,cells_alloc_ne,cells_set_at,cells_set_ne,yres,yres1,yresL,qA,qB,qC,D5,hF,hA,↓reduceIte,qD,qE];rfl) ?_))
  rfl
 have h00 : flt m S L l=0∧¬ l.length=0:=by
  refine⟨?_,?_⟩
  ·exact Decidable.by_contra fun hh=>h0 (by simp[hh])
  ·exact fun hh=>h0 (by simp[hh])
 clear h0
 obtain⟨h0,hn0⟩:=h00
 obtain⟨hr,hl8,hb⟩:=flt_0.1 h0
 have hgb:=gl0_bd hb
 have hvk:=vl_ok (L:=L) hb
 have hv8:=vl_8 (L:=L) hl8
 have hS : 0≤S∧S≤61:=⟨hr.2.2.1,by have:=hr.2.2.2.1;omega⟩
 have hLl : Li l≠[]:=fun e=>hn0 (by rw[← Li_len,e];rfl)
 refine zS ?_
 refine V.run ?_
 have zf:=b2.2
 refine VI.sz 1 ?_
 simp only[ds]
 refine VI.callA rfl (f22_ok m S L _) zA (fun H3 g3=>?_)
 refine VI.s0 1 ?_
 simp only[ds]
 refine VI.callR zA (f24_ok (h.grow (g12.trans g3)) (by omega)) zA (fun w4 H4 ⟨g4,o4⟩=>?_)
 refine VI.callR zA (f43_ok (m:=m) (S:=S) (L:=L) (ow_ls o4)) zA (fun w5 H5 ⟨g5,i,ch,e,hw5,k5⟩=>?_)
 subst hw5
 have b5:=((b2.grow g3).grow g4).grow g5
 have gH5:=((g12.trans g3).trans g4).trans g5
 refine VI.l0 ?_
 refine zS ?_
 refine V.run ?_
 have zf:=b5.2
 refine VI.sz 1 ?_
 simp only[ds]
 refine VI.callA rfl (f22_ok m S L _) zA (fun H6 g6=>?_)
 refine VI.s0 1 ?_
 simp only[ds]
 refine VI.callR zA (f24_ok (h.grow (gH5.trans g6)) (by omega)) zA (fun w7 H7 ⟨g7,o7⟩=>?_)
 refine VI.callR zA (f23_ok (m:=m) (S:=S) (L:=L) (ow_ls o7) hS) zA (fun w8 H8 ⟨g8,s8⟩=>?_)
 have g58:=(g6.trans g7).trans g8
 have b8:=b5.grow g58
 have gH8:=gH5.trans g58
 obtain⟨y1,e1,rfl,k1⟩:=s8.ok h0
 rcases k1 with⟨hns,rfl,rfl⟩|⟨hsu,rfl,q1⟩
 ·rcases k5 with⟨k,_⟩|⟨_,_,rfl,rfl,rfl⟩|⟨_,k,_⟩
  ·exact absurd h0 k
  ·refine VI.l0 ?_
   refine zS ?_
   refine V.l0 ?_
   refine zS ?_
   refine V.condT zA ?_
   refine zS ?_
   refine V.run ?_
   refine VI.s0 7 ?_
   simp only[ds]
   refine VI.callAT zG rfl (f20_ok _) zA (fun Ha ga=>?_)
   refine VI.l0 ?_
   refine zS ?_
   refine V.ret (V.rets rfl (Lv.retF (by simp +contextual (disch:=first|omega|simp only[nx];omega) only[D1,cells_alloc_at,cells_alloc_ne,cells_set_at,cells_set_ne,yres,yres1,yresL,qA,qB,qC,D5,hF,hA,↓reduceIte,qD,qE];rfl) ?_))
   rfl
  ·exact absurd k hns
 have hsc : SC (Mov m S L (gl0 l) (otc m S (vl L l)).1) l.length i ch e:=by
  rcases k5 with⟨k,_⟩|⟨_,k,_⟩|⟨_,_,k⟩
  ·exact absurd h0 k
  ·exact absurd hsu k
  ·exact k
 clear k5 s8
 have hchb:=SC_bd hsc
 refine VI.l0 ?_
 refine zS ?_
 refine V.l0 ?_
 refine zS ?_
 refine V.condP zP (fun hc=>?_) (fun hc=>?_)
 ·exact absurd trivial hc
 clear hc
 refine zS ?_
 refine V.l0 ?_
 refine zS ?_
 refine V.join (fun t mm X=>mm=[]∧Grow H8 X∧Full 172 t∧Kn [(1,.slice px nx' cx),(2,.int .u8 wh),(3,.int .i16 by'),(4,PT H.next),(10,I ch),(11,I e),(12,y1)] t) ?_ ?_
 ·rcases id hsc with⟨rfl,rfl,rfl,_⟩|⟨rfl,j,z,rfl,hj,hz1,hz2,hch,hmv,_,_⟩
  ·refine V.condF zA ?_
   refine zS ?_
   refine V.l0 ?_
   refine zS ?_
   refine V.condP zP (fun hc=>?_) (fun hc=>?_)
   ·exact absurd trivial hc
   refine zS ?_
   refine V.nil (Or.inl ⟨rfl,rfl,.refl _,zF,zK⟩)
  ·have hin:=hmv.1
   have h0':=flt_set (p:=j) h0 hin
   obtain⟨_,hl8',hb'⟩:=flt_0.1 h0'
   have hst:=((mov_iff h0 hj).1 hmv).2
   obtain⟨lp,lp1,lp2⟩:=h.at hj
   have lp3:=lp2 H8 gH8
   rw[← gl0_at hj] at lp3
   have hgj:=hgb j
   have hj0 : ((j : Int)<0)=False:=eq_false (by omega)
   have hjl : ((l.length : Int)≤(j : Int))=False:=eq_false (by omega)
   have hc0 : (ch=0)=False:=eq_false (by rcases hch with rfl|⟨rfl,_⟩<;>omega)
   have f38b:=f38_ok (gl0 l j+ch) 0 10000
   rw[decide_eq_true hin] at f38b
   refine V.condT zA ?_
   refine zS ?_
   refine V.run ?_
   have zf:=And.intro @hl<|And.intro @hj0<|And.intro @hjl<|And.intro @hc0<|And.intro @lp1<|@lp3
   refine VI.sz 9 ?_
   simp only[ds]
   have zf:=And.intro @hl<|And.intro @hj0<|And.intro @hjl<|And.intro @hc0<|And.intro @lp1<|@lp3
   refine VI.sz 9 ?_
   simp only[ds]
   have zf:=And.intro @hl<|And.intro @hj0<|And.intro @hjl<|And.intro @hc0<|And.intro @lp1<|@lp3
   refine VI.sz 1 ?_
   simp only[ds]
   refine VI.callAT zG rfl (f38b _) zA (fun Ha ga=>?_)
   refine VI.l0 ?_
   refine zS ?_
   refine V.condF zA ?_
   have ba:=b8.grow ga
   refine zS ?_
   refine V.run ?_
   refine VI.s0 1 ?_
   simp only[ds]
   refine VI.callR zA (f24_ok (h.grow (gH8.trans ga)) (by omega)) zA (fun w9 H9 ⟨g9,o9⟩=>?_)
   rcases o9 with⟨_,e⟩|⟨ix,ix1,ix2,rfl,ix3⟩
   ·exact absurd e hLl
   rw[Li_len]
   have oi:=own_idx (y:=ix) (c:=l.length) hj
   have hLk:=Li_at hj
   rw[← gl0_at hj] at hLk
   have hLs:=Li_set l j (gl0 l j+ch)
   have b9:=ba.grow g9
   have g89:=ga.trans g9
   have n8:=ga.1
   have n9:=b8.1
   refine VI.l0 ?_
   refine zS ?_
   have zf:=And.intro @oi<|And.intro @ix3<|And.intro @hLk<|And.intro @Li_len<|And.intro @hj<|@hLs
   refine V.lz ?_
   refine V.heap (fun X=>Grow H8 X∧Bx X H.next (A3 m S L) 23∧Ow H8 X 3 (.slice (some ⟨ix,0,none⟩) l.length l.length) (Li (l.set j (gl0 l j+ch)))) ⟨?_,?_,?_⟩ ?_
   ·exact g89.set (by omega) _
   ·exact b9.set (by omega) _
   ·refine .inr ⟨ix,by omega,ix2,by rw[Li_len,List.length_set],cells_set _ _ _ _ _⟩
   rintro Ha ⟨ga,ba,oa⟩
   refine zS ?_
   refine V.run ?_
   have zf:=ba.2
   refine VI.sz 1 ?_
   simp only[ds]
   refine VI.callA rfl (f22_ok m S L _) zA (fun Hb gb=>?_)
   refine VI.s0 1 ?_
   simp only[ds]
   refine VI.callR zA (f23_ok (m:=m) (S:=S) (L:=L) ((ow_ls oa).grow gb) hS) zA (fun wc Hc ⟨gc,sc⟩=>?_)
   obtain⟨y2,e2,rfl,k2⟩:=sc.ok h0'
   have gac:=(ga.trans gb).trans gc
   have q1c:=q1.grow gac
   rcases k2 with⟨_,rfl,rfl⟩|⟨hs2,rfl,q2⟩
   ·refine VI.l0 ?_
    refine zS ?_
    refine V.run ?_
    refine VI.s0 5 ?_
    simp only[ds]
    refine VI.gdF zG ?_
    refine VI.l0 ?_
    refine zS ?_
    refine V.condF zA ?_
    refine zS ?_
    refine V.nil (Or.inl ⟨rfl,rfl,gac,zF,zK⟩)
   ·rw[List.length_set] at q2
    have f28':=f28_ok q1c q2 (by rw[fl_len];omega)
    rw[decide_eq_false (fun k=>hst ⟨hs2,k⟩)] at f28'
    refine VI.l0 ?_
    refine zS ?_
    refine V.run ?_
    refine VI.s0 5 ?_
    simp only[ds]
    refine VI.callAT zG rfl (f28') zA (fun Hd gd=>?_)
    refine VI.l0 ?_
    refine zS ?_
    refine V.condF zA ?_
    refine zS ?_
    refine V.nil (Or.inl ⟨rfl,rfl,gac.trans gd,zF,zK⟩)
 clear hF hA
 rintro t _ X ⟨rfl,gX,hF,hA⟩
 simp only[Kn,and_true] at hA
 have bX:=b8.grow gX
 have gHX:=gH8.trans gX
 have q1X:=q1.grow gX
 have hnz : ¬ (l.length : Int)=0:=by omega
 have htm:=tmod_bd (a:=wh) (b:=l.length) hw.1 (by omega)
 obtain⟨k,hk⟩ : ∃ k : Nat,wh.tmod l.length=k:=⟨(wh.tmod l.length).toNat,by omega⟩
 have hkl : k<l.length:=by omega
 refine zS ?_
 have zf:=And.intro @hl<|And.intro @hnz<|@hk
 refine V.lz ?_
 refine zS ?_
 refine V.run ?_
 refine VI.s0 1 ?_
 simp only[ds]
 refine VI.callR zA (f24_ok (h.grow gHX) (by omega)) zA (fun w9 H9 ⟨g9,o9⟩=>?_)
 rcases o9 with⟨_,e⟩|⟨ix,ix1,ix2,rfl,ix3⟩
 ·exact absurd e hLl
 rw[Li_len]
 have oi:=own_idx (y:=ix) (c:=l.length) hkl
 have hgk:=hgb k
 have hLk:=Li_at hkl
 rw[← gl0_at hkl] at hLk
 have b9:=bX.grow g9
 have n9:=bX.1
 have nX:=gHX.1
 obtain⟨y,hy⟩ : ∃ y,y=(if (if gl0 l k+by'<10000 then gl0 l k+by' else 10000) > 0 then (if gl0 l k+by'<10000 then gl0 l k+by' else 10000) else 0):=⟨_,rfl⟩
 have hyb : 0≤y∧y≤10000:=by rw[hy];split<;>split<;>omega
 have hLs:=Li_set l k y
 rw[hy] at hLs
 refine VI.l0 ?_
 refine zS ?_
 have zf:=And.intro @oi<|And.intro @ix3<|And.intro @hLk<|And.intro @Li_len<|And.intro @hkl<|@hLs
 refine V.lz ?_
 rw[← hy]
 refine V.heap (fun X'=>Grow X X'∧Bx X' H.next (A3 m S L) 23∧LS X' (.slice (some ⟨ix,0,none⟩) l.length l.length) (l.set k y)) ⟨?_,?_,?_⟩ ?_
 ·exact g9.set (by omega) _
 ·exact b9.set (by omega) _
 ·exact ow_ls (H0:=X) (.inr ⟨ix,ix1,ix2,by rw[Li_len,List.length_set],cells_set _ _ _ _ _⟩)
 rintro Ha ⟨ga,ba,qa⟩
 have gHa:=gHX.trans ga
 obtain⟨lp,lp1,lp2⟩:=h.at hkl
 have lp3:=lp2 Ha gHa
 rw[← gl0_at hkl] at lp3
 obtain⟨lq,lq1,lq2⟩:=qa.at (k:=k) (by rw[List.length_set];exact hkl)
 have lq3:=lq2 Ha (.refl _)
 rw[List.getElem_set_self] at lq3
 obtain⟨d,hd⟩ : ∃ d,d=y-gl0 l k:=⟨_,rfl⟩
 have hdb : -10000≤d∧d≤10000:=by omega
 refine zS ?_
 have zf:=And.intro @lp1<|And.intro @lp3<|And.intro @lq1<|@lq3
 refine V.dz ?_ ?_ rfl ?_
 ·exact zM
 ·simp only[dcAll,dcOk,wantD,List.cons_append,List.nil_append,true_and,and_true]
 rw[← hd]
 refine zS ?_
 refine V.l0 ?_
 refine zS ?_
 refine V.join (fun t mm X=>mm=[]∧X=Ha∧Full 172 t∧Kn [(4,PT H.next),(11,I e),(12,y1),(18,.slice (some ⟨ix,0,none⟩) l.length l.length),(19,I (ab d)),(20,I ch)] t) ?_ ?_
 ·unfold ab
  refine V.condP zP (fun hneg=>?_) (fun hneg=>?_)
  ·rw[if_pos hneg]
   refine zS ?_
   refine V.l0 ?_
   refine zS ?_
   refine V.nil (Or.inl ⟨rfl,rfl,rfl,zF,zK⟩)
  ·rw[if_neg hneg]
   refine zS ?_
   refine V.nil (Or.inl ⟨rfl,rfl,rfl,zF,zK⟩)
 clear hF hA
 rintro t _ X' ⟨rfl,hX',hF,hA⟩
 obtain rfl : Ha=X':=hX'.symm
 simp only[Kn,and_true] at hA
 refine zS ?_
 refine V.l0 ?_
 refine zS ?_
 refine V.join (fun t mm X=>mm=[]∧X=Ha∧Full 172 t∧Kn [(4,PT H.next),(11,I e),(12,y1),(18,.slice (some ⟨ix,0,none⟩) l.length l.length),(19,I (ab d)),(20,I (ab ch))] t) ?_ ?_
 ·unfold ab
  refine V.condP zP (fun hneg=>?_) (fun hneg=>?_)
  ·rw[if_pos hneg]
   refine zS ?_
   refine V.l0 ?_
   refine zS ?_
   refine V.nil (Or.inl ⟨rfl,rfl,rfl,zF,zK⟩)
  ·rw[if_neg hneg]
   refine zS ?_
   refine V.nil (Or.inl ⟨rfl,rfl,rfl,zF,zK⟩)
 clear hF hA
 rintro t _ X' ⟨rfl,hX',hF,hA⟩
 obtain rfl : Ha=X':=hX'.symm
 simp only[Kn,and_true] at hA
 refine zS ?_
 refine V.l0 ?_
 refine zS ?_
 refine V.condP zP (fun hge=>?_) (fun hge=>?_)
 ·refine zS ?_
  refine V.run ?_
  refine VI.callA rfl (f20_ok _) zA (fun Hb gb=>?_)
  refine VI.l0 ?_
  refine zS ?_
  refine V.ret (V.rets rfl (Lv.retF (by simp +contextual (disch:=first|omega|simp only[nx];omega) only[D1,cells_alloc_at,cells_alloc_ne,cells_set_at,cells_set_ne,yres,yres1,yresL,qA,qB,qC,D5,hF,hA,↓reduceIte,qD,qE];rfl) ?_))
  rfl
 have h0':=flt_set (p:=k) h0 hyb
 have hst : Stay m S L l k y:=by
  by_cases hd0 : d=0
  ·have e : l.set k y=l:=by
    have : y=l[k]:=by rw[← gl0_at hkl];omega
    rw[this]
    exact List.set_getElem_self hkl
   unfold Stay
   rw[e]
   exact⟨hsu,rfl⟩
  ·have hnm:=SC_stay hsc hkl hd0 (by unfold ab;split<;>omega) (fun hh=>hge hh)
   have ey : gl0 l k+d=y:=by omega
   apply Decidable.by_contra
   intro hh
   refine hnm ((mov_iff h0 hkl).2 ?_)
   rw[ey]
   exact⟨hyb,hh⟩
 refine zS ?_
 refine V.run ?_
 have zf:=ba.2
 refine VI.sz 1 ?_
 simp only[ds]
 refine VI.callA rfl (f22_ok m S L _) zA (fun Hb gb=>?_)
 refine VI.s0 1 ?_
 simp only[ds]
 refine VI.callR zA (f23_ok (m:=m) (S:=S) (L:=L) (qa.grow gb) hS) zA (fun wc Hc ⟨gc,sc⟩=>?_)
 obtain⟨y2,e2,rfl,k2⟩:=sc.ok h0'
 rcases k2 with⟨k2,_⟩|⟨_,rfl,q2⟩
 ·exact absurd hst.1 k2
 rw[List.length_set,← hst.2] at q2
 have f28':=f28_ok (q1X.grow ((ga.trans gb).trans gc)) q2 (by rw[fl_len];omega)
 rw[decide_eq_true rfl] at f28'
 refine VI.l0 ?_
 refine zS ?_
 refine V.run ?_
 refine VI.s0 5 ?_
 simp only[ds]
 refine VI.callAT zG rfl (f28') zA (fun Hd gd=>?_)
 refine VI.s0 2 ?_
 simp only[ds]
 refine VI.callAT zG rfl (f20_ok _) zA (fun He ge=>?_)
 refine VI.l0 ?_
 refine zS ?_
 refine V.ret (V.rets rfl (Lv.retF (by simp +contextual (disch:=first|omega|simp only[nx];omega) only[D1,cells_alloc_at,cells_alloc_ne,cells_set_at,cells_set_ne,yres,yres1,yresL,qA,qB,qC,D5,hF,hA,↓reduceIte,qD,qE];rfl) ?_))
 rfl
end Go.Xe.TVX
/- Rules of reasoning over the executable reading of the model's code (part Z16): arguments, by what their types allow. Conditions: none; for every program. -/
namespace Go.Xe
open Go Go.RowKit Go.ChangeShapes Go.WideShapes
theorem okWide_agg {P : Program} {w : World} {r : Reach} {base : Nat} {t : TypeId} {v : Value} {fs : Array Field} (ht : P.underlying t=some (.struct fs)) (h : Value.okWide P w r base t v) : ∃ cs,v=.agg cs:=by
 unfold Value.okWide at h
 rw[ht] at h
 obtain⟨cs,h,_⟩:=h
 exact⟨cs,h⟩
end Go.Xe
/- The end of a call that has changed nothing of what was there: what a statement asks of the memory behind it. Conditions: as post_of_same's, but that new memory may be frozen. -/
namespace Go.Xe
open Go Go.RowKit Go.ChangeShapes Go.WideShapes
variable {H : Type} {enc : TypeId×Value→H} {P : Program}
theorem post_of_old {f : Func} {s : ChangeSpec} {apart fresh handsOn again : Bool} {W W' : World} {args : Array Value} {v : Value} {ds gs : List (DataW H)} {before pa pv : List MemPlace}
  (hW : DataW.Whole enc P f.params.toList s.vars apart W args.toList ds gs before)
  (hres : ∀ (b : Nat) (sp : Nat→Bool) (hd : Bool),DataW.TrodAll enc P W' b sp hd f.resultTypes.toList (v.resultList f.resultTypes.size) (s.fn H (ds++gs)).results [])
  (hargs : ∀ sp : Nat→Bool,(∀ p∈before,sp p.block=true)→DataW.TrodAll enc P W' 0 sp true f.params.toList args.toList (s.fn H (ds++gs)).args pa)
  (hvars : ∀ sp : Nat→Bool,(∀ p∈before,sp p.block=true)→DataW.TrodVars enc P W' sp s.vars (s.fn H (ds++gs)).vars pv)
  (hps : before=pa++pv) (hk : W.keptBut W' (·∈before)) (hfz : ∀ a : Addr,a.block<W.heap.size→W'.frozen? a=W.frozen? a)
  (hok : ∀ (j : Nat) (t : TypeId) (r : Value),f.resultTypes[j]?=some t→(v.resultList f.resultTypes.size)[j]?=some r→Value.okWide P W' .any 0 t r) :
  s.post enc P f apart fresh handsOn again W args v W':=by
 have old : ∀ p∈before,p.block<W.heap.size:=fun p hp=>hW.lt p hp
 have hold : ∀ p∈before,(fun b=>decide (b<W.heap.size)) p.block=true:=fun p hp=>by simpa using old p hp
 subst hps
 refine⟨ds,gs,_,[],pa,pv,hW,hres _ _ _,hargs _ hold,hvars _ hold,World.keptBut_mono (fun p hp=>⟨hp,.inr (List.mem_append.1 hp)⟩) hk,fun _=>?_⟩
 obtain⟨_,_,_,_,_,hz,hn⟩:=hW
 refine⟨hok,_,_,([]++pa)++pv,⟨[]++pa,pv,trodAll_append (hargs _ (fun _ _=>rfl)) (hres _ _ _),hvars _ (fun _ _=>rfl),rfl,?_,?_⟩,?_⟩
 ·intro b off hp
  have hp' : MemPlace.cell b off∈pa++pv:=by simpa using hp
  rw[hfz _ (old _ hp')]
  exact hz b off hp'
 ·intro ha
  simpa using hn ha
 ·intro p hp _
  simpa using hp
end Go.Xe
