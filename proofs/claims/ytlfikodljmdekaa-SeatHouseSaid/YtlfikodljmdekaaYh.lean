/- What the functions of the layer seat come to: SeatHouse. Conditions: none. -/
import Derived.Test.YtlfikodljmdekaaTVQ
import Derived.Test.YtlfikodljmdekaaZl
import Derived.WideShapes
import Derived.ChangeSame
import Derived.Below
-- MOD TV
namespace Go.Xe.TVX
open Go Go.Xe Go.Proofs
open Nat renaming reduceLeDiff → qA, reduceSub → qB, reduceAdd → qC, reduceEqDiff → qD, reduceLT → qE
open Int renaming reduceNegSucc → qF, reduceEq → qG
open Go.Xe.V renaming seq → sA, block → sB, scope → sC, skip → sD, close → sE
open Go.Xe renaming pth → P
open Go.Xe.Sea
set_option maxRecDepth 100000
set_option maxHeartbeats 3200000
set_option linter.unusedSimpArgs false
noncomputable def d13 : FCode:=(.seq (.run (.go (.box 23 (tm 0)) (P 2)::
.go (.move (.con (.bool false))) (P 4)::
[])) (.seq (.seq (.run (.go (.loadN 3 (tm 2)) (P 14)::
.go (.move (tm 1)) (P 15)::
.go (.call (.con (.func (.func 48) ⟨[]⟩ ⟨[]⟩)) [(tm 14),(tm 15)]) (P 16)::
.go (.un .not (tm 16)) (P 17)::
.go (.move (tm 17)) (P 18)::
.gd (P 18) false (.fieldAddr 0 (tm 2)) (P 19)::
.gd (P 18) false (.load1 (tm 19)) (P 20)::
.gd (P 18) false (.bin .eql 5 (tm 20) (.con (.int .u8 (.ofNat 5)))) (P 21)::
.go (.pick (tm 18) (.con (.bool true)) (tm 21)) (P 22)::
.go (.move (tm 22)) (P 23)::
.gd (P 23) false (.fieldAddr 1 (tm 2)) (P 24)::
.gd (P 23) false (.load1 (tm 24)) (P 25)::
.gd (P 23) false (.bin .gtr 3 (tm 25) (.con (.int .i64 (.ofNat 59)))) (P 26)::
.go (.pick (tm 23) (.con (.bool true)) (tm 26)) (P 27)::
[])) (.cond (tm 27) (.seq (.run (.go (.call (.con (.func (.func 20) ⟨[]⟩ ⟨[]⟩)) []) (P 28)::
.go (.move (tm 28)) (P 4)::
[])) .ret) .skip)) (.seq (.run (.go (.loadN 3 (tm 2)) (P 30)::
.go (.call (.con (.func (.func 22) ⟨[]⟩ ⟨[]⟩)) [tm 30]) (P 31)::
.go (.move (tm 1)) (P 32)::
.go (.call (.con (.func (.func 24) ⟨[]⟩ ⟨[]⟩)) [tm 32]) (P 33)::
.go (.call (.con (.func (.func 32) ⟨[]⟩ ⟨[]⟩)) [(tm 31),(tm 33)]) (P 34)::
.go (.move (tm 34)) (P 29)::
.go (.extract (tm 29) 0) (P 35)::
.go (.extract (tm 29) 1) (P 36)::
.go (.move (tm 35)) (P 5)::
.go (.move (tm 36)) (P 6)::
[])) (.seq (.run (.go (.loadN 3 (tm 2)) (P 38)::
.go (.call (.con (.func (.func 22) ⟨[]⟩ ⟨[]⟩)) [tm 38]) (P 39)::
.go (.move (tm 1)) (P 40)::
.go (.call (.con (.func (.func 24) ⟨[]⟩ ⟨[]⟩)) [tm 40]) (P 41)::
.go (.call (.con (.func (.func 23) ⟨[]⟩ ⟨[]⟩)) [(tm 39),(tm 41)]) (P 42)::
.go (.move (tm 42)) (P 37)::
.go (.extract (tm 37) 0) (P 43)::
.go (.extract (tm 37) 1) (P 44)::
.go (.move (tm 43)) (P 7)::
.go (.move (tm 44)) (P 8)::
[])) (.seq (.run (.go (.loadN 3 (tm 2)) (P 46)::
.go (.call (.con (.func (.func 33) ⟨[]⟩ ⟨[]⟩)) [tm 46]) (P 47)::
.go (.call (.con (.func (.func 22) ⟨[]⟩ ⟨[]⟩)) [tm 47]) (P 48)::
.go (.move (tm 1)) (P 49)::
.go (.call (.con (.func (.func 24) ⟨[]⟩ ⟨[]⟩)) [tm 49]) (P 50)::
.go (.call (.con (.func (.func 23) ⟨[]⟩ ⟨[]⟩)) [(tm 48),(tm 50)]) (P 51)::
.go (.move (tm 51)) (P 45)::
.go (.extract (tm 45) 0) (P 52)::
.go (.extract (tm 45) 1) (P 53)::
.go (.move (tm 52)) (P 9)::
.go (.move (tm 53)) (P 10)::
[])) (.seq (.seq (.run (.go (.move (tm 8)) (P 54)::
.go (.bin .neq 26 (tm 54) (.con (.int .i64 (.ofNat 0)))) (P 55)::
.go (.move (tm 55)) (P 56)::
.gd (P 56) false (.move (tm 10)) (P 57)::
.gd (P 56) false (.bin .neq 26 (tm 57) (.con (.int .i64 (.ofNat 0)))) (P 58)::
.go (.pick (tm 56) (.con (.bool true)) (tm 58)) (P 59)::
[])) (.cond (tm 59) (.seq (.run (.go (.move (tm 6)) (P 60)::
.go (.bin .eql 26 (tm 60) (.con (.int .i64 (.ofNat 10)))) (P 61)::
.go (.move (tm 61)) (P 62)::
.gd (P 62) true (.move (tm 8)) (P 63)::
.gd (P 62) true (.bin .eql 26 (tm 63) (.con (.int .i64 (.ofNat 0)))) (P 64)::
.gd (P 62) true (.move (tm 64)) (P 65)::
.gd (P 65) false (.move (tm 8)) (P 66)::
.gd (P 65) false (.bin .eql 26 (tm 66) (.con (.int .i64 (.ofNat 10)))) (P 67)::
.gd (P 62) true (.pick (tm 65) (.con (.bool true)) (tm 67)) (P 68)::
.go (.pick (tm 62) (tm 68) (.con (.bool false))) (P 69)::
.go (.move (tm 69)) (P 70)::
.gd (P 70) true (.move (tm 10)) (P 71)::
.gd (P 70) true (.bin .eql 26 (tm 71) (.con (.int .i64 (.ofNat 0)))) (P 72)::
.gd (P 70) true (.move (tm 72)) (P 73)::
.gd (P 73) false (.move (tm 10)) (P 74)::
.gd (P 73) false (.bin .eql 26 (tm 74) (.con (.int .i64 (.ofNat 10)))) (P 75)::
.gd (P 70) true (.pick (tm 73) (.con (.bool true)) (tm 75)) (P 76)::
.go (.pick (tm 70) (tm 76) (.con (.bool false))) (P 77)::
.go (.move (tm 77)) (P 78)::
.gd (P 78) true (.call (.con (.func (.func 20) ⟨[]⟩ ⟨[]⟩)) []) (P 79)::
.go (.pick (tm 78) (tm 79) (.con (.bool false))) (P 80)::
.go (.move (tm 80)) (P 4)::
[])) .ret) .skip)) (.seq (.seq (.run (.go (.move (tm 6)) (P 81)::
.go (.bin .neq 26 (tm 81) (.con (.int .i64 (.ofNat 7)))) (P 82)::
.go (.move (tm 82)) (P 83)::
.gd (P 83) false (.move (tm 7)) (P 84)::
.gd (P 83) false (.len 0 (tm 84)) (P 85)::
.gd (P 83) false (.move (tm 9)) (P 86)::
.gd (P 83) false (.len 0 (tm 86)) (P 87)::
.gd (P 83) false (.bin .neq 3 (tm 85) (tm 87)) (P 88)::
.go (.pick (tm 83) (.con (.bool true)) (tm 88)) (P 89)::
[])) (.cond (tm 89) (.seq (.run (.go (.move (.con (.bool false))) (P 4)::
[])) .ret) .skip)) (.seq (.run (.go (.loadN 3 (tm 2)) (P 91)::
.go (.call (.con (.func (.func 22) ⟨[]⟩ ⟨[]⟩)) [tm 91]) (P 92)::
.go (.move (tm 1)) (P 93)::
.go (.call (.con (.func (.func 24) ⟨[]⟩ ⟨[]⟩)) [tm 93]) (P 94)::
.go (.call (.con (.func (.func 31) ⟨[]⟩ ⟨[]⟩)) [(tm 92),(tm 94)]) (P 95)::
.go (.move (tm 95)) (P 90)::
.go (.extract (tm 90) 0) (P 96)::
.go (.extract (tm 90) 1) (P 97)::
.go (.move (tm 96)) (P 11)::
.go (.move (tm 97)) (P 12)::
[])) (.seq (.seq (.run (.go (.move (.con (.int .i64 (.ofNat 0)))) (P 13)::
[])) (.block 0 (.loop (.seq (.seq (.run (.go (.move (tm 13)) (P 98)::
.go (.move (tm 7)) (P 99)::
.go (.len 0 (tm 99)) (P 100)::
.go (.bin .lss 3 (tm 98) (tm 100)) (P 101)::
[])) (.cond (tm 101) .skip (.exit 0))) (.seq (.block 1 (.seq (.draw 39 (.go (.move (tm 12)) (P 104)::
.go (.bin .eql 26 (tm 104) (.con (.int .i64 (.ofNat 0)))) (P 105)::
.go (.move (tm 105)) (P 106)::
.gd (P 106) true (.move (tm 13)) (P 107)::
.gd (P 106) true (.move (tm 11)) (P 108)::
.gd (P 106) true (.bin .eql 3 (tm 107) (tm 108)) (P 109)::
.go (.pick (tm 106) (tm 109) (.con (.bool false))) (P 110)::
.go (.move (tm 110)) (P 111)::
.gd (P 111) true (.move (tm 9)) (P 112)::
.gd (P 111) true (.move (tm 13)) (P 113)::
.gd (P 111) true (.indexAddr none 1 (tm 112) (tm 113)) (P 114)::
.gd (P 111) true (.load1 (tm 114)) (P 115)::
.gd (P 111) true (.move (tm 7)) (P 116)::
.gd (P 111) true (.move (tm 13)) (P 117)::
.gd (P 111) true (.indexAddr none 1 (tm 116) (tm 117)) (P 118)::
.gd (P 111) true (.load1 (tm 118)) (P 119)::
.gd (P 111) true (.bin .add 3 (tm 119) (.con (.int .i64 (.ofNat 1)))) (P 120)::
.gd (P 111) true (.bin .neq 3 (tm 115) (tm 120)) (P 121)::
.go (.pick (tm 111) (tm 121) (.con (.bool false))) (P 122)::
.go (.move (tm 122)) (P 123)::
.gd (P 123) false (.move (tm 12)) (P 124)::
.gd (P 123) false (.bin .neq 26 (tm 124) (.con (.int .i64 (.ofNat 0)))) (P 125)::
.gd (P 123) false (.move (tm 125)) (P 126)::
.gd (P 126) false (.move (tm 13)) (P 127)::
.gd (P 126) false (.move (tm 11)) (P 128)::
.gd (P 126) false (.bin .neq 3 (tm 127) (tm 128)) (P 129)::
.gd (P 123) false (.pick (tm 126) (.con (.bool true)) (tm 129)) (P 130)::
.gd (P 123) false (.move (tm 130)) (P 131)::
.gd (P 131) true (.move (tm 9)) (P 132)::
.gd (P 131) true (.move (tm 13)) (P 133)::
.gd (P 131) true (.indexAddr none 1 (tm 132) (tm 133)) (P 134)::
.gd (P 131) true (.load1 (tm 134)) (P 135)::
.gd (P 131) true (.move (tm 7)) (P 136)::
.gd (P 131) true (.move (tm 13)) (P 137)::
.gd (P 131) true (.indexAddr none 1 (tm 136) (tm 137)) (P 138)::
.gd (P 131) true (.load1 (tm 138)) (P 139)::
.gd (P 131) true (.bin .neq 3 (tm 135) (tm 139)) (P 140)::
.gd (P 123) false (.pick (tm 131) (tm 140) (.con (.bool false))) (P 141)::
.go (.pick (tm 123) (.con (.bool true)) (tm 141)) (P 142)::
[]) [.ok,.ok,.ok,.ok,.ok,.ok,.ok,.ok,.ok,.ok,.ok,.ok,.ok,.ok,.ok,.ok,.ok,.ok,.ok,.ok,.ok,.ok,.ok,.ok,.ok,.ok,.ok,.ok,.ok,.ok,.ok,.ok,.ok,.ok,.ok,.ok,.ok,.ok,.ok]) (.cond (tm 142) (.seq (.run (.go (.move (.con (.bool false))) (P 4)::
[])) .ret) .skip))) (.run (.go (.move (tm 13)) (P 102)::
.go (.bin .add 3 (tm 102) (.con (.int .i64 (.ofNat 1)))) (P 103)::
.go (.move (tm 103)) (P 13)::
[]))))))) (.seq (.run (.go (.move (tm 12)) (P 143)::
.go (.bin .eql 26 (tm 143) (.con (.int .i64 (.ofNat 0)))) (P 144)::
.go (.move (tm 144)) (P 145)::
.gd (P 145) false (.move (tm 12)) (P 146)::
.gd (P 145) false (.bin .eql 26 (tm 146) (.con (.int .i64 (.ofNat 7)))) (P 147)::
.go (.pick (tm 145) (.con (.bool true)) (tm 147)) (P 148)::
.go (.move (tm 148)) (P 149)::
.gd (P 149) true (.call (.con (.func (.func 20) ⟨[]⟩ ⟨[]⟩)) []) (P 150)::
.go (.pick (tm 149) (tm 150) (.con (.bool false))) (P 151)::
.go (.move (tm 151)) (P 4)::
[])) .ret))))))))))
theorem de13 : @compF Try.prog (Gl.none Try.prog) Try.f13 2=.mk d13 (mkTT 152) [(P 0),(P 1)] [.tmp (P 4)]:=by kernel_rfl
theorem dg13 : Try.prog.funcs[13]?=some Try.f13:=Try.func13
theorem do13 : okF Try.prog Try.f13=true:=by kernel_rfl
theorem house_le {m S : Int} {v : Nat→Int} (hm : 1≤m∧m≤4) (hv : vok v) (hS : 0≤S∧S≤60) (hv8 : ∀ p,¬ p<8→v p=0) (s1 : sure m S v) (s2 : sure m (S+1) v) : (∀ p,p<8→(otc m S v).1 p≤(otc m (S+1) v).1 p)∧(((∃ p,p<8∧0<v p)∧sm (otc m (S+1) v).1 8=sm (otc m S v).1 8+1)∨((otc m S v).1=(fun _=>0)∧(otc m (S+1) v).1=fun _=>0)):=by
 have h5 : m≠5:=by omega
 have FA:=otc_fin (m:=m) (S:=S) hv (by omega) hv8
 have FB:=otc_fin (m:=m) (S:=S+1) hv (by omega) hv8
 have ec : ∀ q s,clq m (S+1) v q s=clq m S v q s:=fun q s=>by unfold clq;rw[if_neg h5,if_neg h5]
 rcases sure_sum hv (by omega) hv8 s1 with⟨hs,eA⟩|⟨hn,eA⟩
 ·rcases sure_sum hv (by omega) hv8 s2 with⟨_,eB⟩|⟨hn,_⟩
  ·refine⟨fun p hp=>?_,.inl ⟨hs,by omega⟩⟩
   apply Decidable.by_contra
   intro hh
   have hq : ∃ q,q<8∧(otc m S v).1 q<(otc m (S+1) v).1 q:=by
    apply Decidable.by_contra
    intro hn
    have : sm (otc m (S+1) v).1 8≤sm (otc m S v).1 8:=sm_le fun q hq=>by
     apply Decidable.by_contra
     intro h
     exact hn ⟨q,hq,by omega⟩
    omega
   obtain⟨q,hq,g⟩:=hq
   have n1:=FB.1.nn p
   have n2:=FA.1.nn q
   have vp : 0<v p:=by
    apply Decidable.by_contra
    intro h
    have:=FA.1.adm p (fun hh=>h hh.2)
    omega
   have vq : 0<v q:=by
    apply Decidable.by_contra
    intro h
    have:=FB.1.adm q (fun hh=>h hh.2)
    omega
   exact cross_no h5 hv hv (by omega) (by omega) FA.1 FB.1 hp hq vp vq vp vq (by omega) g (by rw[ec];exact qlt_irr _) (by rw[ec];exact qlt_irr _)
  ·obtain⟨p,hp,h⟩:=hs;exact absurd h (hn p hp)
 ·have eB:=sure_none hn FB
  rw[eA,eB]
  exact⟨fun _ _=>Int.le_refl _,.inr ⟨rfl,rfl⟩⟩
theorem one_more {a b : Nat→Int} (h : ∀ p,p<8→a p≤b p) (hs : sm b 8=sm a 8+1) {k : Nat} (hk : k<8) (hl : a k<b k) : b k=a k+1∧∀ p,p<8→p≠k→b p=a p:=by
 have hu : sm (up a [k]) 8=sm a 8+1:=by
  have:=sm_up (low:=a) (T:=[k]) (n:=8) (by simp) (fun p hp=>by rw[List.mem_singleton.1 hp];exact hk)
  rw[this];rfl
 have hle : ∀ p,p<8→up a [k] p≤b p:=by
  intro p hp
  unfold up
  split
  ·rename_i hm
   rw[List.mem_singleton] at hm
   subst hm
   omega
  ·exact h p hp
 have heq : ∀ p,p<8→b p=up a [k] p:=by
  intro p hp
  have h1:=hle p hp
  apply Decidable.by_contra
  intro hn
  have:=sm_lt hle hp (by omega)
  omega
 refine⟨?_,fun p hp hpk=>?_⟩
 ·rw[heq k hk];unfold up;rw[if_pos (by simp)]
 ·rw[heq p hp];unfold up;rw[if_neg (by simpa using hpk)]
theorem f13_all {H : Heap} {m S L : Int} {x : Value} {l : List Int} (hx : Sl H x (l.map I)) : F Try.prog 13 ⟨[.agg ⟨A3 m S L⟩,x]⟩ H (fun w _=>w=.bool true):=by
 have h : LS H x l:=⟨hx⟩
 have hl:=h.len
 obtain⟨px,nx',cx,rfl⟩:=h.s.isS
 refine F.entryL rfl dg13 do13 de13 rfl (by kernel_rfl) ?_
 simp only[sets]
 refine V.re [(0,.agg ⟨A3 m S L⟩),(1,.slice px nx' cx)] (N:=152) zE zY ?_
 intro t hF hA
 simp only[Kn,and_true] at hA
 refine zS ?_
 refine V.l0 ?_
 refine V.heap (fun X=>Grow H X∧Bx X H.next (A3 m S L) 23) ⟨?_,?_⟩ ?_
 ·exact zW
 ·exact zB
 rintro H1 ⟨g1,b1⟩
 refine zS ?_
 refine V.run ?_
 have zf:=b1.2
 refine VI.sz 2 ?_
 simp only[ds]
 refine VI.callA rfl (f48_ok (m:=m) (S:=S) (L:=L) (h.grow g1)) zA (fun H2 g2=>?_)
 have b2:=b1.grow g2
 have g12:=g1.trans g2
 have zf:=And.intro b2.2<|@hl
 refine VI.lz ?_
 refine zS ?_
 refine V.condP zP (fun h0=>?_) (fun h0=>?_)
 ·refine zS ?_
  refine V.run ?_
  refine VI.callA rfl (f20_ok _) zA (fun H3 g3=>?_)
  refine VI.l0 ?_
  refine zS ?_
  refine V.ret (V.rets rfl (Lv.retF (by simp +contextual (disch:=first|omega|simp only[nx];omega) only[D1,cells_alloc_at,cells_alloc_ne,cells_set_at,cells_set_ne,yres,yres1,yresL,qA,qB,qC,D5,hF,hA,↓reduceIte,qD,qE];rfl) ?_))
  rfl
 have h00 : flt m S L l=0∧¬ m=5∧¬ 59<S:=by
  refine⟨?_,?_,?_⟩
  ·exact Decidable.by_contra fun hh=>h0 (by simp[hh])
  ·exact fun hh=>h0 (by simp[hh])
  ·exact fun hh=>h0 (by simp[hh])
 clear h0
 obtain⟨h0,hm5,hS59⟩:=h00
 obtain⟨hr,hl8,hb⟩:=flt_0.1 h0
 have hvk:=vl_ok (L:=L) hb
 have hv8:=vl_8 (L:=L) hl8
 have hS0:=hr.2.2.1
 have hm4 : 1≤m∧m≤4:=⟨hr.1,by have:=hr.2.1;omega⟩
 have h0' : flt m (S+1) L l=0:=flt_0.2 ⟨⟨hr.1,hr.2.1,by omega,by omega,hr.2.2.2.2⟩,hl8,hb⟩
 refine zS ?_
 refine V.run ?_
 have zf:=b2.2
 refine VI.sz 1 ?_
 simp only[ds]
 refine VI.callA rfl (f22_ok m S L _) zA (fun H3 g3=>?_)
 refine VI.s0 1 ?_
 simp only[ds]
 refine VI.callR zA (f24_ok (h.grow (g12.trans g3)) (by omega)) zA (fun w4 H4 ⟨g4,o4⟩=>?_)
 refine VI.callR zA (f32_ok (m:=m) (S:=S) (L:=L) (ow_ls o4)) zA (fun w5 H5 ⟨g5,lp,le,hw5,hlst⟩=>?_)
 subst hw5
 have g25:=(g3.trans g4).trans g5
 have b5:=b2.grow g25
 have gH5:=g12.trans g25
 refine VI.l0 ?_
 refine zS ?_
 refine V.run ?_
 have zf:=b5.2
 refine VI.sz 1 ?_
 simp only[ds]
 refine VI.callA rfl (f22_ok m S L _) zA (fun H6 g6=>?_)
 refine VI.s0 1 ?_
 simp only[ds]
 refine VI.callR zA (f24_ok (h.grow (gH5.trans g6)) (by omega)) zA (fun w7 H7 ⟨g7,o7⟩=>?_)
 refine VI.callR zA (f23_ok (m:=m) (S:=S) (L:=L) (ow_ls o7) (by omega)) zA (fun w8 H8 ⟨g8,s8⟩=>?_)
 have g58:=(g6.trans g7).trans g8
 have b8:=b5.grow g58
 have gH8:=gH5.trans g58
 obtain⟨y1,e1,rfl,k1⟩:=s8.ok h0
 refine VI.l0 ?_
 refine zS ?_
 refine V.run ?_
 have zf:=b8.2
 refine VI.sz 1 ?_
 simp only[ds]
 refine VI.callA rfl (f33_ok m S L (by omega) _) zA (fun H9 g9=>?_)
 refine VI.callA rfl (f22_ok m (S+1) L _) zA (fun H10 g10=>?_)
 refine VI.s0 1 ?_
 simp only[ds]
 refine VI.callR zA (f24_ok (h.grow ((gH8.trans g9).trans g10)) (by omega)) zA (fun w11 H11 ⟨g11,o11⟩=>?_)
 refine VI.callR zA (f23_ok (m:=m) (S:=S+1) (L:=L) (ow_ls o11) (by omega)) zA (fun w12 H12 ⟨g12',s12⟩=>?_)
 have g8c:=((g9.trans g10).trans g11).trans g12'
 have b12:=b8.grow g8c
 have gHc:=gH8.trans g8c
 obtain⟨y2,e2,rfl,k2⟩:=s12.ok h0'
 refine VI.l0 ?_
 refine zS ?_
 refine V.l0 ?_
 refine zS ?_
 have hlst10 : ¬ (sure m S (vl L l)∧sure m (S+1) (vl L l))→le=10:=by
  intro hn
  rcases hlst with⟨hh,_⟩|⟨_,_,_,hh⟩|⟨_,a1,a2,_⟩
  ·exact absurd h0 hh
  ·exact hh
  ·exact absurd ⟨a1,a2⟩ hn
 have hcase : (le=10∧((e1=0∨e1=10)∧(e2=0∨e2=10))∧¬ (e1=0∧e2=0))∨(e1=0∧e2=0∧(sure m S (vl L l)∧LS H8 y1 (fl l.length (otc m S (vl L l)).1))∧sure m (S+1) (vl L l)∧LS H12 y2 (fl l.length (otc m (S+1) (vl L l)).1)):=by
  rcases k1 with⟨n1,_,rfl⟩|⟨a1,rfl,a2⟩<;>rcases k2 with⟨n2,_,rfl⟩|⟨b1,rfl,b2⟩
  ·exact .inl ⟨hlst10 (fun h=>n1 h.1),⟨.inr rfl,.inr rfl⟩,by decide⟩
  ·exact .inl ⟨hlst10 (fun h=>n1 h.1),⟨.inr rfl,.inl rfl⟩,by decide⟩
  ·exact .inl ⟨hlst10 (fun h=>n2 h.2),⟨.inl rfl,.inr rfl⟩,by decide⟩
  ·exact .inr ⟨rfl,rfl,⟨a1,a2⟩,b1,b2⟩
 clear k1 k2 s8 s12 hlst10
 rcases hcase with⟨rfl,hee,hne⟩|⟨rfl,rfl,⟨f1,q1⟩,f2,q2⟩
 ·rcases hee with⟨rfl|rfl,rfl|rfl⟩
  ·exact absurd ⟨rfl,rfl⟩ hne
  all_goals
   refine V.condP zP (fun hcc=>?_) (fun hcc=>?_)
   ·refine zS ?_
    refine V.run ?_
    refine VI.s0 9 ?_
    simp only[ds]
    refine VI.s0 9 ?_
    simp only[ds]
    refine VI.s0 1 ?_
    simp only[ds]
    refine VI.callAT zG rfl (f20_ok _) zA (fun Hb gb=>?_)
    refine VI.l0 ?_
    refine zS ?_
    refine V.ret (V.rets rfl (Lv.retF (by simp +contextual (disch:=first|omega|simp only[nx];omega) only[D1,cells_alloc_at,cells_alloc_ne,cells_set_at,cells_set_ne,yres,yres1,yresL,qA,qB,qC,D5,hF,hA,↓reduceIte,qD,qE];rfl) ?_))
    rfl
   ·exact absurd (by simp) hcc
 refine V.condP zP (fun hcc=>?_) (fun hcc=>?_)
 ·exact absurd hcc (by simp)
 have ql1:=q1.len
 have ql2:=q2.len
 rw[fl_len] at ql1 ql2
 obtain⟨hle,hsum⟩:=house_le hm4 hvk (by omega) hv8 f1 f2
 have hlst7 : le=7:=by
  rcases hlst with⟨hh,_⟩|⟨_,hh,_⟩|⟨_,_,_,hfb⟩
  ·exact absurd h0 hh
  ·exact absurd ⟨f1,f2⟩ hh
  ·rcases hfb with⟨k,hk,hlt,_⟩|⟨_,_,e⟩
   ·have:=hle k hk;omega
   ·exact e
 subst hlst7
 clear hlst
 refine zS ?_
 have zf:=And.intro @ql1<|@ql2
 refine V.lz ?_
 refine zS ?_
 refine V.condP zP (fun hcd=>?_) (fun hcd=>?_)
 ·exact absurd hcd (by simp)
 refine zS ?_
 refine V.run ?_
 have zf:=b12.2
 refine VI.sz 1 ?_
 simp only[ds]
 refine VI.callA rfl (f22_ok m S L _) zA (fun Ha ga=>?_)
 refine VI.s0 1 ?_
 simp only[ds]
 refine VI.callR zA (f24_ok (h.grow (gHc.trans ga)) (by omega)) zA (fun wb Hb ⟨gb,ob⟩=>?_)
 refine VI.callR zA (f31_ok (m:=m) (S:=S) (L:=L) (ow_ls ob)) zA (fun wc Hc ⟨gc,np,ne,hwc,hnx⟩=>?_)
 subst hwc
 have gcc:=(ga.trans gb).trans gc
 have hfb : FB (otc m S (vl L l)).1 (otc m (S+1) (vl L l)).1 np ne:=by
  rcases hnx with⟨hh,_⟩|⟨_,hh,_⟩|⟨_,_,hh,_⟩|⟨_,_,_,_,hh⟩
  ·exact absurd h0 hh
  ·exact absurd hh hm5
  ·exact absurd ⟨f1,f2⟩ hh
  ·exact hh
 clear hnx
 have hne : (ne=0∨ne=7)∧∀ p : Nat,p<8→((ne=0∧(p : Int)=np∧(otc m (S+1) (vl L l)).1 p=(otc m S (vl L l)).1 p+1)∨(¬ (ne=0∧(p : Int)=np)∧(otc m (S+1) (vl L l)).1 p=(otc m S (vl L l)).1 p)):=by
  rcases hfb with⟨k,hk,hlt,_,rfl,rfl⟩|⟨hno,rfl,rfl⟩
  ·have hs1 : sm (otc m (S+1) (vl L l)).1 8=sm (otc m S (vl L l)).1 8+1:=by
    rcases hsum with⟨_,e⟩|⟨e1,e2⟩
    ·exact e
    ·rw[e1,e2] at hlt;omega
   obtain⟨c1,c2⟩:=one_more hle hs1 hk hlt
   refine⟨.inl rfl,fun p hp=>?_⟩
   by_cases hpk : p=k
   ·subst hpk;exact .inl ⟨rfl,rfl,c1⟩
   ·exact .inr ⟨fun hh=>hpk (by omega),c2 p hp hpk⟩
  ·refine⟨.inr rfl,fun p hp=>.inr ⟨fun hh=>by omega,?_⟩⟩
   have:=hle p hp
   have:=hno p hp
   omega
 obtain⟨hne,hall⟩:=hne
 refine VI.l0 ?_
 refine zS ?_
 refine V.l0 ?_
 refine zS ?_
 refine V.loop (fun z t mm X=>∃ (p : Nat),p≤l.length∧z=l.length-p∧mm=[]∧X=Hc∧Full 152 t∧Kn [(7,y1),(9,y2),(11,I np),(12,I ne),(13,I p)] t) l.length ?_ ?_
 ·exact⟨0,by omega,by omega,rfl,rfl,zF,zK⟩
 clear hF hA
 rintro z t mm X ⟨p,hp,rfl,rfl,hX,hF,hA⟩
 obtain rfl : Hc=X:=hX.symm
 simp only[Kn,and_true] at hA
 refine zS ?_
 have zf:=@ql1
 refine V.lz ?_
 refine zS ?_
 refine V.condP zP (fun hlt=>?_) (fun hlt=>?_)
 ·have hlt' : p<l.length:=by omega
  obtain⟨ap,ap1,ap2⟩:=q1.at (k:=p) (by rw[fl_len];exact hlt')
  have ap3:=ap2 _ (g8c.trans gcc)
  obtain⟨bp,bp1,bp2⟩:=q2.at (k:=p) (by rw[fl_len];exact hlt')
  have bp3:=bp2 _ gcc
  rw[fl_at] at ap3 bp3
  have hb1:=(Fin.bd (otc_fin (m:=m) (S:=S) hvk (by omega) hv8) (by omega)).1 p
  obtain⟨A,hA0⟩ : ∃ A,A=(otc m S (vl L l)).1 p:=⟨_,rfl⟩
  rw[← hA0] at hb1 ap3
  refine zS ?_
  rcases hall p (by omega) with⟨rfl,rfl,hbe⟩|⟨hno,hbe⟩
  ·rw[hbe,← hA0] at bp3
   refine V.lineD' (by simp +contextual (disch:=first|omega|simp only[nx];omega) only[D4,qF,qG,qA,qB,qC,D5,hF,hA,↓reduceIte,qD,qE,ap1,ap3,bp1,bp3,ne_eq,not_true_eq_false,not_false_eq_true];with_reducible rfl) ?_ ?_ rfl ?_
   ·exact zM
   ·simp only[dcAll,dcOk,wantD,List.cons_append,List.nil_append,true_and,and_true]
   refine zS ?_
   refine V.condF zA ?_
   refine zS ?_
   refine V.l0 ?_
   refine V.nil (Or.inl ⟨rfl,l.length-(p+1),by omega,?_⟩)
   exact⟨p+1,hlt',rfl,rfl,rfl,zF,zK⟩
  ·rw[hbe,← hA0] at bp3
   rcases hne with rfl|rfl
   ·have hpe : ((p : Int)=np)=False:=eq_false (fun hh=>hno ⟨rfl,hh⟩)
    refine V.lineD' (by simp +contextual (disch:=first|omega|simp only[nx];omega) only[D4,qF,qG,qA,qB,qC,D5,hF,hA,↓reduceIte,qD,qE,ap1,ap3,bp1,bp3,hpe,ne_eq,not_true_eq_false,not_false_eq_true];with_reducible rfl) ?_ ?_ rfl ?_
    ·exact zM
    ·simp only[dcAll,dcOk,wantD,List.cons_append,List.nil_append,true_and,and_true]
    refine zS ?_
    refine V.condF zA ?_
    refine zS ?_
    refine V.l0 ?_
    refine V.nil (Or.inl ⟨rfl,l.length-(p+1),by omega,?_⟩)
    exact⟨p+1,hlt',rfl,rfl,rfl,zF,zK⟩
   ·refine V.lineD' (by simp +contextual (disch:=first|omega|simp only[nx];omega) only[D4,qF,qG,qA,qB,qC,D5,hF,hA,↓reduceIte,qD,qE,ap1,ap3,bp1,bp3,ne_eq,not_true_eq_false,not_false_eq_true];with_reducible rfl) ?_ ?_ rfl ?_
    ·exact zM
    ·simp only[dcAll,dcOk,wantD,List.cons_append,List.nil_append,true_and,and_true]
    refine zS ?_
    refine V.condF zA ?_
    refine zS ?_
    refine V.l0 ?_
    refine V.nil (Or.inl ⟨rfl,l.length-(p+1),by omega,?_⟩)
    exact⟨p+1,hlt',rfl,rfl,rfl,zF,zK⟩
 ·refine V.exit ?_
  refine zX ?_
  refine V.nil (Or.inr ⟨by simp,?_⟩)
  refine zX ?_
  refine zS ?_
  refine V.run ?_
  rcases hne with rfl|rfl
  all_goals
   refine VI.s0 7 ?_
   simp only[ds]
   refine VI.callAT zG rfl (f20_ok _) zA (fun Hd gd=>?_)
   refine VI.l0 ?_
   refine zS ?_
   refine V.ret (V.rets rfl (Lv.retF (by simp +contextual (disch:=first|omega|simp only[nx];omega) only[D1,cells_alloc_at,cells_alloc_ne,cells_set_at,cells_set_ne,yres,yres1,yresL,qA,qB,qC,D5,hF,hA,↓reduceIte,qD,qE];rfl) ?_))
   rfl
end Go.Xe.TVX
/- Rules of reasoning over the executable reading of the model's code (part Z16): arguments, by what their types allow. Conditions: none; for every program. -/
namespace Go.Xe
open Go Go.RowKit Go.ChangeShapes Go.WideShapes
theorem okWide_agg {P : Program} {w : World} {r : Reach} {base : Nat} {t : TypeId} {v : Value} {fs : Array Field} (ht : P.underlying t=some (.struct fs)) (h : Value.okWide P w r base t v) : ∃ cs,v=.agg cs:=by
 unfold Value.okWide at h
 rw[ht] at h
 obtain⟨cs,h,_⟩:=h
 exact⟨cs,h⟩
end Go.Xe
/- The end of a call that has changed nothing of what was there: what a statement asks of the memory behind it. Conditions: as post_of_same's, but that new memory may be frozen. -/
namespace Go.Xe
open Go Go.RowKit Go.ChangeShapes Go.WideShapes
variable {H : Type} {enc : TypeId×Value→H} {P : Program}
theorem post_of_old {f : Func} {s : ChangeSpec} {apart fresh handsOn again : Bool} {W W' : World} {args : Array Value} {v : Value} {ds gs : List (DataW H)} {before pa pv : List MemPlace}
  (hW : DataW.Whole enc P f.params.toList s.vars apart W args.toList ds gs before)
  (hres : ∀ (b : Nat) (sp : Nat→Bool) (hd : Bool),DataW.TrodAll enc P W' b sp hd f.resultTypes.toList (v.resultList f.resultTypes.size) (s.fn H (ds++gs)).results [])
  (hargs : ∀ sp : Nat→Bool,(∀ p∈before,sp p.block=true)→DataW.TrodAll enc P W' 0 sp true f.params.toList args.toList (s.fn H (ds++gs)).args pa)
  (hvars : ∀ sp : Nat→Bool,(∀ p∈before,sp p.block=true)→DataW.TrodVars enc P W' sp s.vars (s.fn H (ds++gs)).vars pv)
  (hps : before=pa++pv) (hk : W.keptBut W' (·∈before)) (hfz : ∀ a : Addr,a.block<W.heap.size→W'.frozen? a=W.frozen? a)
  (hok : ∀ (j : Nat) (t : TypeId) (r : Value),f.resultTypes[j]?=some t→(v.resultList f.resultTypes.size)[j]?=some r→Value.okWide P W' .any 0 t r) :
  s.post enc P f apart fresh handsOn again W args v W':=by
 have old : ∀ p∈before,p.block<W.heap.size:=fun p hp=>hW.lt p hp
 have hold : ∀ p∈before,(fun b=>decide (b<W.heap.size)) p.block=true:=fun p hp=>by simpa using old p hp
 subst hps
 refine⟨ds,gs,_,[],pa,pv,hW,hres _ _ _,hargs _ hold,hvars _ hold,World.keptBut_mono (fun p hp=>⟨hp,.inr (List.mem_append.1 hp)⟩) hk,fun _=>?_⟩
 obtain⟨_,_,_,_,_,hz,hn⟩:=hW
 refine⟨hok,_,_,([]++pa)++pv,⟨[]++pa,pv,trodAll_append (hargs _ (fun _ _=>rfl)) (hres _ _ _),hvars _ (fun _ _=>rfl),rfl,?_,?_⟩,?_⟩
 ·intro b off hp
  have hp' : MemPlace.cell b off∈pa++pv:=by simpa using hp
  rw[hfz _ (old _ hp')]
  exact hz b off hp'
 ·intro ha
  simpa using hn ha
 ·intro p hp _
  simpa using hp
end Go.Xe
