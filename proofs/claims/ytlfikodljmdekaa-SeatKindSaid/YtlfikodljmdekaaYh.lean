/- What the functions of the layer seat come to: SeatKind. Conditions: none. -/
import Derived.Test.YtlfikodljmdekaaTVJ
import Derived.Test.YtlfikodljmdekaaZl
import Derived.WideShapes
import Derived.ChangeSame
import Derived.Below
-- MOD TV
namespace Go.Xe.TVX
open Go Go.Xe Go.Proofs
open Nat renaming reduceLeDiff → qA, reduceSub → qB, reduceAdd → qC, reduceEqDiff → qD, reduceLT → qE
open Int renaming reduceNegSucc → qF, reduceEq → qG
open Go.Xe.V renaming seq → sA, block → sB, scope → sC, skip → sD, close → sE
open Go.Xe renaming pth → P
open Go.Xe.Sea
set_option maxRecDepth 100000
set_option maxHeartbeats 3200000
set_option linter.unusedSimpArgs false
noncomputable def d19 : FCode:=(.seq (.run (.go (.box 23 (tm 0)) (P 2)::
.go (.move (.con (.bool false))) (P 4)::
[])) (.seq (.seq (.run (.go (.loadN 3 (tm 2)) (P 13)::
.go (.move (tm 1)) (P 14)::
.go (.call (.con (.func (.func 48) ⟨[]⟩ ⟨[]⟩)) [(tm 13),(tm 14)]) (P 15)::
.go (.un .not (tm 15)) (P 16)::
[])) (.cond (tm 16) (.seq (.run (.go (.call (.con (.func (.func 20) ⟨[]⟩ ⟨[]⟩)) []) (P 17)::
.go (.move (tm 17)) (P 4)::
[])) .ret) .skip)) (.seq (.draw 6 (.go (.loadN 3 (tm 2)) (P 18)::
.go (.loadN 3 (tm 2)) (P 19)::
.go (.alloc 23 [(.int .u8 (.ofNat 0)),(.int .i64 (.ofNat 0)),(.int .i64 (.ofNat 0))]) (P 5)::
.go (.alloc 23 [(.int .u8 (.ofNat 0)),(.int .i64 (.ofNat 0)),(.int .i64 (.ofNat 0))]) (P 6)::
.un (.store 3 (tm 5) (tm 18))::
.un (.store 3 (tm 6) (tm 19))::
[]) [.ok,.rd none (.loadN 3 (tm 2)) (some (P 19)) [5],.nw none (some (P 5)) 2 true,.nw none (some (P 6)) 3 true,.ok,.ok]) (.seq (.run (.go (.fieldAddr 0 (tm 5)) (P 20)::
.un (.store 1 (tm 20) (.con (.int .u8 (.ofNat 1))))::
.go (.fieldAddr 0 (tm 6)) (P 21)::
.un (.store 1 (tm 21) (.con (.int .u8 (.ofNat 2))))::
[])) (.seq (.run (.go (.loadN 3 (tm 5)) (P 23)::
.go (.call (.con (.func (.func 22) ⟨[]⟩ ⟨[]⟩)) [tm 23]) (P 24)::
.go (.move (tm 1)) (P 25)::
.go (.call (.con (.func (.func 24) ⟨[]⟩ ⟨[]⟩)) [tm 25]) (P 26)::
.go (.call (.con (.func (.func 23) ⟨[]⟩ ⟨[]⟩)) [(tm 24),(tm 26)]) (P 27)::
.go (.move (tm 27)) (P 22)::
.go (.extract (tm 22) 0) (P 28)::
.go (.extract (tm 22) 1) (P 29)::
.go (.move (tm 28)) (P 7)::
.go (.move (tm 29)) (P 8)::
[])) (.seq (.run (.go (.loadN 3 (tm 6)) (P 31)::
.go (.call (.con (.func (.func 22) ⟨[]⟩ ⟨[]⟩)) [tm 31]) (P 32)::
.go (.move (tm 1)) (P 33)::
.go (.call (.con (.func (.func 24) ⟨[]⟩ ⟨[]⟩)) [tm 33]) (P 34)::
.go (.call (.con (.func (.func 23) ⟨[]⟩ ⟨[]⟩)) [(tm 32),(tm 34)]) (P 35)::
.go (.move (tm 35)) (P 30)::
.go (.extract (tm 30) 0) (P 36)::
.go (.extract (tm 30) 1) (P 37)::
.go (.move (tm 36)) (P 9)::
.go (.move (tm 37)) (P 10)::
[])) (.seq (.seq (.run (.go (.move (tm 8)) (P 38)::
.go (.bin .neq 26 (tm 38) (.con (.int .i64 (.ofNat 0)))) (P 39)::
.go (.move (tm 39)) (P 40)::
.gd (P 40) false (.move (tm 10)) (P 41)::
.gd (P 40) false (.bin .neq 26 (tm 41) (.con (.int .i64 (.ofNat 0)))) (P 42)::
.go (.pick (tm 40) (.con (.bool true)) (tm 42)) (P 43)::
[])) (.cond (tm 43) (.seq (.run (.go (.move (tm 8)) (P 44)::
.go (.bin .eql 26 (tm 44) (.con (.int .i64 (.ofNat 0)))) (P 45)::
.go (.move (tm 45)) (P 46)::
.gd (P 46) false (.move (tm 8)) (P 47)::
.gd (P 46) false (.bin .eql 26 (tm 47) (.con (.int .i64 (.ofNat 10)))) (P 48)::
.go (.pick (tm 46) (.con (.bool true)) (tm 48)) (P 49)::
.go (.move (tm 49)) (P 50)::
.gd (P 50) true (.move (tm 10)) (P 51)::
.gd (P 50) true (.bin .eql 26 (tm 51) (.con (.int .i64 (.ofNat 0)))) (P 52)::
.gd (P 50) true (.move (tm 52)) (P 53)::
.gd (P 53) false (.move (tm 10)) (P 54)::
.gd (P 53) false (.bin .eql 26 (tm 54) (.con (.int .i64 (.ofNat 10)))) (P 55)::
.gd (P 50) true (.pick (tm 53) (.con (.bool true)) (tm 55)) (P 56)::
.go (.pick (tm 50) (tm 56) (.con (.bool false))) (P 57)::
.go (.move (tm 57)) (P 58)::
.gd (P 58) true (.call (.con (.func (.func 20) ⟨[]⟩ ⟨[]⟩)) []) (P 59)::
.go (.pick (tm 58) (tm 59) (.con (.bool false))) (P 60)::
.go (.move (tm 60)) (P 4)::
[])) .ret) .skip)) (.seq (.seq (.run (.go (.move (.con (.int .i64 (.ofNat 0)))) (P 11)::
[])) (.block 0 (.loop (.seq (.seq (.run (.go (.move (tm 11)) (P 61)::
.go (.move (tm 7)) (P 62)::
.go (.len 0 (tm 62)) (P 63)::
.go (.bin .lss 3 (tm 61) (tm 63)) (P 64)::
[])) (.cond (tm 64) .skip (.exit 0))) (.seq (.block 1 (.seq (.run (.go (.move (.con (.int .i64 (.ofNat 0)))) (P 12)::
[])) (.block 2 (.loop (.seq (.seq (.run (.go (.move (tm 12)) (P 67)::
.go (.move (tm 7)) (P 68)::
.go (.len 0 (tm 68)) (P 69)::
.go (.bin .lss 3 (tm 67) (tm 69)) (P 70)::
[])) (.cond (tm 70) .skip (.exit 2))) (.seq (.block 3 (.seq (.draw 31 (.go (.move (tm 1)) (P 73)::
.go (.move (tm 11)) (P 74)::
.go (.indexAddr none 1 (tm 73) (tm 74)) (P 75)::
.go (.load1 (tm 75)) (P 76)::
.go (.move (tm 1)) (P 77)::
.go (.move (tm 12)) (P 78)::
.go (.indexAddr none 1 (tm 77) (tm 78)) (P 79)::
.go (.load1 (tm 79)) (P 80)::
.go (.bin .lss 3 (tm 76) (tm 80)) (P 81)::
.go (.move (tm 81)) (P 82)::
.gd (P 82) true (.move (tm 7)) (P 83)::
.gd (P 82) true (.move (tm 11)) (P 84)::
.gd (P 82) true (.indexAddr none 1 (tm 83) (tm 84)) (P 85)::
.gd (P 82) true (.load1 (tm 85)) (P 86)::
.gd (P 82) true (.move (tm 9)) (P 87)::
.gd (P 82) true (.move (tm 11)) (P 88)::
.gd (P 82) true (.indexAddr none 1 (tm 87) (tm 88)) (P 89)::
.gd (P 82) true (.load1 (tm 89)) (P 90)::
.gd (P 82) true (.bin .lss 3 (tm 86) (tm 90)) (P 91)::
.go (.pick (tm 82) (tm 91) (.con (.bool false))) (P 92)::
.go (.move (tm 92)) (P 93)::
.gd (P 93) true (.move (tm 7)) (P 94)::
.gd (P 93) true (.move (tm 12)) (P 95)::
.gd (P 93) true (.indexAddr none 1 (tm 94) (tm 95)) (P 96)::
.gd (P 93) true (.load1 (tm 96)) (P 97)::
.gd (P 93) true (.move (tm 9)) (P 98)::
.gd (P 93) true (.move (tm 12)) (P 99)::
.gd (P 93) true (.indexAddr none 1 (tm 98) (tm 99)) (P 100)::
.gd (P 93) true (.load1 (tm 100)) (P 101)::
.gd (P 93) true (.bin .gtr 3 (tm 97) (tm 101)) (P 102)::
.go (.pick (tm 93) (tm 102) (.con (.bool false))) (P 103)::
[]) [.ok,.ok,.ok,.ok,.ok,.ok,.ok,.ok,.ok,.ok,.ok,.ok,.ok,.ok,.ok,.ok,.ok,.ok,.ok,.ok,.ok,.ok,.ok,.ok,.ok,.ok,.ok,.ok,.ok,.ok,.ok]) (.cond (tm 103) (.seq (.run (.go (.move (.con (.bool false))) (P 4)::
[])) .ret) .skip))) (.run (.go (.move (tm 12)) (P 71)::
.go (.bin .add 3 (tm 71) (.con (.int .i64 (.ofNat 1)))) (P 72)::
.go (.move (tm 72)) (P 12)::
[])))))))) (.run (.go (.move (tm 11)) (P 65)::
.go (.bin .add 3 (tm 65) (.con (.int .i64 (.ofNat 1)))) (P 66)::
.go (.move (tm 66)) (P 11)::
[]))))))) (.seq (.run (.go (.move (tm 7)) (P 104)::
.go (.len 0 (tm 104)) (P 105)::
.go (.move (tm 1)) (P 106)::
.go (.len 0 (tm 106)) (P 107)::
.go (.bin .eql 3 (tm 105) (tm 107)) (P 108)::
.go (.move (tm 108)) (P 109)::
.gd (P 109) true (.move (tm 9)) (P 110)::
.gd (P 109) true (.len 0 (tm 110)) (P 111)::
.gd (P 109) true (.move (tm 1)) (P 112)::
.gd (P 109) true (.len 0 (tm 112)) (P 113)::
.gd (P 109) true (.bin .eql 3 (tm 111) (tm 113)) (P 114)::
.go (.pick (tm 109) (tm 114) (.con (.bool false))) (P 115)::
.go (.move (tm 115)) (P 116)::
.gd (P 116) true (.call (.con (.func (.func 20) ⟨[]⟩ ⟨[]⟩)) []) (P 117)::
.go (.pick (tm 116) (tm 117) (.con (.bool false))) (P 118)::
.go (.move (tm 118)) (P 4)::
[])) .ret)))))))))
theorem de19 : @compF Try.prog (Gl.none Try.prog) Try.f19 2=.mk d19 (mkTT 119) [(P 0),(P 1)] [.tmp (P 4)]:=by kernel_rfl
theorem dg19 : Try.prog.funcs[19]?=some Try.f19:=Try.func19
theorem do19 : okF Try.prog Try.f19=true:=by kernel_rfl
theorem mm2 (a d : Int) : a*a*(d*d)=a*d*(a*d):=by ac_rfl
theorem sq_lt {x y : Int} (hx : 0≤x) (h : x<y) : x*x<y*y:=by
 have h1:=Int.mul_le_mul_of_nonneg_left (Int.le_of_lt h) hx
 have h2:=Int.mul_lt_mul_of_pos_right h (show 0<y by omega)
 omega
theorem sq_cmp {a b c d : Int} (ha : 0≤a) (hd : 0≤d) (h : ¬ qlt (a*a,b*b) (c*c,d*d)) : c*b≤a*d:=by
 by_cases hz : b*b=0∧d*d=0
 ·have hb0 : b=0:=by rcases Int.mul_eq_zero.1 hz.1 with h|h<;>exact h
  have hd0 : d=0:=by rcases Int.mul_eq_zero.1 hz.2 with h|h<;>exact h
  rw[hb0,hd0];omega
 ·rw[qlt_nz hz] at h
  simp only at h
  apply Decidable.by_contra
  intro hn
  have:=sq_lt (Int.mul_nonneg ha hd) (show a*d<c*b by omega)
  rw[mm2,mm2] at h
  omega
theorem kind_no {S : Int} {v : Nat→Int} (hv : vok v) (hS : 0≤S∧S≤61) (hv8 : ∀ p,¬ p<8→v p=0) {p o : Nat} (hp : p<8) (ho : o<8) (h : v p<v o) (h1 : (otc 1 S v).1 p<(otc 2 S v).1 p) (h2 : (otc 2 S v).1 o<(otc 1 S v).1 o) : 0<v p→False:=by
 intro hvp
 have A:=(otc_fin (m:=1) hv hS hv8).1
 have B:=(otc_fin (m:=2) hv hS hv8).1
 have a0:=A.nn p
 have b0:=B.nn o
 have w1:=A.weak o p ((otc 1 S v).1 o-1) ho (by omega) hp hvp (by omega) (by omega)
 have w2:=B.weak p o ((otc 2 S v).1 p-1) hp hvp ho (by omega) (by omega) (by omega)
 have e1 : ∀ q s,clq 1 S v q s=(v q*v q,s*s):=fun q s=>rfl
 have e2 : ∀ q s,clq 2 S v q s=(v q*v q,(s+1)*(s+1)):=fun q s=>rfl
 rw[e1,e1] at w1
 rw[e2,e2] at w2
 have c1:=sq_cmp (by omega) a0 w1
 have c2:=sq_cmp (by omega) (by omega) w2
 obtain⟨a,ea⟩ : ∃ a,a=(otc 1 S v).1 p:=⟨_,rfl⟩
 obtain⟨b,eb⟩ : ∃ b,b=(otc 2 S v).1 p:=⟨_,rfl⟩
 obtain⟨x,ex⟩ : ∃ x,x=(otc 1 S v).1 o:=⟨_,rfl⟩
 obtain⟨y,ey⟩ : ∃ y,y=(otc 2 S v).1 o:=⟨_,rfl⟩
 rw[← ea,← ex] at c1
 rw[← eb,← ey] at c2
 rw[← ea,← eb] at h1
 rw[← ex,← ey] at h2
 have k0 : b-1+1=b:=by omega
 rw[k0] at c2
 have k1:=Int.mul_le_mul_of_nonneg_left (show a≤b-1 by omega) (show 0≤v o by omega)
 have k2:=Int.mul_le_mul_of_nonneg_left (show y≤x-1 by omega) (show 0≤v p by omega)
 have k3 : v o*(b-1)=v o*b-v o:=by rw[Int.mul_sub];omega
 have k4 : v p*(y+1)=v p*y+v p:=by rw[Int.mul_add];omega
 omega
theorem rv_of {m m' S L : Int} (h : rvalid m S L) (hm : 1≤m'∧m'≤5) : rvalid m' S L:=⟨hm.1,hm.2,h.2.2⟩
theorem SR.ok {m S L : Int} {l : List Int} {X : Heap} {w : Value} (h : SR m S L l X w) (h0 : flt m S L l=0) : ∃ y e,w=.tuple ⟨[y,I e]⟩∧((¬ sure m S (vl L l)∧y=.slice none 0 0∧e=10)∨(sure m S (vl L l)∧e=0∧LS X y (fl l.length (otc m S (vl L l)).1))):=by
 obtain⟨y,e,hw,h⟩:=h
 refine⟨y,e,hw,?_⟩
 rcases h with⟨h,_⟩|⟨_,h⟩|⟨_,h⟩
 ·exact absurd h0 h
 ·exact .inl h
 ·exact .inr h
theorem f19_all {H : Heap} {m S L : Int} {x : Value} {l : List Int} (hx : Sl H x (l.map I)) : F Try.prog 19 ⟨[.agg ⟨A3 m S L⟩,x]⟩ H (fun w _=>w=.bool true):=by
 have h : LS H x l:=⟨hx⟩
 have hl:=h.len
 refine F.entryL rfl dg19 do19 de19 rfl (by kernel_rfl) ?_
 simp only[sets]
 refine V.re [(0,.agg ⟨A3 m S L⟩),(1,x)] (N:=119) zE zY ?_
 intro t hF hA
 simp only[Kn,and_true] at hA
 refine zS ?_
 refine V.l0 ?_
 refine V.heap (fun X=>Grow H X∧Bx X H.next (A3 m S L) 23) ⟨?_,?_⟩ ?_
 ·exact zW
 ·exact zB
 rintro H1 ⟨g1,b1⟩
 refine zS ?_
 refine V.run ?_
 have zf:=b1.2
 refine VI.sz 2 ?_
 simp only[ds]
 refine VI.callA rfl (f48_ok (m:=m) (S:=S) (L:=L) (h.grow g1)) zA (fun H2 g2=>?_)
 have b2:=b1.grow g2
 have g12:=g1.trans g2
 refine VI.l0 ?_
 refine zS ?_
 refine V.condP zP (fun h0=>?_) (fun h0=>?_)
 ·refine zS ?_
  refine V.run ?_
  refine VI.callA rfl (f20_ok _) zA (fun H3 g3=>?_)
  refine VI.l0 ?_
  refine zS ?_
  refine V.ret (V.rets rfl (Lv.retF (by simp +contextual (disch:=first|omega|simp only[nx];omega) only[D1,cells_alloc_at,cells_alloc_ne,cells_set_at,cells_set_ne,yres,yres1,yresL,qA,qB,qC,D5,hF,hA,↓reduceIte,qD,qE];rfl) ?_))
  rfl
 have h0 : flt m S L l=0:=Decidable.not_not.1 h0
 obtain⟨hr,hl8,hb⟩:=flt_0.1 h0
 have hvk:=vl_ok (L:=L) hb
 have hv8:=vl_8 (L:=L) hl8
 have hS : 0≤S∧S≤61:=⟨hr.2.2.1,by have:=hr.2.2.2.1;omega⟩
 have hf1 : flt 1 S L l=0:=flt_0.2 ⟨rv_of hr (by omega),hl8,hb⟩
 have hf2 : flt 2 S L l=0:=flt_0.2 ⟨rv_of hr (by omega),hl8,hb⟩
 have n2:=b2.1
 refine zS ?_
 have zf:=b2.2
 refine V.dz ?_ ?_ rfl ?_
 ·exact zM
 ·simp only[dcAll,dcOk,wantD,List.cons_append,List.nil_append,true_and,and_true]
  have zf:=b2.2
  exact⟨zR,fun _=>⟨_,_,_,rfl,rfl,rfl,(by simp only[D5,hF,hA,↓reduceIte,qD,qE];simp[inBound]),fun _=>⟨_,_,_,cells_alloc _ _ _ _,(by first|exact An_inb|rfl)⟩⟩,fun _=>⟨_,_,_,rfl,rfl,rfl,(by simp only[D5,hF,hA,↓reduceIte,qD,qE];simp[inBound]),fun _=>⟨_,_,_,cells_alloc _ _ _ _,(by first|exact An_inb|rfl)⟩⟩⟩
 refine V.heap (fun X=>Grow H X∧Bx X H2.next (A3 m S L) 23∧Bx X (H2.next+1) (A3 m S L) 23) ⟨?_,?_,?_⟩ ?_
 ·exact zW
 ·exact (Bx.put (by simp only[Heap.next_alloc];omega) _ _).set (by omega) _
 ·exact Bx.put (by simp only[Heap.next_alloc,Heap.next_set];omega) _ _
 rintro H3 ⟨g3,b3,c3⟩
 have n3:=c3.1
 have ng:=g12.1
 refine zS ?_
 have zf:=And.intro b3.2<|c3.2
 refine V.lz ?_
 refine V.heap (fun X=>Grow H X∧Bx X H2.next (A3 1 S L) 23∧Bx X (H2.next+1) (A3 2 S L) 23) ⟨?_,?_,?_⟩ ?_
 ·exact zW
 ·exact (Bx.put b3.1 _ _).set (by omega) _
 ·exact Bx.put (by simp only[Heap.next_set];omega) _ _
 rintro H4 ⟨g4,b4,c4⟩
 refine zS ?_
 refine V.run ?_
 have zf:=b4.2
 refine VI.sz 1 ?_
 simp only[ds]
 refine VI.callA rfl (f22_ok 1 S L _) zA (fun H5 g5=>?_)
 refine VI.s0 1 ?_
 simp only[ds]
 refine VI.callR zA (f24_ok (h.grow (g4.trans g5)) (by omega)) zA (fun w6 H6 ⟨g6,o6⟩=>?_)
 refine VI.callR zA (f23_ok (m:=1) (S:=S) (L:=L) (ow_ls o6) hS) zA (fun w7 H7 ⟨g7,s7⟩=>?_)
 have g47:=(g5.trans g6).trans g7
 have c7:=c4.grow g47
 obtain⟨y1,e1,rfl,k1⟩:=s7.ok hf1
 refine VI.l0 ?_
 refine zS ?_
 refine V.run ?_
 have zf:=c7.2
 refine VI.sz 1 ?_
 simp only[ds]
 refine VI.callA rfl (f22_ok 2 S L _) zA (fun H8 g8=>?_)
 refine VI.s0 1 ?_
 simp only[ds]
 refine VI.callR zA (f24_ok (h.grow ((g4.trans g47).trans g8)) (by omega)) zA (fun w9 H9 ⟨g9,o9⟩=>?_)
 refine VI.callR zA (f23_ok (m:=2) (S:=S) (L:=L) (ow_ls o9) hS) zA (fun w10 H10 ⟨g10,s10⟩=>?_)
 have g7a:=(g8.trans g9).trans g10
 have gHa:=(g4.trans g47).trans g7a
 obtain⟨y2,e2,rfl,k2⟩:=s10.ok hf2
 refine VI.l0 ?_
 refine zS ?_
 refine V.l0 ?_
 refine zS ?_
 refine V.condP zP (fun he=>?_) (fun he=>?_)
 ·have hee : (e1=0∨e1=10)∧(e2=0∨e2=10):=by
   refine⟨?_,?_⟩
   ·rcases k1 with⟨_,_,h⟩|⟨_,h,_⟩
    ·exact .inr h
    ·exact .inl h
   ·rcases k2 with⟨_,_,h⟩|⟨_,h,_⟩
    ·exact .inr h
    ·exact .inl h
  clear k1 k2 s7 s10
  rcases hee with⟨rfl|rfl,rfl|rfl⟩
  ·exact absurd he (by simp)
  all_goals
   refine zS ?_
   refine V.run ?_
   refine VI.s0 9 ?_
   simp only[ds]
   refine VI.s0 6 ?_
   simp only[ds]
   refine VI.callAT zG rfl (f20_ok _) zA (fun Hb gb=>?_)
   refine VI.l0 ?_
   refine zS ?_
   refine V.ret (V.rets rfl (Lv.retF (by simp +contextual (disch:=first|omega|simp only[nx];omega) only[D1,cells_alloc_at,cells_alloc_ne,cells_set_at,cells_set_ne,yres,yres1,yresL,qA,qB,qC,D5,hF,hA,↓reduceIte,qD,qE];rfl) ?_))
   rfl
 have he1 : e1=0:=by
  rcases k1 with⟨_,_,rfl⟩|⟨_,h,_⟩
  ·exact absurd (by simp) he
  ·exact h
 have he2 : e2=0:=by
  rcases k2 with⟨_,_,rfl⟩|⟨_,h,_⟩
  ·exact absurd (by simp) he
  ·exact h
 subst he1 he2
 have k1 : sure 1 S (vl L l)∧LS H7 y1 (fl l.length (otc 1 S (vl L l)).1):=by
  rcases k1 with⟨_,_,h⟩|⟨h1,_,h2⟩
  ·exact absurd h (by decide)
  ·exact⟨h1,h2⟩
 have k2 : sure 2 S (vl L l)∧LS H10 y2 (fl l.length (otc 2 S (vl L l)).1):=by
  rcases k2 with⟨_,_,h⟩|⟨h1,_,h2⟩
  ·exact absurd h (by decide)
  ·exact⟨h1,h2⟩
 obtain⟨f1,q1⟩:=k1
 obtain⟨f2,q2⟩:=k2
 have ql1:=q1.len
 have ql2:=q2.len
 rw[fl_len] at ql1 ql2
 refine zS ?_
 refine V.l0 ?_
 refine zS ?_
 refine V.loop (fun z t mm X=>∃ (p : Nat),p≤l.length∧z=l.length-p∧mm=[]∧X=H10∧Full 119 t∧Kn [(1,x),(7,y1),(9,y2),(11,I p)] t) l.length ?_ ?_
 ·exact⟨0,by omega,by omega,rfl,rfl,zF,zK⟩
 clear hF hA
 rintro z t mm X ⟨p,hp,rfl,rfl,hX,hF,hA⟩
 obtain rfl : H10=X:=hX.symm
 simp only[Kn,and_true] at hA
 refine zS ?_
 have zf:=@ql1
 refine V.lz ?_
 refine zS ?_
 refine V.condP zP (fun hlt=>?_) (fun hlt=>?_)
 ·have hlt' : p<l.length:=by omega
  obtain⟨lp,lp1,lp2⟩:=h.at hlt'
  have lp3:=lp2 _ gHa
  obtain⟨ap,ap1,ap2⟩:=q1.at (k:=p) (by rw[fl_len];exact hlt')
  have ap3:=ap2 _ g7a
  obtain⟨bp,bp1,bp2⟩:=q2.at (k:=p) (by rw[fl_len];exact hlt')
  have bp3:=bp2 _ (.refl _)
  rw[fl_at] at ap3 bp3
  refine zS ?_
  refine V.l0 ?_
  refine zS ?_
  refine V.loop (fun z t mm X=>∃ (o : Nat),o≤l.length∧z=l.length-o∧mm=[]∧X=H10∧Full 119 t∧Kn [(1,x),(7,y1),(9,y2),(11,I p),(12,I o)] t) l.length ?_ ?_
  ·exact⟨0,by omega,by omega,rfl,rfl,zF,zK⟩
  clear hF hA
  rintro z t mm X ⟨o,ho,rfl,rfl,hX,hF,hA⟩
  obtain rfl : H10=X:=hX.symm
  simp only[Kn,and_true] at hA
  refine zS ?_
  have zf:=@ql1
  refine V.lz ?_
  refine zS ?_
  refine V.condP zP (fun hlo=>?_) (fun hlo=>?_)
  ·have hlo' : o<l.length:=by omega
   obtain⟨lo,lo1,lo2⟩:=h.at hlo'
   have lo3:=lo2 _ gHa
   obtain⟨ao,ao1,ao2⟩:=q1.at (k:=o) (by rw[fl_len];exact hlo')
   have ao3:=ao2 _ g7a
   obtain⟨bo,bo1,bo2⟩:=q2.at (k:=o) (by rw[fl_len];exact hlo')
   have bo3:=bo2 _ (.refl _)
   rw[fl_at] at ao3 bo3
   refine zS ?_
   have zf:=And.intro @lp1<|And.intro @lp3<|And.intro @ap1<|And.intro @ap3<|And.intro @bp1<|And.intro @bp3<|And.intro @lo1<|And.intro @lo3<|And.intro @ao1<|And.intro @ao3<|And.intro @bo1<|@bo3
   refine V.dz ?_ ?_ rfl ?_
   ·exact zM
   ·simp only[dcAll,dcOk,wantD,List.cons_append,List.nil_append,true_and,and_true]
   refine zS ?_
   refine V.condP zP (fun hbad=>?_) (fun hbad=>?_)
   ·exfalso
    obtain⟨⟨c1,c2⟩,c3⟩:=hbad
    have A:=(otc_fin (m:=1) hvk hS hv8).1
    have B:=(otc_fin (m:=2) hvk hS hv8).1
    have a0:=A.nn p
    have b0:=B.nn o
    have vp : 0<vl L l p:=by
     apply Decidable.by_contra
     intro hn
     have:=B.adm p (fun hh=>hn hh.2)
     omega
    have vo : 0<vl L l o:=by
     apply Decidable.by_contra
     intro hn
     have:=A.adm o (fun hh=>hn hh.2)
     omega
    have ev : ∀ q (hq : q<l.length),0<vl L l q→vl L l q=l[q]:=by
     intro q hq hv
     unfold vl vts at hv ⊢
     rw[gl0_at hq] at hv ⊢
     split at hv
     ·rename_i ha;rw[if_pos ha]
     ·omega
    exact kind_no hvk hS hv8 (show p<8 by omega) (show o<8 by omega) (by rw[ev p hlt' vp,ev o hlo' vo];exact c1) c2 c3 vp
   ·refine zS ?_
    refine V.l0 ?_
    refine V.nil (Or.inl ⟨rfl,l.length-(o+1),by omega,?_⟩)
    exact⟨o+1,hlo',rfl,rfl,rfl,zF,zK⟩
  ·refine V.exit ?_
   refine zX ?_
   refine V.nil (Or.inr ⟨by simp,?_⟩)
   refine zX ?_
   refine zS ?_
   refine V.l0 ?_
   refine V.nil (Or.inl ⟨rfl,l.length-(p+1),by omega,?_⟩)
   exact⟨p+1,hlt',rfl,rfl,rfl,zF,zK⟩
 ·refine V.exit ?_
  refine zX ?_
  refine V.nil (Or.inr ⟨by simp,?_⟩)
  refine zX ?_
  refine zS ?_
  refine V.run ?_
  have zf:=And.intro @ql1<|And.intro @ql2<|@hl
  refine VI.sz 9 ?_
  simp only[ds]
  have zf:=And.intro @ql1<|And.intro @ql2<|@hl
  refine VI.sz 4 ?_
  simp only[ds]
  refine VI.callAT zG rfl (f20_ok _) zA (fun Hb gb=>?_)
  refine VI.l0 ?_
  refine zS ?_
  refine V.ret (V.rets rfl (Lv.retF (by simp +contextual (disch:=first|omega|simp only[nx];omega) only[D1,cells_alloc_at,cells_alloc_ne,cells_set_at,cells_set_ne,yres,yres1,yresL,qA,qB,qC,D5,hF,hA,↓reduceIte,qD,qE];rfl) ?_))
  rfl
end Go.Xe.TVX
/- Rules of reasoning over the executable reading of the model's code (part Z16): arguments, by what their types allow. Conditions: none; for every program. -/
namespace Go.Xe
open Go Go.RowKit Go.ChangeShapes Go.WideShapes
theorem okWide_agg {P : Program} {w : World} {r : Reach} {base : Nat} {t : TypeId} {v : Value} {fs : Array Field} (ht : P.underlying t=some (.struct fs)) (h : Value.okWide P w r base t v) : ∃ cs,v=.agg cs:=by
 unfold Value.okWide at h
 rw[ht] at h
 obtain⟨cs,h,_⟩:=h
 exact⟨cs,h⟩
end Go.Xe
/- The end of a call that has changed nothing of what was there: what a statement asks of the memory behind it. Conditions: as post_of_same's, but that new memory may be frozen. -/
namespace Go.Xe
open Go Go.RowKit Go.ChangeShapes Go.WideShapes
variable {H : Type} {enc : TypeId×Value→H} {P : Program}
theorem post_of_old {f : Func} {s : ChangeSpec} {apart fresh handsOn again : Bool} {W W' : World} {args : Array Value} {v : Value} {ds gs : List (DataW H)} {before pa pv : List MemPlace}
  (hW : DataW.Whole enc P f.params.toList s.vars apart W args.toList ds gs before)
  (hres : ∀ (b : Nat) (sp : Nat→Bool) (hd : Bool),DataW.TrodAll enc P W' b sp hd f.resultTypes.toList (v.resultList f.resultTypes.size) (s.fn H (ds++gs)).results [])
  (hargs : ∀ sp : Nat→Bool,(∀ p∈before,sp p.block=true)→DataW.TrodAll enc P W' 0 sp true f.params.toList args.toList (s.fn H (ds++gs)).args pa)
  (hvars : ∀ sp : Nat→Bool,(∀ p∈before,sp p.block=true)→DataW.TrodVars enc P W' sp s.vars (s.fn H (ds++gs)).vars pv)
  (hps : before=pa++pv) (hk : W.keptBut W' (·∈before)) (hfz : ∀ a : Addr,a.block<W.heap.size→W'.frozen? a=W.frozen? a)
  (hok : ∀ (j : Nat) (t : TypeId) (r : Value),f.resultTypes[j]?=some t→(v.resultList f.resultTypes.size)[j]?=some r→Value.okWide P W' .any 0 t r) :
  s.post enc P f apart fresh handsOn again W args v W':=by
 have old : ∀ p∈before,p.block<W.heap.size:=fun p hp=>hW.lt p hp
 have hold : ∀ p∈before,(fun b=>decide (b<W.heap.size)) p.block=true:=fun p hp=>by simpa using old p hp
 subst hps
 refine⟨ds,gs,_,[],pa,pv,hW,hres _ _ _,hargs _ hold,hvars _ hold,World.keptBut_mono (fun p hp=>⟨hp,.inr (List.mem_append.1 hp)⟩) hk,fun _=>?_⟩
 obtain⟨_,_,_,_,_,hz,hn⟩:=hW
 refine⟨hok,_,_,([]++pa)++pv,⟨[]++pa,pv,trodAll_append (hargs _ (fun _ _=>rfl)) (hres _ _ _),hvars _ (fun _ _=>rfl),rfl,?_,?_⟩,?_⟩
 ·intro b off hp
  have hp' : MemPlace.cell b off∈pa++pv:=by simpa using hp
  rw[hfz _ (old _ hp')]
  exact hz b off hp'
 ·intro ha
  simpa using hn ha
 ·intro p hp _
  simpa using hp
end Go.Xe
