/- What the functions of the layer seat come to: SeatQuota. Conditions: none. -/
import Derived.Test.YtlfikodljmdekaaTUA
import Derived.Test.YtlfikodljmdekaaZl
import Derived.WideShapes
import Derived.ChangeSame
import Derived.Below
-- MOD TV
namespace Go.Xe.TVX
open Go Go.Xe Go.Proofs
open Nat renaming reduceLeDiff → qA, reduceSub → qB, reduceAdd → qC, reduceEqDiff → qD, reduceLT → qE
open Int renaming reduceNegSucc → qF, reduceEq → qG
open Go.Xe.V renaming seq → sA, block → sB, scope → sC, skip → sD, close → sE
open Go.Xe renaming pth → P
open Go.Xe.Sea
set_option maxRecDepth 100000
set_option maxHeartbeats 3200000
set_option linter.unusedSimpArgs false
noncomputable def d15 : FCode:=(.seq (.run (.go (.box 23 (tm 0)) (P 2)::
.go (.move (.con (.bool false))) (P 4)::
[])) (.seq (.run (.go (.fieldAddr 0 (tm 2)) (P 12)::
.un (.store 1 (tm 12) (.con (.int .u8 (.ofNat 5))))::
[])) (.seq (.seq (.run (.go (.loadN 3 (tm 2)) (P 13)::
.go (.move (tm 1)) (P 14)::
.go (.call (.con (.func (.func 48) ⟨[]⟩ ⟨[]⟩)) [(tm 13),(tm 14)]) (P 15)::
.go (.un .not (tm 15)) (P 16)::
[])) (.cond (tm 16) (.seq (.run (.go (.call (.con (.func (.func 20) ⟨[]⟩ ⟨[]⟩)) []) (P 17)::
.go (.move (tm 17)) (P 4)::
[])) .ret) .skip)) (.seq (.run (.go (.loadN 3 (tm 2)) (P 19)::
.go (.call (.con (.func (.func 22) ⟨[]⟩ ⟨[]⟩)) [tm 19]) (P 20)::
.go (.move (tm 1)) (P 21)::
.go (.call (.con (.func (.func 24) ⟨[]⟩ ⟨[]⟩)) [tm 21]) (P 22)::
.go (.call (.con (.func (.func 23) ⟨[]⟩ ⟨[]⟩)) [(tm 20),(tm 22)]) (P 23)::
.go (.move (tm 23)) (P 18)::
.go (.extract (tm 18) 0) (P 24)::
.go (.extract (tm 18) 1) (P 25)::
.go (.move (tm 24)) (P 5)::
.go (.move (tm 25)) (P 6)::
[])) (.seq (.run (.go (.loadN 3 (tm 2)) (P 27)::
.go (.call (.con (.func (.func 22) ⟨[]⟩ ⟨[]⟩)) [tm 27]) (P 28)::
.go (.move (tm 1)) (P 29)::
.go (.call (.con (.func (.func 24) ⟨[]⟩ ⟨[]⟩)) [tm 29]) (P 30)::
.go (.call (.con (.func (.func 35) ⟨[]⟩ ⟨[]⟩)) [(tm 28),(tm 30)]) (P 31)::
.go (.move (tm 31)) (P 26)::
.go (.extract (tm 26) 0) (P 32)::
.go (.extract (tm 26) 1) (P 33)::
.go (.move (tm 32)) (P 7)::
.go (.move (tm 33)) (P 8)::
[])) (.seq (.seq (.run (.go (.move (tm 8)) (P 34)::
.go (.bin .neq 26 (tm 34) (.con (.int .i64 (.ofNat 0)))) (P 35)::
.go (.move (tm 35)) (P 36)::
.gd (P 36) false (.move (tm 7)) (P 37)::
.gd (P 36) false (.len 0 (tm 37)) (P 38)::
.gd (P 36) false (.move (tm 1)) (P 39)::
.gd (P 36) false (.len 0 (tm 39)) (P 40)::
.gd (P 36) false (.bin .neq 3 (tm 38) (tm 40)) (P 41)::
.go (.pick (tm 36) (.con (.bool true)) (tm 41)) (P 42)::
.go (.move (tm 42)) (P 43)::
.gd (P 43) false (.move (tm 6)) (P 44)::
.gd (P 43) false (.bin .neq 26 (tm 44) (.con (.int .i64 (.ofNat 0)))) (P 45)::
.gd (P 43) false (.move (tm 45)) (P 46)::
.gd (P 46) true (.move (tm 6)) (P 47)::
.gd (P 46) true (.bin .neq 26 (tm 47) (.con (.int .i64 (.ofNat 10)))) (P 48)::
.gd (P 43) false (.pick (tm 46) (tm 48) (.con (.bool false))) (P 49)::
.go (.pick (tm 43) (.con (.bool true)) (tm 49)) (P 50)::
[])) (.cond (tm 50) (.seq (.run (.go (.move (.con (.bool false))) (P 4)::
[])) .ret) .skip)) (.seq (.run (.go (.move (.con (.int .i64 (.ofNat 0)))) (P 9)::
.go (.move (.con (.int .i64 (.ofNat 0)))) (P 10)::
[])) (.seq (.seq (.run (.go (.move (.con (.int .i64 (.ofNat 0)))) (P 11)::
[])) (.block 0 (.loop (.seq (.seq (.run (.go (.move (tm 11)) (P 51)::
.go (.move (tm 7)) (P 52)::
.go (.len 0 (tm 52)) (P 53)::
.go (.bin .lss 3 (tm 51) (tm 53)) (P 54)::
[])) (.cond (tm 54) .skip (.exit 0))) (.seq (.block 1 (.seq (.seq (.draw 40 (.go (.move (tm 6)) (P 57)::
.go (.bin .eql 26 (tm 57) (.con (.int .i64 (.ofNat 0)))) (P 58)::
.go (.move (tm 58)) (P 59)::
.gd (P 59) true (.move (tm 5)) (P 60)::
.gd (P 59) true (.move (tm 11)) (P 61)::
.gd (P 59) true (.indexAddr none 1 (tm 60) (tm 61)) (P 62)::
.gd (P 59) true (.load1 (tm 62)) (P 63)::
.gd (P 59) true (.move (tm 7)) (P 64)::
.gd (P 59) true (.move (tm 11)) (P 65)::
.gd (P 59) true (.indexAddr none 2 (tm 64) (tm 65)) (P 66)::
.gd (P 59) true (.fieldAddr 0 (tm 66)) (P 67)::
.gd (P 59) true (.load1 (tm 67)) (P 68)::
.gd (P 59) true (.bin .lss 3 (tm 63) (tm 68)) (P 69)::
.gd (P 59) true (.move (tm 69)) (P 70)::
.gd (P 70) false (.move (tm 5)) (P 71)::
.gd (P 70) false (.move (tm 11)) (P 72)::
.gd (P 70) false (.indexAddr none 1 (tm 71) (tm 72)) (P 73)::
.gd (P 70) false (.load1 (tm 73)) (P 74)::
.gd (P 70) false (.move (tm 7)) (P 75)::
.gd (P 70) false (.move (tm 11)) (P 76)::
.gd (P 70) false (.indexAddr none 2 (tm 75) (tm 76)) (P 77)::
.gd (P 70) false (.fieldAddr 1 (tm 77)) (P 78)::
.gd (P 70) false (.load1 (tm 78)) (P 79)::
.gd (P 70) false (.bin .gtr 3 (tm 74) (tm 79)) (P 80)::
.gd (P 59) true (.pick (tm 70) (.con (.bool true)) (tm 80)) (P 81)::
.go (.pick (tm 59) (tm 81) (.con (.bool false))) (P 82)::
.go (.move (tm 82)) (P 83)::
.gd (P 83) false (.move (tm 7)) (P 84)::
.gd (P 83) false (.move (tm 11)) (P 85)::
.gd (P 83) false (.indexAddr none 2 (tm 84) (tm 85)) (P 86)::
.gd (P 83) false (.fieldAddr 1 (tm 86)) (P 87)::
.gd (P 83) false (.load1 (tm 87)) (P 88)::
.gd (P 83) false (.move (tm 7)) (P 89)::
.gd (P 83) false (.move (tm 11)) (P 90)::
.gd (P 83) false (.indexAddr none 2 (tm 89) (tm 90)) (P 91)::
.gd (P 83) false (.fieldAddr 0 (tm 91)) (P 92)::
.gd (P 83) false (.load1 (tm 92)) (P 93)::
.gd (P 83) false (.bin .add 3 (tm 93) (.con (.int .i64 (.ofNat 1)))) (P 94)::
.gd (P 83) false (.bin .gtr 3 (tm 88) (tm 94)) (P 95)::
.go (.pick (tm 83) (.con (.bool true)) (tm 95)) (P 96)::
[]) [.ok,.ok,.ok,.ok,.ok,.ok,.ok,.ok,.ok,.ok,.ok,.ok,.ok,.ok,.ok,.ok,.ok,.ok,.ok,.ok,.ok,.ok,.ok,.ok,.ok,.ok,.ok,.ok,.ok,.ok,.ok,.ok,.ok,.ok,.ok,.ok,.ok,.ok,.ok,.ok]) (.cond (tm 96) (.seq (.run (.go (.move (.con (.bool false))) (P 4)::
[])) .ret) .skip)) (.draw 16 (.go (.move (tm 9)) (P 97)::
.go (.move (tm 7)) (P 98)::
.go (.move (tm 11)) (P 99)::
.go (.indexAddr none 2 (tm 98) (tm 99)) (P 100)::
.go (.fieldAddr 0 (tm 100)) (P 101)::
.go (.load1 (tm 101)) (P 102)::
.go (.bin .add 3 (tm 97) (tm 102)) (P 103)::
.go (.move (tm 10)) (P 104)::
.go (.move (tm 7)) (P 105)::
.go (.move (tm 11)) (P 106)::
.go (.indexAddr none 2 (tm 105) (tm 106)) (P 107)::
.go (.fieldAddr 1 (tm 107)) (P 108)::
.go (.load1 (tm 108)) (P 109)::
.go (.bin .add 3 (tm 104) (tm 109)) (P 110)::
.go (.move (tm 103)) (P 9)::
.go (.move (tm 110)) (P 10)::
[]) [.ok,.ok,.ok,.ok,.ok,.ok,.ok,.ok,.ok,.ok,.ok,.ok,.ok,.ok,.ok,.ok]))) (.run (.go (.move (tm 11)) (P 55)::
.go (.bin .add 3 (tm 55) (.con (.int .i64 (.ofNat 1)))) (P 56)::
.go (.move (tm 56)) (P 11)::
[]))))))) (.seq (.run (.go (.move (tm 9)) (P 111)::
.go (.fieldAddr 1 (tm 2)) (P 112)::
.go (.load1 (tm 112)) (P 113)::
.go (.bin .leq 3 (tm 111) (tm 113)) (P 114)::
.go (.move (tm 114)) (P 115)::
.gd (P 115) true (.move (tm 10)) (P 116)::
.gd (P 115) true (.fieldAddr 1 (tm 2)) (P 117)::
.gd (P 115) true (.load1 (tm 117)) (P 118)::
.gd (P 115) true (.bin .geq 3 (tm 116) (tm 118)) (P 119)::
.gd (P 115) true (.move (tm 119)) (P 120)::
.gd (P 120) false (.loadN 3 (tm 2)) (P 121)::
.gd (P 120) false (.move (tm 1)) (P 122)::
.gd (P 120) false (.call (.con (.func (.func 34) ⟨[]⟩ ⟨[]⟩)) [(tm 121),(tm 122)]) (P 123)::
.gd (P 120) false (.un .not (tm 123)) (P 124)::
.gd (P 115) true (.pick (tm 120) (.con (.bool true)) (tm 124)) (P 125)::
.go (.pick (tm 115) (tm 125) (.con (.bool false))) (P 126)::
.go (.move (tm 126)) (P 127)::
.gd (P 127) true (.call (.con (.func (.func 20) ⟨[]⟩ ⟨[]⟩)) []) (P 128)::
.go (.pick (tm 127) (tm 128) (.con (.bool false))) (P 129)::
.go (.move (tm 129)) (P 4)::
[])) .ret)))))))))
theorem de15 : @compF Try.prog (Gl.none Try.prog) Try.f15 2=.mk d15 (mkTT 130) [(P 0),(P 1)] [.tmp (P 4)]:=by kernel_rfl
theorem dg15 : Try.prog.funcs[15]?=some Try.f15:=Try.func15
theorem do15 : okF Try.prog Try.f15=true:=by kernel_rfl
theorem sm_ub {s : Nat→Int} {b : Int} : ∀ {n : Nat},(∀ p,p<n→0≤s p∧s p≤b)→0≤sm s n∧sm s n≤b*n
 | 0,_=>by simp[sm]
 | n+1,h=>by
  have h1:=sm_ub (s:=s) (b:=b) (n:=n) (fun p hp=>h p (by omega))
  have h2:=h n (by omega)
  simp only[sm]
  have e : b*((n+1 : Nat) : Int)=b*n+b:=by
   have : ((n+1 : Nat) : Int)=(n : Int)+1:=by omega
   rw[this,Int.mul_add];omega
  rw[e];omega
theorem f15_all {H : Heap} {m S L : Int} {x : Value} {l : List Int} (hx : Sl H x (l.map I)) : F Try.prog 15 ⟨[.agg ⟨A3 m S L⟩,x]⟩ H (fun w _=>w=.bool true):=by
 have h : LS H x l:=⟨hx⟩
 have hl:=h.len
 obtain⟨px,nx',cx,rfl⟩:=h.s.isS
 refine F.entryL rfl dg15 do15 de15 rfl (by kernel_rfl) ?_
 simp only[sets]
 refine V.re [(0,.agg ⟨A3 m S L⟩),(1,.slice px nx' cx)] (N:=130) zE zY ?_
 intro t hF hA
 simp only[Kn,and_true] at hA
 refine zS ?_
 refine V.l0 ?_
 refine zS ?_
 refine V.l0 ?_
 refine V.heap (fun X=>Grow H X∧Bx X H.next (A3 5 S L) 23) ⟨?_,?_⟩ ?_
 ·exact zW
 ·exact Bx.put (by simp only[Heap.next_alloc];omega) _ _
 rintro H1 ⟨g1,b1⟩
 refine zS ?_
 refine V.run ?_
 have zf:=b1.2
 refine VI.sz 2 ?_
 simp only[ds]
 refine VI.callA rfl (f48_ok (m:=5) (S:=S) (L:=L) (h.grow g1)) zA (fun H2 g2=>?_)
 have b2:=b1.grow g2
 have g12:=g1.trans g2
 refine VI.l0 ?_
 refine zS ?_
 refine V.condP zP (fun h0=>?_) (fun h0=>?_)
 ·refine zS ?_
  refine V.run ?_
  refine VI.callA rfl (f20_ok _) zA (fun H3 g3=>?_)
  refine VI.l0 ?_
  refine zS ?_
  refine V.ret (V.rets rfl (Lv.retF (by simp +contextual (disch:=first|omega|simp only[nx];omega) only[D1,cells_alloc_at,cells_alloc_ne,cells_set_at,cells_set_ne,yres,yres1,yresL,qA,qB,qC,D5,hF,hA,↓reduceIte,qD,qE];rfl) ?_))
  rfl
 have h0 : flt 5 S L l=0:=Decidable.not_not.1 h0
 obtain⟨hr,hl8,hb⟩:=flt_0.1 h0
 have hvk:=vl_ok (L:=L) hb
 have hv8:=vl_8 (L:=L) hl8
 have hS : 0≤S∧S≤61:=⟨hr.2.2.1,by have:=hr.2.2.2.1;omega⟩
 refine zS ?_
 refine V.run ?_
 have zf:=b2.2
 refine VI.sz 1 ?_
 simp only[ds]
 refine VI.callA rfl (f22_ok 5 S L _) zA (fun H3 g3=>?_)
 refine VI.s0 1 ?_
 simp only[ds]
 refine VI.callR zA (f24_ok (h.grow (g12.trans g3)) (by omega)) zA (fun w4 H4 ⟨g4,o4⟩=>?_)
 refine VI.callR zA (f23_ok (m:=5) (S:=S) (L:=L) (ow_ls o4) hS) zA (fun w5 H5 ⟨g5,s5⟩=>?_)
 have g25:=(g3.trans g4).trans g5
 have b5:=b2.grow g25
 have gH5:=g12.trans g25
 obtain⟨y1,e1,rfl,k1⟩:=s5.ok h0
 refine VI.l0 ?_
 refine zS ?_
 refine V.run ?_
 have zf:=b5.2
 refine VI.sz 1 ?_
 simp only[ds]
 refine VI.callA rfl (f22_ok 5 S L _) zA (fun H6 g6=>?_)
 refine VI.s0 1 ?_
 simp only[ds]
 refine VI.callR zA (f24_ok (h.grow (gH5.trans g6)) (by omega)) zA (fun w7 H7 ⟨g7,o7⟩=>?_)
 refine VI.callR zA (f35_ok (m:=5) (S:=S) (L:=L) (ow_ls o7)) zA (fun w8 H8 ⟨g8,y2,e2,hw8,hq⟩=>?_)
 subst hw8
 have g58:=(g6.trans g7).trans g8
 have b8:=b5.grow g58
 have gH8:=gH5.trans g58
 obtain⟨rfl,oq⟩ : e2=0∧OwW 2 H7 H8 49 y2 (qro S (vl L l) l.length):=by
  rcases hq with⟨hne,_⟩|⟨_,a,b⟩
  ·exact absurd h0 hne
  ·exact⟨a,b⟩
 have sq:=oq.sw (qro_w _ _ _)
 have ql:=oq.len
 rw[qro_len] at ql
 refine VI.l0 ?_
 refine zS ?_
 have hcase : (e1=10)∨(e1=0∧sure 5 S (vl L l)∧LS H5 y1 (fl l.length (otc 5 S (vl L l)).1)):=by
  rcases k1 with⟨_,_,h⟩|⟨a,b,c⟩
  ·exact .inl h
  ·exact .inr ⟨b,a,c⟩
 have he1 : e1=0∨e1=10:=by
  rcases hcase with h|⟨h,_⟩
  ·exact .inr h
  ·exact .inl h
 clear k1 s5
 refine V.line' (by simp +contextual (disch:=first|omega|simp only[nx];omega) only[D4,qF,qG,qA,qB,qC,D5,hF,hA,↓reduceIte,qD,qE,ql,hl,not_true_eq_false,not_false_eq_true];with_reducible rfl) ?_
 refine zS ?_
 refine V.condP zP (fun hbad=>?_) (fun hbad=>?_)
 ·rcases he1 with rfl|rfl<;>exact absurd hbad (by simp)
 clear hbad
 obtain⟨s1,s2⟩:=shr_sums hvk hS
 have hsb : ∀ p,p<8→(0≤(shr S (vl L l) p).1∧(shr S (vl L l) p).1≤610001)∧0≤shi S (vl L l) p∧shi S (vl L l) p≤610001:=fun p hp=>by
  have:=shr_bd hvk hS hp
  have:=shi_bd hvk hS hp
  omega
 have u1:=fun (k : Nat) (hk : k≤8)=>sm_ub (s:=fun p=>(shr S (vl L l) p).1) (b:=610001) (n:=k) (fun p hp=>(hsb p (by omega)).1)
 have u2:=fun (k : Nat) (hk : k≤8)=>sm_ub (s:=fun p=>shi S (vl L l) p) (b:=610001) (n:=k) (fun p hp=>(hsb p (by omega)).2)
 have z1 : ∀ p,l.length≤p→(shr S (vl L l) p).1=0:=fun p hp=>by unfold shr;rw[if_pos (vl_out hp)]
 have z2 : ∀ p,l.length≤p→shi S (vl L l) p=0:=fun p hp=>by unfold shi shr;rw[if_pos (vl_out hp)];rfl
 have t1 : sm (fun p=>(shr S (vl L l) p).1) 8=sm (fun p=>(shr S (vl L l) p).1) l.length:=by
  have:=sm_out (v:=fun p=>(shr S (vl L l) p).1) (n:=l.length) (k:=8-l.length) z1
  rw[show l.length+(8-l.length)=8 by omega] at this
  exact this
 have t2 : sm (fun p=>shi S (vl L l) p) 8=sm (fun p=>shi S (vl L l) p) l.length:=by
  have:=sm_out (v:=fun p=>shi S (vl L l) p) (n:=l.length) (k:=8-l.length) z2
  rw[show l.length+(8-l.length)=8 by omega] at this
  exact this
 refine zS ?_
 refine V.l0 ?_
 refine zS ?_
 refine V.l0 ?_
 refine zS ?_
 refine V.loop (fun z t mm X=>∃ (p : Nat),p≤l.length∧z=l.length-p∧mm=[]∧X=H8∧Full 130 t∧Kn [(1,.slice px nx' cx),(2,PT H.next),(5,y1),(6,I e1),(7,y2),(9,I (sm (fun p=>(shr S (vl L l) p).1) p)),(10,I (sm (fun p=>shi S (vl L l) p) p)),(11,I p)] t) l.length ?_ ?_
 ·exact⟨0,by omega,by omega,rfl,rfl,zF,zK⟩
 clear hF hA
 rintro z t mm X ⟨p,hp,rfl,rfl,hX,hF,hA⟩
 obtain rfl : H8=X:=hX.symm
 simp only[Kn,and_true] at hA
 refine zS ?_
 have zf:=@ql
 refine V.lz ?_
 refine zS ?_
 refine V.condP zP (fun hlt=>?_) (fun hlt=>?_)
 ·have hlt' : p<l.length:=by omega
  have hp8 : p<8:=by omega
  obtain⟨iq,oq',pq1,pq2⟩:=sq.at2 (by decide) (qro_at hlt')
  have pk:=pq1 .i64
  obtain⟨_,pq3⟩:=pq2 H8 (.refl _)
  have c0:=pq3 0 _ rfl
  rw[Nat.add_zero] at c0
  have c1:=pq3 1 _ rfl
  obtain⟨lo,hlo⟩ : ∃ lo,lo=(shr S (vl L l) p).1:=⟨_,rfl⟩
  obtain⟨hi,hhi⟩ : ∃ hi,hi=shi S (vl L l) p:=⟨_,rfl⟩
  have hb1:=hsb p hp8
  have hb2:=shi_bd hvk hS hp8
  have v1:=u1 p (by omega)
  have v2:=u2 p (by omega)
  have w1 : sm (fun p=>(shr S (vl L l) p).1) (p+1)=sm (fun p=>(shr S (vl L l) p).1) p+lo:=by rw[hlo];rfl
  have w2 : sm (fun p=>shi S (vl L l) p) (p+1)=sm (fun p=>shi S (vl L l) p) p+hi:=by rw[hhi];rfl
  rw[← hlo] at c0 hb1 hb2
  rw[← hhi] at c1 hb1 hb2
  have hno : (lo+1<hi)=False:=eq_false (by omega)
  refine zS ?_
  rcases hcase with rfl|⟨rfl,hsu,q1⟩
  ·have zf:=And.intro @pk<|And.intro @c0<|And.intro @c1<|@hno
   refine V.dz ?_ ?_ rfl ?_
   ·exact zM
   ·simp only[dcAll,dcOk,wantD,List.cons_append,List.nil_append,true_and,and_true]
   refine zS ?_
   refine V.condF zA ?_
   refine zS ?_
   have zf:=And.intro @pk<|And.intro @c0<|@c1
   refine V.dz ?_ ?_ rfl ?_
   ·exact zM
   ·simp only[dcAll,dcOk,wantD,List.cons_append,List.nil_append,true_and,and_true]
   refine zS ?_
   refine V.l0 ?_
   refine V.nil (Or.inl ⟨rfl,l.length-(p+1),by omega,?_⟩)
   refine⟨p+1,hlt',rfl,rfl,rfl,?_⟩
   rw[w1,w2]
   exact⟨zF,zK⟩
  ·obtain⟨r1,r2⟩:=rem_quota hvk hS hv8 hsu p hp8
   obtain⟨ap,ap1,ap2⟩:=q1.at (k:=p) (by rw[fl_len];exact hlt')
   have ap3:=ap2 _ g58
   rw[fl_at] at ap3
   have hn1 : ((otc 5 S (vl L l)).1 p<lo)=False:=eq_false (by omega)
   have hn2 : (hi<(otc 5 S (vl L l)).1 p)=False:=eq_false (by omega)
   have zf:=And.intro @pk<|And.intro @c0<|And.intro @c1<|And.intro @hno<|And.intro @ap1<|And.intro @ap3<|And.intro @hn1<|@hn2
   refine V.dz ?_ ?_ rfl ?_
   ·exact zM
   ·simp only[dcAll,dcOk,wantD,List.cons_append,List.nil_append,true_and,and_true]
   refine zS ?_
   refine V.condF zA ?_
   refine zS ?_
   have zf:=And.intro @pk<|And.intro @c0<|@c1
   refine V.dz ?_ ?_ rfl ?_
   ·exact zM
   ·simp only[dcAll,dcOk,wantD,List.cons_append,List.nil_append,true_and,and_true]
   refine zS ?_
   refine V.l0 ?_
   refine V.nil (Or.inl ⟨rfl,l.length-(p+1),by omega,?_⟩)
   refine⟨p+1,hlt',rfl,rfl,rfl,?_⟩
   rw[w1,w2]
   exact⟨zF,zK⟩
 ·obtain rfl : p=l.length:=by omega
  rw[← t1,← t2] at hA
  have hle : (sm (fun p=>(shr S (vl L l) p).1) 8≤S)=True:=eq_true s1
  refine V.exit ?_
  refine zX ?_
  refine V.nil (Or.inr ⟨by simp,?_⟩)
  refine zX ?_
  refine zS ?_
  refine V.run ?_
  by_cases hge : S≤sm (fun p=>shi S (vl L l) p) 8
  ·have hge2 : (S≤sm (fun p=>shi S (vl L l) p) 8)=True:=eq_true hge
   have zf:=And.intro b8.2<|And.intro @hle<|@hge2
   refine VI.sz 9 ?_
   simp only[ds]
   have zf:=And.intro b8.2<|And.intro @hle<|@hge2
   refine VI.sz 3 ?_
   simp only[ds]
   refine VI.gdF zG ?_
   refine VI.s0 4 ?_
   simp only[ds]
   refine VI.callAT zG rfl (f20_ok _) zA (fun Hc gc=>?_)
   refine VI.l0 ?_
   refine zS ?_
   refine V.ret (V.rets rfl (Lv.retF (by simp +contextual (disch:=first|omega|simp only[nx];omega) only[D1,cells_alloc_at,cells_alloc_ne,cells_set_at,cells_set_ne,yres,yres1,yresL,qA,qB,qC,D5,hF,hA,↓reduceIte,qD,qE];rfl) ?_))
   rfl
  ·have hge2 : (S≤sm (fun p=>shi S (vl L l) p) 8)=False:=eq_false hge
   have f34':=f34_ok (m:=5) (S:=S) (L:=L) (h.grow gH8) hl8 hb
   have hns : ¬ 0<sm (vl L l) 8:=fun hh=>hge (s2 hh)
   rw[decide_eq_false hns] at f34'
   have zf:=And.intro b8.2<|And.intro @hle<|@hge2
   refine VI.sz 9 ?_
   simp only[ds]
   have zf:=And.intro b8.2<|And.intro @hle<|@hge2
   refine VI.sz 3 ?_
   simp only[ds]
   refine VI.callAT zG rfl (f34') zA (fun Hb gb=>?_)
   refine VI.s0 4 ?_
   simp only[ds]
   refine VI.callAT zG rfl (f20_ok _) zA (fun Hc gc=>?_)
   refine VI.l0 ?_
   refine zS ?_
   refine V.ret (V.rets rfl (Lv.retF (by simp +contextual (disch:=first|omega|simp only[nx];omega) only[D1,cells_alloc_at,cells_alloc_ne,cells_set_at,cells_set_ne,yres,yres1,yresL,qA,qB,qC,D5,hF,hA,↓reduceIte,qD,qE];rfl) ?_))
   rfl
end Go.Xe.TVX
/- Rules of reasoning over the executable reading of the model's code (part Z16): arguments, by what their types allow. Conditions: none; for every program. -/
namespace Go.Xe
open Go Go.RowKit Go.ChangeShapes Go.WideShapes
theorem okWide_agg {P : Program} {w : World} {r : Reach} {base : Nat} {t : TypeId} {v : Value} {fs : Array Field} (ht : P.underlying t=some (.struct fs)) (h : Value.okWide P w r base t v) : ∃ cs,v=.agg cs:=by
 unfold Value.okWide at h
 rw[ht] at h
 obtain⟨cs,h,_⟩:=h
 exact⟨cs,h⟩
end Go.Xe
/- The end of a call that has changed nothing of what was there: what a statement asks of the memory behind it. Conditions: as post_of_same's, but that new memory may be frozen. -/
namespace Go.Xe
open Go Go.RowKit Go.ChangeShapes Go.WideShapes
variable {H : Type} {enc : TypeId×Value→H} {P : Program}
theorem post_of_old {f : Func} {s : ChangeSpec} {apart fresh handsOn again : Bool} {W W' : World} {args : Array Value} {v : Value} {ds gs : List (DataW H)} {before pa pv : List MemPlace}
  (hW : DataW.Whole enc P f.params.toList s.vars apart W args.toList ds gs before)
  (hres : ∀ (b : Nat) (sp : Nat→Bool) (hd : Bool),DataW.TrodAll enc P W' b sp hd f.resultTypes.toList (v.resultList f.resultTypes.size) (s.fn H (ds++gs)).results [])
  (hargs : ∀ sp : Nat→Bool,(∀ p∈before,sp p.block=true)→DataW.TrodAll enc P W' 0 sp true f.params.toList args.toList (s.fn H (ds++gs)).args pa)
  (hvars : ∀ sp : Nat→Bool,(∀ p∈before,sp p.block=true)→DataW.TrodVars enc P W' sp s.vars (s.fn H (ds++gs)).vars pv)
  (hps : before=pa++pv) (hk : W.keptBut W' (·∈before)) (hfz : ∀ a : Addr,a.block<W.heap.size→W'.frozen? a=W.frozen? a)
  (hok : ∀ (j : Nat) (t : TypeId) (r : Value),f.resultTypes[j]?=some t→(v.resultList f.resultTypes.size)[j]?=some r→Value.okWide P W' .any 0 t r) :
  s.post enc P f apart fresh handsOn again W args v W':=by
 have old : ∀ p∈before,p.block<W.heap.size:=fun p hp=>hW.lt p hp
 have hold : ∀ p∈before,(fun b=>decide (b<W.heap.size)) p.block=true:=fun p hp=>by simpa using old p hp
 subst hps
 refine⟨ds,gs,_,[],pa,pv,hW,hres _ _ _,hargs _ hold,hvars _ hold,World.keptBut_mono (fun p hp=>⟨hp,.inr (List.mem_append.1 hp)⟩) hk,fun _=>?_⟩
 obtain⟨_,_,_,_,_,hz,hn⟩:=hW
 refine⟨hok,_,_,([]++pa)++pv,⟨[]++pa,pv,trodAll_append (hargs _ (fun _ _=>rfl)) (hres _ _ _),hvars _ (fun _ _=>rfl),rfl,?_,?_⟩,?_⟩
 ·intro b off hp
  have hp' : MemPlace.cell b off∈pa++pv:=by simpa using hp
  rw[hfz _ (old _ hp')]
  exact hz b off hp'
 ·intro ha
  simpa using hn ha
 ·intro p hp _
  simpa using hp
end Go.Xe
